import PyProof.Rows.All
import Wide.All
import OpenK.AllK
import Wide.FinOn
import HandS.ForMost
import HandS.Walk
import HandS.TupAny
import HandS.Rev
import HandS.Strs
import HandS.Exc
import HandS.ExcInit
import HandS.ExcIs
import HandS.ExcField
import HandS.ExcOwn
import HandS.WordsExc
import HandS.HotCalls
import HandS.IsInst
import HandS.Conv
import HandS.Codes
import HandS.Zip
import HandS.Flow
import HandS.Deep
import PyProof.Rows.ListStrD
import HandS.Star
import HandS.TupMul
import PyProof.StrOps2
import KE.IntTextLaws
import KE.KExcIs
import HandS.ExcValue
import HandS.RaiseMore
import PySem.Challenge.RW_ledgerproof_k12_filled_templates
set_option Elab.async false
set_option linter.all false
set_option maxRecDepth 100000
namespace Fx
open PySem PySem.Spec PyProof.Rows L2
/-! ### tuples whose object is known to have no dict of its own -/
def Bare (o : Obj) : Prop := o.cls = .type "tuple" ∧ o.dict = none
/-- a new tuple of these items -/
def NewT (xs : List V) (H : Hp) (Q : VK) : Prop := ∀ (p : Addr) (o : Obj), H p = none → Bare o → Q (.ref p) (upd H p (.frz o (.tup xs)))
def tTupN (t : TA) : TE := fun σ H Q => t σ H fun xs H1 => xs.length ≤ sizeLine ∧ NewT xs H1 Q
theorem pe_tupN {X : Cx} {es : List Expr} {t : TA} {pos : Pos} {x1} (hes : PA X es t) : PE X (.Tuple es x1 pos) (tTupN t) := ⟨fun pins s σ H Q I hq =>
  wpAny_Tuple_spliced (thn (hes.run pos pins s σ H _ I hq) fun us s1 w => by
    obtain ⟨ys, H2, J, ry, hz, k⟩ := w
    refine ⟨ry.length ▸ hz, ?_⟩
    have hfree : H2 s1.heap.objs.size = none := J.hok.fresh (Nat.le_refl _)
    refine ⟨.ref s1.heap.objs.size, _, J.laid (t' := s1.toks) (o := .frz _ (.tup ys)) (fun c d e => Heap.get?_push_of_some _ e) (Nat.le_refl _) ⟨Heap.get?_push_size _ rfl, hz, us, ry, ⟨_, Heap.get?_push_size _ rfl, rfl, _, rfl⟩⟩, rfl, k _ _ hfree ⟨rfl, rfl⟩⟩)⟩
def rTupleN (K : PySem.W.Frag) : List V → Hp → VK → Prop := fun xs H Q => ∃ p ys, xs = [.ref p] ∧ ((SqL K H p ys ∧ NewT ys H Q) ∨ (SqT K H p ys ∧ Q (.ref p) H))
theorem call_tupleN {X : Cx} : CallR X (.type "tuple") (rTupleN X.K) := fun pins s σ H xs us Q I r ⟨p, ys, e, h⟩ => by
  subst e
  obtain ⟨u, rfl, ru⟩ := vals1 r
  cases ru
  rcases h with ⟨hl, k⟩ | ⟨ht, k⟩
  · obtain ⟨its, ri, isl, hz⟩ := I.list hl
    have len := ri.length
    refine call_tuple_list isl.isList (fun g kp => ?_) (by simp only [List.size_toArray] <;> omega)
    have J : Inv X pins σ H { s with heap := g } := I.kept (t' := s.toks) kp
    exact ⟨.ref g.objs.size, _, J.laid (t' := s.toks) (o := .frz { cls := .type "tuple", data := .seq its.toArray } (.tup ys)) (fun c d e => Heap.get?_push_of_some _ e) (Nat.le_refl _) ⟨Heap.get?_push_size _ rfl, hz, its, ri, IsTup.new _ _⟩, rfl, k _ _ (J.hok.fresh (Nat.le_refl _)) ⟨rfl, rfl⟩⟩
  · obtain ⟨its, ri, ist, hz⟩ := I.tuple ht
    exact call_tuple_same ist ⟨.ref p, H, I, rfl, k⟩
def rSlN (K : PySem.W.Frag) : V → Option Int → Option Int → Hp → VK → Prop := fun x lo hi H Q => ∃ a xs, x = .ref a ∧ SqT K H a xs ∧
  ((HT.sIx xs.length 0 lo = 0 ∧ HT.sIx xs.length xs.length hi = xs.length) → Q (.ref a) H) ∧ (¬ (HT.sIx xs.length 0 lo = 0 ∧ HT.sIx xs.length xs.length hi = xs.length) → NewT (cutV xs lo hi) H Q)
theorem sl_tupN {X : Cx} : SlR X (rSlN X.K) := fun pins s σ H x v vl vu lo hi sl Q I rx hs pl pu ⟨a, xs, e, hx, q1, q2⟩ => by
  subst e
  cases rx
  obtain ⟨its, ri, ist, hz⟩ := I.tuple hx
  have len : its.toArray.size = xs.length := by rw [List.size_toArray, ← ri.length]
  refine ⟨"tuple", _, PyProof.Rows.slot_tuple_getitem.lookup, ist.typeIs, ?_⟩
  by_cases hw : HT.sIx xs.length 0 lo = 0 ∧ HT.sIx xs.length xs.length hi = xs.length
  · exact getItem_tuple_whole ist hs pl pu (by rw [len]; exact hw) ⟨.ref a, H, I, rfl, q1 hw⟩
  · refine HT.getItem_tuple_cut ist hs pl pu (by rw [len]; exact hw) ?_ (by rw [len]; exact hz)
    rw [len]
    exact ⟨.ref s.heap.objs.size, _, I.laid (t' := s.toks) (o := .frz _ (.tup (cutV xs lo hi))) (fun c d e => Heap.get?_push_of_some _ e) (Nat.le_refl _) ⟨Heap.get?_push_size _ rfl, Nat.le_trans (cutV_length xs lo hi) hz, _, (ri.drop (HT.sIx xs.length 0 lo)).take (HT.sIx xs.length xs.length hi - HT.sIx xs.length 0 lo), IsTup.new _ _⟩, rfl, q2 hw _ _ (I.hok.fresh (Nat.le_refl _)) ⟨rfl, rfl⟩⟩
def rCatN (K : PySem.W.Frag) : R2 := fun x y H Q => ∃ a b xs ys, x = .ref a ∧ y = .ref b ∧ SqT K H a xs ∧ SqT K H b ys ∧ xs.length + ys.length ≤ sizeLine ∧
  (xs = [] → Q (.ref b) H) ∧ (xs ≠ [] → ys = [] → Q (.ref a) H) ∧ (xs ≠ [] → ys ≠ [] → NewT (xs ++ ys) H Q)
theorem op_catN {X : Cx} : OpR X (binaryOp .Add) (rCatN X.K) := fun pins s σ H x y v u Q I rx ry ⟨a, b, xs, ys, e1, e2, ha, hb, hz, q0, q1, q2⟩ => by
  subst e1 e2
  cases rx
  cases ry
  obtain ⟨its, r1, p1, _⟩ := I.tuple ha
  obtain ⟨its2, r2, p2, _⟩ := I.tuple hb
  by_cases hx : xs = []
  · subst hx
    cases r1
    exact cat_tup0 p1 p2 ⟨.ref b, H, I, rfl, q0 rfl⟩
  · have k2 : ∀ z : its2 ≠ [], ys ≠ [] := fun z w => z (r2.nil_iff.mpr w)
    refine HT.cat_tup p1 p2 (fun z => hx (r1.nil_iff.mp z)) (fun z => ⟨.ref a, H, I, rfl, q1 hx (r2.nil_iff.mp z)⟩) (fun z => ?_) (by rw [← r1.length, ← r2.length]; exact hz)
    exact ⟨.ref s.heap.objs.size, _, I.laid (t' := s.toks) (o := .frz _ (.tup (xs ++ ys))) (fun c d e => Heap.get?_push_of_some _ e) (Nat.le_refl _) ⟨Heap.get?_push_size _ rfl, by rw [List.length_append]; exact hz, _, r1.append r2, IsTup.new _ _⟩, rfl, q2 hx (k2 z) _ _ (I.hok.fresh (Nat.le_refl _)) ⟨rfl, rfl⟩⟩
def tTupRevN (K : PySem.W.Frag) (te : TE) : TE := fun σ H Q => te σ H fun v H1 => ∃ (a : Addr) (xs : List V), v = .ref a ∧ SqL K H1 a xs ∧ NewT xs.reverse H1 Q
theorem pe_tupRevN {X : Cx} {e : Expr} {te : TE} {p p2 pos pos2 : Pos} (hc : X.calm = true) (hg : Gl X "tuple") (hm : X.mg "tuple" = none) (hg2 : Gl X "reversed") (hm2 : X.mg "reversed" = none) (he : PE X e te)
    (hs : starEach [e] X.env = (false, eval e X.env) :: starEach [] X.env := by rfl)
    (hs2 : starEach [.Call (.Name "reversed" p2) [e] [] pos2] X.env = (false, eval (.Call (.Name "reversed" p2) [e] [] pos2) X.env) :: starEach [] X.env := by rfl) :
    PE X (.Call (.Name "tuple" p) [.Call (.Name "reversed" p2) [e] [] pos2] [] pos) (tTupRevN X.K te) := ⟨fun pins s σ H Q I h => by
  refine Call_ (ld_blt I hg hm boot_tuple (PyProof.Rows.callWith_type1 (args_cons (Call_ (ld_blt I hg2 hm2 PyProof.Rows.boot_reversed (PyProof.Rows.callWith_type1 (args_cons (thn (he.run pins s σ H _ I h) fun u s1 w => args_nil ?_) hs) hs rfl))) hs2) hs2 rfl))
  obtain ⟨v, H1, J, rv1, a, xs, ev, hl, k⟩ := w
  subst ev
  obtain rfl : u = Value.ref a := rv1
  obtain ⟨its, rv, isl, hz⟩ := J.list hl
  refine call_reversed_list isl.isList (args_nil ?_)
  obtain ⟨f0, f1, f2, f3, f4, f5⟩ := J.fpOk (H' := H1) (b := s1.heap.objs.size) (Nat.le_refl _) (J.hok.fresh (Nat.le_refl _))
  obtain ⟨ol, hol, _⟩ := id isl.isList
  have small : its.toArray.size ≤ sizeLine := by rw [List.size_toArray, ← rv.length]; exact hz
  refine RT.call_tuple_rev (s := { s1 with heap := s1.heap.push (revObj a ((its.toArray.size : Int) - 1)) }) (J.ok.hd hc) ⟨_, Heap.get?_push_size _ rfl, rfl, rfl⟩ (isl.isList.push _) (Nat.ne_of_lt (Heap.lt_size hol)) small fun g tk acc hk hi => ?_
  have J2 : Inv X pins σ H1 { s1 with heap := s1.heap.push (revObj a ((its.toArray.size : Int) - 1)) } := J.kept (t' := s1.toks) fun c d e => Heap.get?_push_of_some _ e
  have J3 : Inv X pins σ H1 { s1 with heap := g, toks := tk } := J2.turned (t' := tk) (fun c d hb e => hk c d hb e) f0 f1 f3 f4 f5
  refine ⟨.ref g.objs.size, _, J3.laid (t' := tk) (o := .frz _ (.tup xs.reverse)) (fun c d e => Heap.get?_push_of_some _ e) (Nat.le_refl _) ⟨Heap.get?_push_size _ rfl, by rw [List.length_reverse]; exact hz, acc.toList, RT.vals_rev rv hi, ?_⟩, rfl, k _ _ (J3.hok.fresh (Nat.le_refl _)) ⟨rfl, rfl⟩⟩
  rw [Array.toArray_toList]
  exact IsTup.new _ _⟩
/-- a method of a tuple -/
def BareAt (K : PySem.W.Frag) (H : Hp) (a : Addr) : Prop := (∃ o xs, H a = some (.frz o (.tup xs)) ∧ Bare o) ∨ ∃ o, K.lookup a = some o ∧ Bare o
def tBMN (K : PySem.W.Frag) (r : V → List V → Hp → VK → Prop) (to : TE) (t : TA) : TE := fun σ H Q => to σ H fun x H1 => (∃ a, x = .ref a ∧ BareAt K H1 a) ∧ t σ H1 fun xs H2 => r x xs H2 Q
theorem bareAt_is {X : Cx} {pins : List (Addr × Obj)} {σ : L2.St} {H : Hp} {s : Shared} {a : Addr} (I : Inv X pins σ H s) (b : BareAt X.K H a) : s.TypeIs (.ref a) "tuple" ∧ ∀ c, Value.ref a = .ref c → ∃ ob, s.heap.get? c = some ob ∧ ob.dict = none := by
  have : ∃ o, s.heap.get? a = some o ∧ Bare o := by
    rcases b with ⟨o, xs, h, hb⟩ | ⟨o, h, hb⟩
    · exact ⟨o, (I.hok a _ h).1, hb⟩
    · exact ⟨o, I.kIn a o h, hb⟩
  obtain ⟨o, h, hb⟩ := this
  exact ⟨⟨o, h, hb.1⟩, fun c e => by cases e; exact ⟨o, h, hb.2⟩⟩
theorem pe_bmN {X : Cx} {o e : Expr} {es : List Expr} {to : TE} {t : TA} {name : Str} {apos cpos : Pos} {id : String} {r : V → List V → Hp → VK → Prop} (slot : Slot "tuple" name id) (hty : typeOf (.builtin id) = pure (.type "method_descriptor")) (hm : MtR X id r) (ho : PE X o to) (ha : PA X (e :: es) t)
    (hbase : attributeBase o name X.env (eval o X.env) = eval o X.env := by rfl)
    (hfew : ((backTo cpos (starEach (e :: es) X.env)).all (fun x => !x.1) && (backToKw cpos (keywordEach [] X.env)).all (fun x => x.1.isSome) && decide ((e :: es).length + ([] : List Keyword).length + (if ([] : List Keyword).isEmpty then 0 else 1) < 30)) = true := by rfl)
    (hline : (apos.endLine == cpos.line) = true := by rfl) (hs : starEach (e :: es) X.env = (false, eval e X.env) :: starEach es X.env := by rfl) (hplain : (backTo cpos (starEach es X.env)).any (·.1) = false := by rfl) :
    PE X (.Call (.Attribute o name apos) (e :: es) [] cpos) (tBMN X.K r to t) := ⟨fun pins s σ H Q I h => by
  refine wpAny_Call_method_late hbase hfew hline rfl (thn (ho.run pins s σ H _ I h) fun v s1 w => ?_)
  obtain ⟨x, H1, J, rx, ⟨a, e, b⟩, k⟩ := w
  subst e
  obtain rfl : v = Value.ref a := rx
  obtain ⟨t1, t2⟩ := bareAt_is J b
  refine ⟨"tuple", id, PySem.F.plainAttrs_tuple, slot, hty, t1, t2, ?_⟩
  have run := ha.run cpos pins s1 σ H1 _ J k
  rw [hs] at run ⊢
  refine Calls.callWith_builtin (by show (false || (backTo cpos (starEach es X.env)).any (·.1)) = false; rw [hplain] <;> rfl) (Calls.evalArgs_plain ?_)
  exact thn run fun us s2 ⟨vs, H2, J2, r2, k2⟩ => hm pins s2 σ H2 (.ref a) vs (.ref a) us Q J2 rfl r2 k2⟩
end Fx
namespace Fx
open PySem PySem.Spec PyProof.Rows L2

/-! values as trees; things that change are named by their number in a store -/
inductive T where
  | non | bl (b : Bool) | int (i : Int) | str (x : Str) | obj (a : Addr) | ty (n : String)
  | tup (ts : List T) | lst (ts : List T) | kst (ts : List T) | ref (i : Nat) | wt (ts : List T)
  | exn (c : Str) (own : Bool) (ns : List Str) (ts : List T)
inductive O where
  | lst (ts : List T)
  | ins (C : Addr) (fs : List (Str × T))
abbrev Sto := List O
abbrev Env := List (Option T)
/-- an error of the program: its class's name, whether it has a dict, its fields -/
structure Exn where
  cls : Str
  own : Bool
  ns : List Str
  ts : List T
/-- where the store's things stand; what stands elsewhere and may change, too -/
structure Wd where
  at_ : List Addr
  out : List Addr
def Wd.av (ρ : Wd) : List Addr := ρ.at_ ++ ρ.out
def Wd.push (ρ : Wd) (p : Addr) : Wd := ⟨ρ.at_ ++ [p], ρ.out⟩
inductive R (α : Type) where
  | ok (a : α) (S : Sto) | err (x : Exn) (S : Sto) | bad
def R.bind {α β : Type} (r : R α) (f : α → Sto → R β) : R β := match r with
  | .ok a S => f a S
  | .err x S => .err x S
  | .bad => .bad
theorem bind_ok {α β : Type} (a : α) (S : Sto) (f : α → Sto → R β) : R.bind (.ok a S) f = f a S := rfl
theorem bind_err {α β : Type} (x : Exn) (S : Sto) (f : α → Sto → R β) : R.bind (.err x S) f = .err x S := rfl
theorem R.bind_assoc {α β γ : Type} (r : R α) (f : α → Sto → R β) (g : β → Sto → R γ) : (r.bind f).bind g = r.bind fun a S => (f a S).bind g := by cases r <;> rfl
theorem bind_bad {α β : Type} (f : α → Sto → R β) : R.bind (.bad) f = .bad := rfl

section
variable (K : PySem.W.Frag)
/-- a tuple, a list that never changes from here on -/
def FT (ρ : Wd) (H : Hp) (a : Addr) (xs : List V) : Prop := ((∃ o, H a = some (.frz o (.tup xs)) ∧ Bare o) ∧ a ∉ ρ.av) ∨ ∃ (o : Obj) (its : Array Value) (n : Nat), K.lookup a = some o ∧ Bare o ∧ o.data = .seq its n ∧ its.size ≤ sizeLine ∧ Vals xs its.toList
def FL (ρ : Wd) (H : Hp) (a : Addr) (xs : List V) : Prop := (Rd H a (.lst xs) ∧ a ∉ ρ.av) ∨ SqL K (fun _ => none) a xs
/-- the class that the program's top has by this name -/
def gaK (c : Str) : Option Addr := match PySem.W.nsIn K mainGlobals c with
  | some (some (.ref f)) => some f
  | _ => none
/-- at a: a caught error of the class at C, its dict at d -/
def exh (a C : Addr) (d : Option Addr) : HO := .ext fun h => ∃ (oe : Obj) (vs : Array Value), h.get? a = some oe ∧ Zc (.ref C) d oe ∧ oe.data = .fields vs
def XD (ρ : Wd) (H : Hp) (d : Option Addr) (own : Bool) (ns : List Str) (xs : List V) : Prop := match d with
  | none => own = false ∧ ns = [] ∧ xs = []
  | some dd => own = true ∧ H dd = some (.xd (ns.zip xs)) ∧ dd ∉ ρ.av ∧ ns.length = xs.length
mutual
inductive Rep (ρ : Wd) (H : Hp) : V → T → Prop
  | non : Rep ρ H .non .non
  | bl (b : Bool) : Rep ρ H (.bl b) (.bl b)
  | int (i : Int) : Rep ρ H (.int i) (.int i)
  | str (x : Str) : Rep ρ H (.str x) (.str x)
  | obj (a : Addr) : Rep ρ H (.ref a) (.obj a)
  | ty (n : String) : Rep ρ H (.ty n) (.ty n)
  | ref {i : Nat} {a : Addr} : ρ.at_[i]? = some a → Rep ρ H (.ref a) (.ref i)
  | tup {a : Addr} {xs : List V} {ts : List T} : FT K ρ H a xs → Reps ρ H xs ts → Rep ρ H (.ref a) (.tup ts)
  | wt {a : Addr} {xs : List V} {ts : List T} : Rd H a (.tup xs) → a ∉ ρ.av → Reps ρ H xs ts → Rep ρ H (.ref a) (.wt ts)
  | lst {a : Addr} {xs : List V} {ts : List T} : H a = some (.lst xs) → a ∉ ρ.av → Reps ρ H xs ts → Rep ρ H (.ref a) (.lst ts)
  | exn {a C : Addr} {d : Option Addr} {c : Str} {own : Bool} {ns : List Str} {xs : List V} {ts : List T} : gaK K c = some C → H a = some (exh a C d) → a ∉ ρ.av → XD ρ H d own ns xs → Reps ρ H xs ts → Rep ρ H (.ref a) (.exn c own ns ts)
  | kst {a : Addr} {xs : List V} {ts : List T} : FL K ρ H a xs → Reps ρ H xs ts → Rep ρ H (.ref a) (.kst ts)
inductive Reps (ρ : Wd) (H : Hp) : List V → List T → Prop
  | nil : Reps ρ H [] []
  | cons {v : V} {t : T} {vs : List V} {ts : List T} : Rep ρ H v t → Reps ρ H vs ts → Reps ρ H (v :: vs) (t :: ts)
end
end

/-- from one state to a later one -/
structure Ext (ρ : Wd) (H : Hp) (ρ' : Wd) (H' : Hp) : Prop where
  pre : ∃ n, ρ'.at_ = ρ.at_ ++ n
  out : ∀ a ∈ ρ.out, a ∈ ρ'.out
  fresh : ∀ p ∈ ρ'.av, p ∉ ρ.av → H p = none
  keep : ∀ a o, H a = some o → a ∉ ρ.at_ → H' a = some o
  old : ∀ a ∈ ρ'.at_, a ∈ ρ.av → a ∈ ρ.at_
section
variable {K : PySem.W.Frag} {ρ ρ' ρ'' : Wd} {H H' H'' : Hp}
theorem Wd.at_av {ρ : Wd} {a : Addr} (h : a ∉ ρ.av) : a ∉ ρ.at_ := fun q => h (List.mem_append_left _ q)
theorem Ext.refl (ρ : Wd) (H : Hp) : Ext ρ H ρ H := ⟨⟨[], (List.append_nil _).symm⟩, fun _ h => h, fun p a b => absurd a b, fun _ _ h _ => h, fun _ h _ => h⟩
theorem Ext.here (k : ∀ a o, H a = some o → a ∉ ρ.at_ → H' a = some o) : Ext ρ H ρ H' := ⟨⟨[], (List.append_nil _).symm⟩, fun _ h => h, fun p a b => absurd a b, k, fun _ h _ => h⟩
theorem Ext.trans (a : Ext ρ H ρ' H') (b : Ext ρ' H' ρ'' H'') : Ext ρ H ρ'' H'' where
  pre := by
    obtain ⟨n, e⟩ := a.pre
    obtain ⟨m, e'⟩ := b.pre
    exact ⟨n ++ m, by rw [e', e, List.append_assoc]⟩
  out := fun x m => b.out x (a.out x m)
  fresh := fun p h1 h2 => by
    by_cases h3 : p ∈ ρ'.av
    · exact a.fresh p h3 h2
    · have h4 := b.fresh p h1 h3
      cases e : H p with
      | none => rfl
      | some o => rw [a.keep p o e (Wd.at_av h2)] at h4; cases h4
  keep := fun x o h1 h2 => by
    refine b.keep x o (a.keep x o h1 h2) fun h3 => ?_
    by_cases h4 : x ∈ ρ.av
    · exact h2 (a.old x h3 h4)
    · rw [a.fresh x (List.mem_append_left _ h3) h4] at h1
      cases h1
  old := fun x h1 h2 => by
    refine a.old x (b.old x h1 ?_) h2
    obtain ⟨n, e⟩ := a.pre
    rcases List.mem_append.mp h2 with h2 | h2
    · exact List.mem_append_left _ (by rw [e]; exact List.mem_append_left _ h2)
    · exact List.mem_append_right _ (a.out x h2)
theorem Ext.nin (a : Ext ρ H ρ' H') {x : Addr} {o : HO} (h : H x = some o) (h2 : x ∉ ρ.av) : x ∉ ρ'.av := fun h3 => by
  rw [a.fresh x h3 h2] at h
  cases h
theorem Ext.rd (e : Ext ρ H ρ' H') {a : Addr} {u : HO} (h : Rd H a u) (n : a ∉ ρ.av) : Rd H' a u ∧ a ∉ ρ'.av := by
  rcases h with h | ⟨o, h⟩
  · exact ⟨.inl (e.keep _ _ h (Wd.at_av n)), e.nin h n⟩
  · exact ⟨.inr ⟨o, e.keep _ _ h (Wd.at_av n)⟩, e.nin h n⟩
structure ExtW (ρ : Wd) (H : Hp) (ρ' : Wd) (H' : Hp) : Prop where
  pre : ∃ n, ρ'.at_ = ρ.at_ ++ n
  fresh : ∀ p ∈ ρ'.av, p ∉ ρ.av → H p = none
  keep : ∀ a o, H a = some o → a ∉ ρ.av → H' a = some o
theorem Ext.w (e : Ext ρ H ρ' H') : ExtW ρ H ρ' H' := ⟨e.pre, e.fresh, fun a o h n => e.keep a o h (Wd.at_av n)⟩
theorem ExtW.refl (ρ : Wd) (H : Hp) : ExtW ρ H ρ H := (Ext.refl ρ H).w
theorem ExtW.nin (a : ExtW ρ H ρ' H') {x : Addr} {o : HO} (h : H x = some o) (h2 : x ∉ ρ.av) : x ∉ ρ'.av := fun h3 => by
  rw [a.fresh x h3 h2] at h
  cases h
theorem ExtW.trans (a : ExtW ρ H ρ' H') (b : ExtW ρ' H' ρ'' H'') : ExtW ρ H ρ'' H'' where
  pre := by
    obtain ⟨n, e⟩ := a.pre
    obtain ⟨m, e'⟩ := b.pre
    exact ⟨n ++ m, by rw [e', e, List.append_assoc]⟩
  fresh := fun p h1 h2 => by
    by_cases h3 : p ∈ ρ'.av
    · exact a.fresh p h3 h2
    · have h4 := b.fresh p h1 h3
      cases h5 : H p with
      | none => rfl
      | some o =>
        rw [a.keep p o h5 h2] at h4
        cases h4
  keep := fun x o h n => b.keep x o (a.keep x o h n) (a.nin h n)
theorem ExtW.rd (e : ExtW ρ H ρ' H') {a : Addr} {u : HO} (h : Rd H a u) (n : a ∉ ρ.av) : Rd H' a u ∧ a ∉ ρ'.av := by
  rcases h with h | ⟨o, h⟩
  · exact ⟨.inl (e.keep _ _ h n), e.nin h n⟩
  · exact ⟨.inr ⟨o, e.keep _ _ h n⟩, e.nin h n⟩
theorem FT.extw {a : Addr} {xs : List V} (h : FT K ρ H a xs) (e : ExtW ρ H ρ' H') : FT K ρ' H' a xs := by
  rcases h with ⟨⟨o, h, b⟩, n⟩ | h
  · exact .inl ⟨⟨o, e.keep _ _ h n, b⟩, e.nin h n⟩
  · exact .inr h
theorem FL.extw {a : Addr} {xs : List V} (h : FL K ρ H a xs) (e : ExtW ρ H ρ' H') : FL K ρ' H' a xs := by
  rcases h with ⟨h, n⟩ | h
  · exact .inl (e.rd h n)
  · exact .inr h
theorem FT.ext {a : Addr} {xs : List V} (h : FT K ρ H a xs) (e : Ext ρ H ρ' H') : FT K ρ' H' a xs := h.extw e.w
theorem FL.ext {a : Addr} {xs : List V} (h : FL K ρ H a xs) (e : Ext ρ H ρ' H') : FL K ρ' H' a xs := by
  rcases h with ⟨h, n⟩ | h
  · exact .inl (e.rd h n)
  · exact .inr h
theorem FT.sq {a : Addr} {xs : List V} (h : FT K ρ H a xs) : SqT K H a xs := by
  rcases h with ⟨⟨o, h, _⟩, _⟩ | ⟨o, its, n, l, b, d, z, r⟩
  · exact .inl (.inr ⟨o, h⟩)
  · exact .inr ⟨o, its, n, l, b.1, d, z, r⟩
theorem FT.bare {a : Addr} {xs : List V} (h : FT K ρ H a xs) : BareAt K H a := by
  rcases h with ⟨⟨o, h, b⟩, _⟩ | ⟨o, its, n, l, b, d, z, r⟩
  · exact .inl ⟨o, xs, h, b⟩
  · exact .inr ⟨o, l, b⟩
theorem FL.sq {a : Addr} {xs : List V} (h : FL K ρ H a xs) : SqL K H a xs := by
  rcases h with ⟨h, _⟩ | h
  · exact .inl h
  · rcases h with (h | ⟨_, h⟩) | h
    · cases h
    · cases h
    · exact .inr h
theorem getE_pre {ρ n : List Addr} {i : Nat} {a : Addr} (h : ρ[i]? = some a) : (ρ ++ n)[i]? = some a := by
  obtain ⟨hi, _⟩ := List.getElem?_eq_some_iff.mp h
  rw [List.getElem?_append_left hi]
  exact h
theorem Ext.get (e : Ext ρ H ρ' H') {i : Nat} {a : Addr} (h : ρ.at_[i]? = some a) : ρ'.at_[i]? = some a := by
  obtain ⟨n, q⟩ := e.pre
  rw [q]
  exact getE_pre h
theorem ExtW.get (e : ExtW ρ H ρ' H') {i : Nat} {a : Addr} (h : ρ.at_[i]? = some a) : ρ'.at_[i]? = some a := by
  obtain ⟨n, q⟩ := e.pre
  rw [q]
  exact getE_pre h
theorem XD.mono {d : Option Addr} {own : Bool} {ns : List Str} {xs : List V} (k : ∀ b o, H b = some o → b ∉ ρ.av → H' b = some o ∧ b ∉ ρ'.av) (h : XD ρ H d own ns xs) : XD ρ' H' d own ns xs := by
  cases d with
  | none => exact h
  | some dd => exact ⟨h.1, (k _ _ h.2.1 h.2.2.1).1, (k _ _ h.2.1 h.2.2.1).2, h.2.2.2⟩
mutual
theorem Rep.extw (e : ExtW ρ H ρ' H') : ∀ {v : V} {t : T}, Rep K ρ H v t → Rep K ρ' H' v t
  | _, _, .non => .non
  | _, _, .bl b => .bl b
  | _, _, .int i => .int i
  | _, _, .str x => .str x
  | _, _, .obj a => .obj a
  | _, _, .ty n => .ty n
  | _, _, .ref h => .ref (e.get h)
  | _, _, .tup h r => .tup (h.extw e) (Reps.extw e r)
  | _, _, .wt h n r => .wt (e.rd h n).1 (e.rd h n).2 (Reps.extw e r)
  | _, _, .exn g h n x r => .exn g (e.keep _ _ h n) (e.nin h n) (x.mono fun b o z m => ⟨e.keep _ _ z m, e.nin z m⟩) (Reps.extw e r)
  | _, _, .lst h n r => .lst (e.keep _ _ h n) (e.nin h n) (Reps.extw e r)
  | _, _, .kst h r => .kst (h.extw e) (Reps.extw e r)
theorem Reps.extw (e : ExtW ρ H ρ' H') : ∀ {v : List V} {t : List T}, Reps K ρ H v t → Reps K ρ' H' v t
  | _, _, .nil => .nil
  | _, _, .cons h r => .cons (Rep.extw e h) (Reps.extw e r)
end
mutual
theorem Rep.ext (e : Ext ρ H ρ' H') : ∀ {v : V} {t : T}, Rep K ρ H v t → Rep K ρ' H' v t
  | _, _, .non => .non
  | _, _, .bl b => .bl b
  | _, _, .int i => .int i
  | _, _, .str x => .str x
  | _, _, .obj a => .obj a
  | _, _, .ty n => .ty n
  | _, _, .ref h => .ref (e.get h)
  | _, _, .tup h r => .tup (h.ext e) (Reps.ext e r)
  | _, _, .wt h n r => .wt (e.rd h n).1 (e.rd h n).2 (Reps.ext e r)
  | _, _, .exn g h n x r => .exn g (e.keep _ _ h (Wd.at_av n)) (e.nin h n) (x.mono fun b o z m => ⟨e.keep _ _ z (Wd.at_av m), e.nin z m⟩) (Reps.ext e r)
  | _, _, .lst h n r => .lst (e.keep _ _ h (Wd.at_av n)) (e.nin h n) (Reps.ext e r)
  | _, _, .kst h r => .kst (h.ext e) (Reps.ext e r)
theorem Reps.ext (e : Ext ρ H ρ' H') : ∀ {v : List V} {t : List T}, Reps K ρ H v t → Reps K ρ' H' v t
  | _, _, .nil => .nil
  | _, _, .cons h r => .cons (Rep.ext e h) (Reps.ext e r)
end
theorem Reps.length : ∀ {v : List V} {t : List T}, Reps K ρ H v t → v.length = t.length
  | _, _, .nil => rfl
  | _, _, .cons _ r => congrArg (· + 1) (Reps.length r)
theorem Reps.append : ∀ {v v' : List V} {t t' : List T}, Reps K ρ H v t → Reps K ρ H v' t' → Reps K ρ H (v ++ v') (t ++ t')
  | _, _, _, _, .nil, r => r
  | _, _, _, _, .cons h r, r' => .cons h (Reps.append r r')
theorem Reps.get : ∀ {v : List V} {t : List T} {i : Nat} {x : T}, Reps K ρ H v t → t[i]? = some x → ∃ y, v[i]? = some y ∧ Rep K ρ H y x
  | _, _, i, _, .nil, e => by simp at e
  | _, _, 0, _, .cons h r, e => by
    have e := Option.some.inj e
    subst e
    exact ⟨_, rfl, h⟩
  | _, _, i + 1, _, .cons h r, e => Reps.get (i := i) r (by simpa using e)
theorem Reps.get' : ∀ {v : List V} {t : List T} {i : Nat} {y : V}, Reps K ρ H v t → v[i]? = some y → ∃ x, t[i]? = some x ∧ Rep K ρ H y x
  | _, _, i, _, .nil, e => by simp at e
  | _, _, 0, _, .cons h r, e => by
    have e := Option.some.inj e
    subst e
    exact ⟨_, rfl, h⟩
  | _, _, i + 1, _, .cons h r, e => Reps.get' (i := i) r (by simpa using e)
theorem Reps.set : ∀ {v : List V} {t : List T} (i : Nat) {y : V} {x : T}, Rep K ρ H y x → Reps K ρ H v t → Reps K ρ H (v.set i y) (t.set i x)
  | _, _, _, _, _, _, .nil => .nil
  | _, _, 0, _, _, q, .cons h r => .cons q r
  | _, _, i + 1, _, _, q, .cons h r => .cons h (Reps.set i q r)
theorem Reps.take : ∀ {v : List V} {t : List T} (n : Nat), Reps K ρ H v t → Reps K ρ H (v.take n) (t.take n)
  | _, _, 0, _ => by simpa using Reps.nil
  | _, _, n + 1, .nil => .nil
  | _, _, n + 1, .cons h r => .cons h (Reps.take n r)
theorem Reps.drop : ∀ {v : List V} {t : List T} (n : Nat), Reps K ρ H v t → Reps K ρ H (v.drop n) (t.drop n)
  | _, _, 0, r => r
  | _, _, n + 1, .nil => .nil
  | _, _, n + 1, .cons h r => Reps.drop n r
theorem Reps.eraseIdx : ∀ {v : List V} {t : List T} (n : Nat), Reps K ρ H v t → Reps K ρ H (v.eraseIdx n) (t.eraseIdx n)
  | _, _, 0, .nil => .nil
  | _, _, 0, .cons h r => r
  | _, _, n + 1, .nil => .nil
  | _, _, n + 1, .cons h r => .cons h (Reps.eraseIdx n r)
theorem Reps.reverse : ∀ {v : List V} {t : List T}, Reps K ρ H v t → Reps K ρ H v.reverse t.reverse
  | _, _, .nil => .nil
  | _, _, .cons h r => by
    rw [List.reverse_cons, List.reverse_cons]
    exact Reps.append (Reps.reverse r) (.cons h .nil)
theorem Reps.dropLast {v : List V} {t : List T} (h : Reps K ρ H v t) : Reps K ρ H v.dropLast t.dropLast := by
  rw [List.dropLast_eq_take, List.dropLast_eq_take, h.length]
  exact h.take _
end

section
variable {K : PySem.W.Frag} {ρ ρ' : Wd} {H : Hp}
mutual
/-- the same under another world that avoids no more -/
theorem Rep.to (hr : ∀ (i : Nat) (a : Addr), ρ.at_[i]? = some a → ρ'.at_[i]? = some a) (ha : ∀ a, a ∉ ρ.av → a ∉ ρ'.av) : ∀ {v : V} {t : T}, Rep K ρ H v t → Rep K ρ' H v t
  | _, _, .non => .non
  | _, _, .bl b => .bl b
  | _, _, .int i => .int i
  | _, _, .str x => .str x
  | _, _, .obj a => .obj a
  | _, _, .ty n => .ty n
  | _, _, .ref h => .ref (hr _ _ h)
  | _, _, .tup h r => .tup (h.imp (fun q => ⟨q.1, ha _ q.2⟩) id) (Reps.to hr ha r)
  | _, _, .wt h n r => .wt h (ha _ n) (Reps.to hr ha r)
  | _, _, .exn g h n x r => .exn g h (ha _ n) (x.mono fun b o z m => ⟨z, ha _ m⟩) (Reps.to hr ha r)
  | _, _, .lst h n r => .lst h (ha _ n) (Reps.to hr ha r)
  | _, _, .kst h r => .kst (h.imp (fun q => ⟨q.1, ha _ q.2⟩) id) (Reps.to hr ha r)
theorem Reps.to (hr : ∀ (i : Nat) (a : Addr), ρ.at_[i]? = some a → ρ'.at_[i]? = some a) (ha : ∀ a, a ∉ ρ.av → a ∉ ρ'.av) : ∀ {v : List V} {t : List T}, Reps K ρ H v t → Reps K ρ' H v t
  | _, _, .nil => .nil
  | _, _, .cons h r => .cons (Rep.to hr ha h) (Reps.to hr ha r)
end
end

/-! the store's things and where they stand -/
inductive RepF (K : PySem.W.Frag) (ρ : Wd) (H : Hp) : List (Str × V) → List (Str × T) → Prop
  | nil : RepF K ρ H [] []
  | cons {f : Str} {v : V} {t : T} {vs : List (Str × V)} {ts : List (Str × T)} : Rep K ρ H v t → RepF K ρ H vs ts → RepF K ρ H ((f, v) :: vs) ((f, t) :: ts)
def RepO (K : PySem.W.Frag) (ρ : Wd) (H : Hp) (a : Addr) : O → Prop
  | .lst ts => ∃ xs, H a = some (.lst xs) ∧ Reps K ρ H xs ts
  | .ins C fs => ∃ dx vs, H a = some (.ins C dx vs) ∧ RepF K ρ H vs fs
structure Sta (K : PySem.W.Frag) (ρ : Wd) (H : Hp) (S : Sto) : Prop where
  len : ρ.at_.length = S.length
  nd : ρ.av.Nodup
  al : ∀ a ∈ ρ.out, ∃ xs, H a = some (.lst xs) ∨ ∃ C dx fs, H a = some (.ins C dx fs)
  at_ : ∀ (i : Nat) (a : Addr) (o : O), ρ.at_[i]? = some a → S[i]? = some o → RepO K ρ H a o
structure REnv (K : PySem.W.Frag) (ρ : Wd) (H : Hp) (σ : L2.St) (τ : Env) : Prop where
  len : σ.length = τ.length
  at_ : ∀ (i : Nat) (t : T), τ[i]? = some (some t) → ∃ v, σ[i]? = some (some v) ∧ Rep K ρ H v t
section
variable {K : PySem.W.Frag} {ρ ρ' ρ'' : Wd} {H H' H'' : Hp} {S S' : Sto} {σ : L2.St} {τ : Env}
theorem RepF.ext (e : Ext ρ H ρ' H') : ∀ {v : List (Str × V)} {t : List (Str × T)}, RepF K ρ H v t → RepF K ρ' H' v t
  | _, _, .nil => .nil
  | _, _, .cons h r => .cons (h.ext e) (RepF.ext e r)
theorem REnv.ext (h : REnv K ρ H σ τ) (e : Ext ρ H ρ' H') : REnv K ρ' H' σ τ := ⟨h.len, fun i t q => by
  obtain ⟨v, a, b⟩ := h.at_ i t q
  exact ⟨v, a, b.ext e⟩⟩
theorem REnv.set (h : REnv K ρ H σ τ) (i : Nat) {v : V} {t : T} (r : Rep K ρ H v t) : REnv K ρ H (σ.set i (some v)) (τ.set i (some t)) := ⟨by rw [List.length_set, List.length_set, h.len], fun j u q => by
  rw [List.getElem?_set] at q ⊢
  by_cases e : i = j
  · rw [if_pos e] at q ⊢
    by_cases l : i < τ.length
    · have l' : i < σ.length := by rw [h.len]; exact l
      rw [if_pos l] at q
      rw [if_pos l']
      have q := Option.some.inj (Option.some.inj q)
      subst q
      exact ⟨v, rfl, r⟩
    · rw [if_neg l] at q
      cases q
  · rw [if_neg e] at q ⊢
    exact h.at_ j u q⟩
theorem Sta.look (h : Sta K ρ H S) {i : Nat} {o : O} (q : S[i]? = some o) : ∃ a, ρ.at_[i]? = some a ∧ RepO K ρ H a o := by
  obtain ⟨hi, _⟩ := List.getElem?_eq_some_iff.mp q
  have hj : i < ρ.at_.length := by rw [h.len]; exact hi
  exact ⟨ρ.at_[i], List.getElem?_eq_getElem hj, h.at_ i _ o (List.getElem?_eq_getElem hj) q⟩
theorem RepO.is {a : Addr} : ∀ {o : O}, RepO K ρ H a o → ∃ u, H a = Option.some u
  | .lst _, ⟨_, h, _⟩ => ⟨_, h⟩
  | .ins _ _, ⟨_, _, h, _⟩ => ⟨_, h⟩
theorem RepO.ext {a : Addr} (e : Ext ρ H ρ' H') (k : H' a = H a) : ∀ {o : O}, RepO K ρ H a o → RepO K ρ' H' a o
  | .lst _, ⟨_, h, r⟩ => ⟨_, k.trans h, r.ext e⟩
  | .ins _ _, ⟨_, _, h, r⟩ => ⟨_, _, k.trans h, r.ext e⟩
theorem Sta.alive (h : Sta K ρ H S) {p : Addr} (m : p ∈ ρ.av) : ∃ u, H p = Option.some u := by
  rcases List.mem_append.mp m with m | m
  · obtain ⟨i, hi, e⟩ := List.getElem_of_mem m
    have hj : i < S.length := by rw [← h.len]; exact hi
    exact (h.at_ i p S[i] (by rw [List.getElem?_eq_getElem hi, e]) (List.getElem?_eq_getElem hj)).is
  · obtain ⟨xs, q | ⟨_, _, _, q⟩⟩ := h.al p m
    · exact ⟨_, q⟩
    · exact ⟨_, q⟩
/-- what is new stands nowhere in the store -/
theorem Sta.new (h : Sta K ρ H S) {p : Addr} (n : H p = none) : p ∉ ρ.av := fun m => by
  obtain ⟨u, q⟩ := h.alive m
  rw [q] at n
  cases n
/-- what stands elsewhere stays -/
theorem Sta.off (h : Sta K ρ H S) {a : Addr} (m : a ∈ ρ.out) : a ∉ ρ.at_ := fun q => by
  have d := (List.nodup_append.mp h.nd).2.2
  exact d a q a m rfl
/-- a new frozen thing -/
theorem Ext.push {p : Addr} {o : HO} (n : H p = none) (hn : p ∉ ρ.av) : Ext ρ H ρ (upd H p o) := Ext.here fun a u h _ => by
  rw [upd_ne (ne_of_none h n)]
  exact h
theorem Sta.al' (h : Sta K ρ H S) (k : ∀ a o, H a = Option.some o → a ∉ ρ.at_ → H' a = Option.some o) : ∀ a ∈ ρ.out, ∃ xs, H' a = Option.some (.lst xs) ∨ ∃ C dx fs, H' a = Option.some (.ins C dx fs) := fun a m => by
  obtain ⟨xs, q | ⟨C, dx, fs, q⟩⟩ := h.al a m
  · exact ⟨xs, .inl (k _ _ q (h.off m))⟩
  · exact ⟨xs, .inr ⟨C, dx, fs, k _ _ q (h.off m)⟩⟩
theorem Sta.push (h : Sta K ρ H S) {p : Addr} {o : HO} (n : H p = none) : Sta K ρ (upd H p o) S := ⟨h.len, h.nd, h.al' (Ext.push n (h.new n)).keep, fun i a u e q => by
  have r := h.at_ i a u e q
  have ne : a ≠ p := fun z => by
    obtain ⟨w, hw⟩ := r.is
    rw [z, n] at hw
    cases hw
  exact r.ext (Ext.push n (h.new n)) (upd_ne ne)⟩
/-- a new thing of the store -/
theorem Ext.more {p : Addr} {o : HO} (n : H p = none) (hn : p ∉ ρ.av) : Ext ρ H (ρ.push p) (upd H p o) where
  pre := ⟨[p], rfl⟩
  out := fun _ h => h
  fresh := fun q a b => by
    rcases List.mem_append.mp a with a | a
    · rcases List.mem_append.mp a with a | a
      · exact absurd (List.mem_append_left _ a) b
      · rw [List.mem_singleton.mp a]; exact n
    · exact absurd (List.mem_append_right _ a) b
  keep := fun a u h _ => by
    rw [upd_ne (ne_of_none h n)]
    exact h
  old := fun a h1 h2 => by
    rcases List.mem_append.mp h1 with h1 | h1
    · exact h1
    · rw [List.mem_singleton.mp h1] at h2
      exact absurd h2 hn
theorem nd_push {ρ : Wd} {p : Addr} (h : ρ.av.Nodup) (hn : p ∉ ρ.av) : (ρ.push p).av.Nodup := by
  unfold Wd.push Wd.av at *
  rw [List.append_assoc]
  simp only [List.nodup_append, List.mem_append, List.singleton_append, List.nodup_cons, List.mem_cons, not_or] at h hn ⊢
  refine ⟨h.1, ⟨hn.2, h.2.1⟩, fun a ha b hb => ?_⟩
  rcases hb with hb | hb
  · rw [hb]
    exact fun e => hn.1 (e ▸ ha)
  · exact h.2.2 a ha b hb
theorem Sta.more (h : Sta K ρ H S) {p : Addr} {o : HO} {u : O} (n : H p = none) (r : RepO K (ρ.push p) (upd H p o) p u) : Sta K (ρ.push p) (upd H p o) (S ++ [u]) := by
  have hn := h.new n
  have x := Ext.more (o := o) n hn
  refine ⟨by simp [Wd.push, h.len], nd_push h.nd hn, h.al' x.keep, fun i a w e q => ?_⟩
  by_cases hi : i < S.length
  · rw [List.getElem?_append_left hi] at q
    have e : (ρ.at_ ++ [p])[i]? = Option.some a := e
    rw [List.getElem?_append_left (by rw [h.len]; exact hi)] at e
    have r := h.at_ i a w e q
    have ne : a ≠ p := fun z => by
      obtain ⟨w, hw⟩ := r.is
      rw [z, n] at hw
      cases hw
    exact r.ext x (upd_ne ne)
  · have hj : i = S.length := by
      obtain ⟨q1, _⟩ := List.getElem?_eq_some_iff.mp q
      rw [List.length_append, List.length_singleton] at q1
      omega
    subst hj
    rw [List.getElem?_append_right (Nat.le_refl _), Nat.sub_self] at q
    have e : (ρ.at_ ++ [p])[S.length]? = Option.some a := e
    rw [← h.len, List.getElem?_append_right (Nat.le_refl _), Nat.sub_self] at e
    have q := Option.some.inj q
    have e := Option.some.inj e
    subst q
    subst e
    exact r
/-- a thing of the store is changed -/
theorem Ext.put {a : Addr} {o : HO} (m : a ∈ ρ.at_) : Ext ρ H ρ (upd H a o) := Ext.here fun b u h n => by
  rw [upd_ne (show b ≠ a from fun z => n (by rw [z]; exact m))]
  exact h
theorem Sta.put (h : Sta K ρ H S) {i : Nat} {a : Addr} {o : HO} {u : O} (e : ρ.at_[i]? = Option.some a) (r : RepO K ρ (upd H a o) a u) : Sta K ρ (upd H a o) (S.set i u) := by
  have m : a ∈ ρ.at_ := List.mem_of_getElem? e
  refine ⟨by rw [List.length_set, h.len], h.nd, h.al' (Ext.put m).keep, fun j b w ej q => ?_⟩
  rw [List.getElem?_set] at q
  by_cases z : i = j
  · rw [if_pos z] at q
    split at q
    · have q := Option.some.inj q
      subst q
      subst z
      rw [e] at ej
      have ej := Option.some.inj ej
      subst ej
      exact r
    · cases q
  · rw [if_neg z] at q
    have ne : b ≠ a := fun y => z (by
      subst y
      obtain ⟨i1, e1⟩ := List.getElem?_eq_some_iff.mp e
      obtain ⟨j1, e2⟩ := List.getElem?_eq_some_iff.mp ej
      exact (List.getElem_inj (List.nodup_append.mp h.nd).1).mp (e1.trans e2.symm))
    exact (h.at_ j b w ej q).ext (Ext.put m) (upd_ne ne)
end

section
variable {K : PySem.W.Frag} {ρ ρ' : Wd} {H : Hp} {S : Sto}
theorem RepF.to (hr : ∀ (i : Nat) (a : Addr), ρ.at_[i]? = some a → ρ'.at_[i]? = some a) (ha : ∀ a, a ∉ ρ.av → a ∉ ρ'.av) : ∀ {v : List (Str × V)} {t : List (Str × T)}, RepF K ρ H v t → RepF K ρ' H v t
  | _, _, .nil => .nil
  | _, _, .cons h r => .cons (h.to hr ha) (RepF.to hr ha r)
theorem RepO.to (hr : ∀ (i : Nat) (a : Addr), ρ.at_[i]? = some a → ρ'.at_[i]? = some a) (ha : ∀ a, a ∉ ρ.av → a ∉ ρ'.av) {a : Addr} : ∀ {o : O}, RepO K ρ H a o → RepO K ρ' H a o
  | .lst _, ⟨_, h, r⟩ => ⟨_, h, r.to hr ha⟩
  | .ins _ _, ⟨_, _, h, r⟩ => ⟨_, _, h, r.to hr ha⟩
end

/-! what is wanted of an outcome -/
def Post (K : PySem.W.Frag) (E : XK) (ρ : Wd) (H : Hp) {α : Type} (r : R α) (Q : Wd → Hp → α → Sto → Prop) : Prop := match r with
  | .ok a S' => ∀ ρ' H', Ext ρ H ρ' H' → Sta K ρ' H' S' → Q ρ' H' a S'
  | .err x S' => ∀ ρ' H' C d vs, Ext ρ H ρ' H' → Sta K ρ' H' S' → gaK K x.cls = some C → XD ρ' H' d x.own x.ns vs → Reps K ρ' H' vs x.ts → E (.ref C) d H'
  | .bad => False
end Fx
namespace Fx
open PySem PySem.Spec PyProof.Rows L2

section
variable {K : PySem.W.Frag} {E : XK} {ρ ρ' ρ1 : Wd} {H H' H1 : Hp} {α β : Type}
theorem Post.imp {r : R α} {Q Q' : Wd → Hp → α → Sto → Prop} (h : Post K E ρ H r Q) (i : ∀ ρ1 H1 a S1, Ext ρ H ρ1 H1 → Sta K ρ1 H1 S1 → Q ρ1 H1 a S1 → Q' ρ1 H1 a S1) : Post K E ρ H r Q' := by
  cases r with
  | ok a S => exact fun ρ' H' e s => i _ _ _ _ e s (h ρ' H' e s)
  | err x S => exact h
  | bad => exact h
theorem Post.ext {r : R α} {Q : Wd → Hp → α → Sto → Prop} (h : Post K E ρ H r Q) (e : Ext ρ H ρ1 H1) : Post K E ρ1 H1 r Q := by
  cases r with
  | ok a S => exact fun ρ' H' e' s => h ρ' H' (e.trans e') s
  | err x S => exact fun ρ' H' C d vs e' s => h ρ' H' C d vs (e.trans e') s
  | bad => exact h
theorem Post.step {r : R α} {f : α → Sto → R β} {Q : Wd → Hp → β → Sto → Prop} {Q' : Wd → Hp → α → Sto → Prop} (h : Post K E ρ H (r.bind f) Q)
    (i : ∀ ρ1 H1 a S1, Ext ρ H ρ1 H1 → Sta K ρ1 H1 S1 → Post K E ρ1 H1 (f a S1) Q → Q' ρ1 H1 a S1) : Post K E ρ H r Q' := by
  cases r with
  | ok a S => exact fun ρ' H' e s => i _ _ _ _ e s (Post.ext (r := f a S) h e)
  | err x S => exact h
  | bad => exact h
theorem Post.ok {a : α} {S : Sto} {Q : Wd → Hp → α → Sto → Prop} (h : Post K E ρ H (.ok a S) Q) (s : Sta K ρ H S) : Q ρ H a S := h ρ H (Ext.refl ρ H) s
end

/-! the readings -/
abbrev QE (K : PySem.W.Frag) (Q : VK) : Wd → Hp → T → Sto → Prop := fun ρ H t _ => ∀ v, Rep K ρ H v t → Q v H
def tM (K : PySem.W.Frag) (E : XK) (m : Env → Sto → R T) : TE := fun σ H Q => ∃ ρ τ S, Sta K ρ H S ∧ REnv K ρ H σ τ ∧ Post K E ρ H (m τ S) (QE K Q)
def tB (K : PySem.W.Frag) (E : XK) (m : Env → Sto → R Bool) : TT := fun σ H Q => ∃ ρ τ S, Sta K ρ H S ∧ REnv K ρ H σ τ ∧ Post K E ρ H (m τ S) (fun _ H' b _ => Q b H')
def tA (K : PySem.W.Frag) (E : XK) (m : Env → Sto → R (List T)) : TA := fun σ H Q => ∃ ρ τ S, Sta K ρ H S ∧ REnv K ρ H σ τ ∧ Post K E ρ H (m τ S) (fun ρ' H' ts _ => ∀ vs, Reps K ρ' H' vs ts → Q vs H')
inductive Fl where
  | nx (τ : Env) | rt (t : T) | bk (τ : Env) | ct (τ : Env)
def QS (K : PySem.W.Frag) (D : Ends) : Wd → Hp → Fl → Sto → Prop := fun ρ H f _ => match f with
  | .nx τ => ∀ σ, REnv K ρ H σ τ → D.nx σ H
  | .bk τ => ∀ σ, REnv K ρ H σ τ → D.bk σ H
  | .ct τ => ∀ σ, REnv K ρ H σ τ → D.ct σ H
  | .rt t => ∀ v, Rep K ρ H v t → D.rt v H
def tS (K : PySem.W.Frag) (E : XK) (m : Env → Sto → R Fl) : TS := fun D σ H => ∃ ρ τ S, Sta K ρ H S ∧ REnv K ρ H σ τ ∧ Post K E ρ H (m τ S) (QS K D)

section
variable {X : Cx}
theorem PE.of {e : Expr} {t t' : TE} (h : PE X e t) (i : ∀ σ H Q, t' σ H Q → t σ H Q) : PE X e t' := ⟨fun pins s σ H Q I hw => h.run pins s σ H Q I (i σ H Q hw)⟩
theorem PT.of {e : Expr} {t t' : TT} (h : PT X e t) (i : ∀ σ H Q, t' σ H Q → t σ H Q) : PT X e t' := ⟨fun pins s σ H Q I hw => h.run pins s σ H Q I (i σ H Q hw)⟩
theorem PW.of {e : Expr} {t t' : TT} (h : PW X e t) (i : ∀ σ H Q, t' σ H Q → t σ H Q) : PW X e t' := ⟨fun wh pins s σ H Q I hw => h.run wh pins s σ H Q I (i σ H Q hw)⟩
theorem PA.of {e : List Expr} {t t' : TA} (h : PA X e t) (i : ∀ σ H Q, t' σ H Q → t σ H Q) : PA X e t' := ⟨fun pos pins s σ H Q I hw => h.run pos pins s σ H Q I (i σ H Q hw)⟩
theorem PS.of {e : Stmt} {t t' : TS} (h : PS X e t) (i : ∀ D σ H, t' D σ H → t D σ H) : PS X e t' := ⟨fun pins s σ H D I hw => h.run pins s σ H D I (i D σ H hw)⟩
theorem PSs.of {e : List Stmt} {t t' : TS} (h : PSs X e t) (i : ∀ D σ H, t' D σ H → t D σ H) : PSs X e t' := ⟨fun pins s σ H D I hw => h.run pins s σ H D I (i D σ H hw)⟩
end

/-! ### the mirrors of expressions -/
def mVar (i : Nat) : Env → Sto → R T := fun τ S => match τ[i]? with
  | some (some t) => .ok t S
  | _ => .bad
def mC (t : T) : Env → Sto → R T := fun _ S => .ok t S
def mBin (f : T → T → Sto → R T) (a b : Env → Sto → R T) : Env → Sto → R T := fun τ S => (a τ S).bind fun x S1 => (b τ S1).bind fun y S2 => f x y S2
def mUn (f : T → Sto → R T) (a : Env → Sto → R T) : Env → Sto → R T := fun τ S => (a τ S).bind fun x S1 => f x S1
def mNil : Env → Sto → R (List T) := fun _ S => .ok [] S
def mCons (a : Env → Sto → R T) (b : Env → Sto → R (List T)) : Env → Sto → R (List T) := fun τ S => (a τ S).bind fun x S1 => (b τ S1).bind fun y S2 => .ok (x :: y) S2
def mFn (f : List T → Sto → R T) (a : Env → Sto → R (List T)) : Env → Sto → R T := fun τ S => (a τ S).bind f
def mMt (f : T → List T → Sto → R T) (o : Env → Sto → R T) (a : Env → Sto → R (List T)) : Env → Sto → R T := fun τ S => (o τ S).bind fun x S1 => (a τ S1).bind fun ts S2 => f x ts S2
def mIte (c : Env → Sto → R Bool) (a b : Env → Sto → R T) : Env → Sto → R T := fun τ S => (c τ S).bind fun k S1 => if k = true then a τ S1 else b τ S1
def toB (t : T) (S : Sto) : R Bool := match t with
  | .bl b => .ok b S
  | _ => .bad
def mTst (a : Env → Sto → R T) : Env → Sto → R Bool := fun τ S => (a τ S).bind toB
def mAnd (a b : Env → Sto → R Bool) : Env → Sto → R Bool := fun τ S => (a τ S).bind fun k S1 => if k = true then b τ S1 else .ok false S1
def mOr (a b : Env → Sto → R Bool) : Env → Sto → R Bool := fun τ S => (a τ S).bind fun k S1 => if k = true then .ok true S1 else b τ S1
def mNot (a : Env → Sto → R Bool) : Env → Sto → R Bool := fun τ S => (a τ S).bind fun k S1 => .ok (!k) S1
def mBv (a : Env → Sto → R Bool) : Env → Sto → R T := fun τ S => (a τ S).bind fun k S1 => .ok (.bl k) S1
def mAndV (a b : Env → Sto → R T) : Env → Sto → R T := fun τ S => (a τ S).bind fun x S1 => (toB x S1).bind fun k S2 => if k = true then b τ S2 else .ok (.bl false) S2
def mOrV (a b : Env → Sto → R T) : Env → Sto → R T := fun τ S => (a τ S).bind fun x S1 => (toB x S1).bind fun k S2 => if k = true then .ok (.bl true) S2 else b τ S2
def mNotV (a : Env → Sto → R T) : Env → Sto → R T := fun τ S => (a τ S).bind fun x S1 => (toB x S1).bind fun k S2 => .ok (.bl (!k)) S2
def mTup (a : Env → Sto → R (List T)) : Env → Sto → R T := fun τ S => (a τ S).bind fun ts S1 => if ts.length ≤ 100000 then .ok (.tup ts) S1 else .bad
/-- a new list: one that never changes from here on, or one of the store -/
def newL (fz : Bool) (ts : List T) (S : Sto) : R T := if fz = true then .ok (.lst ts) S else .ok (.ref S.length) (S ++ [.lst ts])
def mLst (fz : Bool) (a : Env → Sto → R (List T)) : Env → Sto → R T := fun τ S => (a τ S).bind fun ts S1 => if ts.length ≤ 100000 then newL fz ts S1 else .bad
/-! ### of statements -/
def sNext : Env → Sto → R Fl := fun τ S => .ok (.nx τ) S
def sSeq (a b : Env → Sto → R Fl) : Env → Sto → R Fl := fun τ S => (a τ S).bind fun f S1 => match f with
  | .nx τ1 => b τ1 S1
  | .rt t => .ok (.rt t) S1
  | .bk τ1 => .ok (.bk τ1) S1
  | .ct τ1 => .ok (.ct τ1) S1
def sSet (i : Nat) (a : Env → Sto → R T) : Env → Sto → R Fl := fun τ S => (a τ S).bind fun x S1 => .ok (.nx (τ.set i (some x))) S1
def sDrop (a : Env → Sto → R T) : Env → Sto → R Fl := fun τ S => (a τ S).bind fun _ S1 => .ok (.nx τ) S1
def sRet (a : Env → Sto → R T) : Env → Sto → R Fl := fun τ S => (a τ S).bind fun x S1 => .ok (.rt x) S1
def sRetN : Env → Sto → R Fl := fun _ S => .ok (.rt .non) S
def sBreak : Env → Sto → R Fl := fun τ S => .ok (.bk τ) S
def sCont : Env → Sto → R Fl := fun τ S => .ok (.ct τ) S
def sIf (c : Env → Sto → R Bool) (a b : Env → Sto → R Fl) : Env → Sto → R Fl := fun τ S => (c τ S).bind fun k S1 => if k = true then a τ S1 else b τ S1
def sAug (i : Nat) (f : T → T → Sto → R T) (a : Env → Sto → R T) : Env → Sto → R Fl := fun τ S => (mVar i τ S).bind fun x S0 => (a τ S0).bind fun y S1 => (f x y S1).bind fun z S2 => .ok (.nx (τ.set i (some z))) S2
inductive Pat where
  | nm (i : Nat) | tp (ps : List Pat)
mutual
def bindP : Pat → T → Env → Option Env
  | .nm i, t, τ => some (τ.set i (some t))
  | .tp ps, .tup ts, τ => bindPs ps ts τ
  | .tp ps, .wt ts, τ => bindPs ps ts τ
  | .tp _, _, _ => none
def bindPs : List Pat → List T → Env → Option Env
  | [], [], τ => some τ
  | p :: ps, t :: ts, τ => (bindP p t τ).bind fun τ1 => bindPs ps ts τ1
  | _, _, _ => none
end
def sAsg (p : Pat) (a : Env → Sto → R T) : Env → Sto → R Fl := fun τ S => (a τ S).bind fun x S1 => match bindP p x τ with
  | some τ1 => .ok (.nx τ1) S1
  | none => .bad

/-! ### expressions -/
/-- an operation on two values and its mirror -/
def Op2 (K : PySem.W.Frag) (E : XK) (r : R2) (f : T → T → Sto → R T) : Prop := ∀ (ρ : Wd) (H : Hp) (S : Sto) (v w : V) (x y : T) (Q : VK), Sta K ρ H S → Rep K ρ H v x → Rep K ρ H w y → Post K E ρ H (f x y S) (QE K Q) → r v w H Q
def Op1 (K : PySem.W.Frag) (E : XK) (r : V → Hp → VK → Prop) (f : T → Sto → R T) : Prop := ∀ (ρ : Wd) (H : Hp) (S : Sto) (v : V) (x : T) (Q : VK), Sta K ρ H S → Rep K ρ H v x → Post K E ρ H (f x S) (QE K Q) → r v H Q
def OpN (K : PySem.W.Frag) (E : XK) (r : List V → Hp → VK → Prop) (f : List T → Sto → R T) : Prop := ∀ (ρ : Wd) (H : Hp) (S : Sto) (vs : List V) (ts : List T) (Q : VK), Sta K ρ H S → Reps K ρ H vs ts → Post K E ρ H (f ts S) (QE K Q) → r vs H Q
section
variable {X : Cx} {E : XK} {a b c : Expr} {rest : List Expr} {ma mb : Env → Sto → R T} {mc md : Env → Sto → R Bool} {ms : Env → Sto → R (List T)} {pos : Pos}
theorem xv (i : Nat) {x : Str} {pos : Pos} (hN : X.N[i]? = some x := by rfl) (hv : Vis X.env.scope x := by first | exact Or.inl rfl | exact Or.inr (Or.inl rfl) | exact Or.inr (Or.inr rfl)) (hd : (x == ("__debug__" : Str)) = false := by decide)
    (hcd : (x == ("__classdict__" : Str)) = false := by decide) : PE X (.Name x pos) (tM X.K E (mVar i)) := PE.of (pe_var hN hv hd hcd) fun σ H Q ⟨ρ, τ, S, s, e, h⟩ => by
  unfold mVar at h
  split at h
  · rename_i t q
    obtain ⟨v, q1, r⟩ := e.at_ _ _ q
    exact ⟨v, q1, h.ok s v r⟩
  · exact h.elim
theorem x_con {t : T} {v : V} (r : ∀ ρ H, Rep X.K ρ H v t) (h : PE X a (tC v)) : PE X a (tM X.K E (mC t)) := PE.of h fun σ H Q ⟨ρ, τ, S, s, e, h⟩ => h.ok s v (r ρ H)
theorem x_int {i j pos} : PE X (.Constant (.int i) j pos) (tM X.K E (mC (.int i))) := x_con (fun _ _ => .int i) pe_int
theorem x_bl {i j pos} : PE X (.Constant (.bool i) j pos) (tM X.K E (mC (.bl i))) := x_con (fun _ _ => .bl i) pe_bl
theorem x_non {j pos} : PE X (.Constant .none j pos) (tM X.K E (mC .non)) := x_con (fun _ _ => .non) pe_non
theorem x_str {i j pos} : PE X (.Constant (.str i) j pos) (tM X.K E (mC (.str i))) := x_con (fun _ _ => .str i) pe_str
theorem x_bin {op : Operator} {r : R2} {f : T → T → Sto → R T} (ho : OpR X (binaryOp op) r) (hs : Op2 X.K E r f) (ha : PE X a (tM X.K E ma)) (hb : PE X b (tM X.K E mb)) : PE X (.BinOp a op b pos) (tM X.K E (mBin f ma mb)) :=
  PE.of (pe_op ho ha hb) fun σ H Q ⟨ρ, τ, S, s, e, h⟩ => ⟨ρ, τ, S, s, e, h.step fun ρ1 H1 x S1 e1 s1 h1 v rv => ⟨ρ1, τ, S1, s1, e.ext e1, h1.step fun ρ2 H2 y S2 e2 s2 h2 w rw => hs ρ2 H2 S2 v w x y Q s2 (rv.ext e2) rw h2⟩⟩
theorem x_un {op : UnaryOp} {r : V → Hp → VK → Prop} {f : T → Sto → R T} (ho : UnR X (unaryOp op) r) (hs : Op1 X.K E r f) (ha : PE X a (tM X.K E ma)) : PE X (.UnaryOp op a pos) (tM X.K E (mUn f ma)) :=
  PE.of (pe_un ho ha) fun σ H Q ⟨ρ, τ, S, s, e, h⟩ => ⟨ρ, τ, S, s, e, h.step fun ρ1 H1 x S1 e1 s1 h1 v rv => hs ρ1 H1 S1 v x Q s1 rv h1⟩
theorem x_cmp {op : CmpOp} {r : R2} {f : T → T → Sto → R T} (ho : OpR X (compareOp op) r) (hs : Op2 X.K E r f) (ha : PE X a (tM X.K E ma)) (hb : PE X b (tM X.K E mb)) (hm : behindInMarks op b = false := by first | exact nomark _ | rfl) : PE X (.Compare a [op] [b] pos) (tM X.K E (mBin f ma mb)) :=
  PE.of (pe_cmpR ho ha hb hm) fun σ H Q ⟨ρ, τ, S, s, e, h⟩ => ⟨ρ, τ, S, s, e, h.step fun ρ1 H1 x S1 e1 s1 h1 v rv => ⟨ρ1, τ, S1, s1, e.ext e1, h1.step fun ρ2 H2 y S2 e2 s2 h2 w rw => hs ρ2 H2 S2 v w x y Q s2 (rv.ext e2) rw h2⟩⟩
theorem rep_bl {K : PySem.W.Frag} {ρ : Wd} {H : Hp} {v : V} {b : Bool} (r : Rep K ρ H v (.bl b)) : v = .bl b := by cases r; rfl
theorem rep_int {K : PySem.W.Frag} {ρ : Wd} {H : Hp} {v : V} {b : Int} (r : Rep K ρ H v (.int b)) : v = .int b := by cases r; rfl
theorem rep_str {K : PySem.W.Frag} {ρ : Wd} {H : Hp} {v : V} {b : Str} (r : Rep K ρ H v (.str b)) : v = .str b := by cases r; rfl
theorem rep_non {K : PySem.W.Frag} {ρ : Wd} {H : Hp} {v : V} (r : Rep K ρ H v .non) : v = .non := by cases r; rfl
theorem rep_tup {K : PySem.W.Frag} {ρ : Wd} {H : Hp} {v : V} {ts : List T} (r : Rep K ρ H v (.tup ts)) : ∃ a xs, v = .ref a ∧ FT K ρ H a xs ∧ Reps K ρ H xs ts := by cases r with | tup h r => exact ⟨_, _, rfl, h, r⟩
/-- a test out of a value -/
theorem tst_of {σ : L2.St} {H : Hp} {Q : Bool → Hp → Prop} (h : tB X.K E (mTst ma) σ H Q) : tM X.K E ma σ H (fun x H' => ∃ k, x = .bl k ∧ Q k H') := by
  obtain ⟨ρ, τ, S, s, e, h⟩ := h
  refine ⟨ρ, τ, S, s, e, h.step fun ρ1 H1 x S1 e1 s1 h1 v rv => ?_⟩
  cases x with
  | bl k => exact ⟨k, rep_bl rv, h1.ok s1⟩
  | _ => exact h1.elim
theorem t_cmp {op : CmpOp} {r : R2} {f : T → T → Sto → R T} (ho : OpR X (compareOp op) r) (hs : Op2 X.K E r f) (ha : PE X a (tM X.K E ma)) (hb : PE X b (tM X.K E mb)) (hm : behindInMarks op b = false := by first | exact nomark _ | rfl) : PT X (.Compare a [op] [b] pos) (tB X.K E (mTst (mBin f ma mb))) :=
  PT.of (pt_cmpR ho ha hb hm) fun σ H Q h => by
  obtain ⟨ρ, τ, S, s, e, h⟩ := tst_of h
  exact ⟨ρ, τ, S, s, e, h.step fun ρ1 H1 x S1 e1 s1 h1 v rv => ⟨ρ1, τ, S1, s1, e.ext e1, h1.step fun ρ2 H2 y S2 e2 s2 h2 w rw => hs ρ2 H2 S2 v w x y _ s2 (rv.ext e2) rw h2⟩⟩
theorem t_val (h : PE X a (tM X.K E ma)) (he : ∀ whole, isTrue a X.env whole = (do let v ← whole; standAt a.pos; holding [v] (truthy v)) := by intro _; rfl) : PT X a (tB X.K E (mTst ma)) :=
  PT.of (pt_val h he) fun σ H Q h => tst_of h
theorem t_and1 (h : PT X a (tB X.K E mc)) : PW X (.BoolOp .And [a] pos) (tB X.K E mc) := pw_and1 h
theorem t_or1 (h : PT X a (tB X.K E mc)) : PW X (.BoolOp .Or [a] pos) (tB X.K E mc) := pw_or1 h
theorem t_and (h1 : PT X a (tB X.K E mc)) (h2 : PW X (.BoolOp .And (b :: rest) pos) (tB X.K E md)) : PW X (.BoolOp .And (a :: b :: rest) pos) (tB X.K E (mAnd mc md)) :=
  PW.of (pw_and h1 h2) fun σ H Q ⟨ρ, τ, S, s, e, h⟩ => ⟨ρ, τ, S, s, e, h.step fun ρ1 H1 k S1 e1 s1 h1 => by
    cases k with
    | true => exact (if_pos rfl).symm ▸ ⟨ρ1, τ, S1, s1, e.ext e1, h1⟩
    | false => exact Post.ok (K := X.K) (E := E) (ρ := ρ1) (S := S1) h1 s1⟩
theorem t_or (h1 : PT X a (tB X.K E mc)) (h2 : PW X (.BoolOp .Or (b :: rest) pos) (tB X.K E md)) : PW X (.BoolOp .Or (a :: b :: rest) pos) (tB X.K E (mOr mc md)) :=
  PW.of (pw_or h1 h2) fun σ H Q ⟨ρ, τ, S, s, e, h⟩ => ⟨ρ, τ, S, s, e, h.step fun ρ1 H1 k S1 e1 s1 h1 => by
    cases k with
    | true => exact Post.ok (K := X.K) (E := E) (ρ := ρ1) (S := S1) h1 s1
    | false => exact ⟨ρ1, τ, S1, s1, e.ext e1, h1⟩⟩
theorem t_not (h1 : PT X a (tB X.K E mc)) : PT X (.UnaryOp .Not a pos) (tB X.K E (mNot mc)) :=
  PT.of (pt_not h1) fun σ H Q ⟨ρ, τ, S, s, e, h⟩ => ⟨ρ, τ, S, s, e, h.step fun ρ1 H1 k S1 e1 s1 h1 => h1.ok s1⟩
theorem x_ite (hc : PT X c (tB X.K E mc)) (ha : PE X a (tM X.K E ma)) (hb : PE X b (tM X.K E mb)) : PE X (.IfExp c a b pos) (tM X.K E (mIte mc ma mb)) :=
  PE.of (pe_ifExp hc ha hb) fun σ H Q ⟨ρ, τ, S, s, e, h⟩ => ⟨ρ, τ, S, s, e, h.step fun ρ1 H1 k S1 e1 s1 h1 => by
    cases k with
    | true => exact ⟨ρ1, τ, S1, s1, e.ext e1, h1⟩
    | false => exact ⟨ρ1, τ, S1, s1, e.ext e1, h1⟩⟩
theorem bl_step {ρ : Wd} {H : Hp} {x : T} {S : Sto} {β : Type} {f : Bool → Sto → R β} {Q : Wd → Hp → β → Sto → Prop} {v : V} (rv : Rep X.K ρ H v x) (h : Post X.K E ρ H ((toB x S).bind f) Q) : ∃ k, v = .bl k ∧ Post X.K E ρ H (f k S) Q := by
  cases x with
  | bl k => exact ⟨k, rep_bl rv, h⟩
  | _ => exact h.elim
theorem x_one {op} (h : PE X a (tM X.K E ma)) : PE X (.BoolOp op [a] pos) (tM X.K E ma) := pe_one h
theorem x_and (ha : PE X a (tM X.K E ma)) (hb : PE X (.BoolOp .And (b :: rest) pos) (tM X.K E mb)) : PE X (.BoolOp .And (a :: b :: rest) pos) (tM X.K E (mAndV ma mb)) :=
  PE.of (pe_and ha hb) fun σ H Q ⟨ρ, τ, S, s, e, h⟩ => ⟨ρ, τ, S, s, e, h.step fun ρ1 H1 x S1 e1 s1 h1 v rv => by
    obtain ⟨k, ev, h2⟩ := bl_step rv h1
    refine ⟨k, ev, ?_⟩
    cases k with
    | true => exact ⟨ρ1, τ, S1, s1, e.ext e1, h2⟩
    | false => exact Post.ok (K := X.K) (E := E) (ρ := ρ1) (S := S1) h2 s1 (.bl false) (.bl false)⟩
theorem x_or (ha : PE X a (tM X.K E ma)) (hb : PE X (.BoolOp .Or (b :: rest) pos) (tM X.K E mb)) : PE X (.BoolOp .Or (a :: b :: rest) pos) (tM X.K E (mOrV ma mb)) :=
  PE.of (pe_or ha hb) fun σ H Q ⟨ρ, τ, S, s, e, h⟩ => ⟨ρ, τ, S, s, e, h.step fun ρ1 H1 x S1 e1 s1 h1 v rv => by
    obtain ⟨k, ev, h2⟩ := bl_step rv h1
    refine ⟨k, ev, ?_⟩
    cases k with
    | true => exact Post.ok (K := X.K) (E := E) (ρ := ρ1) (S := S1) h2 s1 (.bl true) (.bl true)
    | false => exact ⟨ρ1, τ, S1, s1, e.ext e1, h2⟩⟩
theorem x_not (ha : PE X a (tM X.K E ma)) : PE X (.UnaryOp .Not a pos) (tM X.K E (mNotV ma)) :=
  PE.of (pe_not ha) fun σ H Q ⟨ρ, τ, S, s, e, h⟩ => ⟨ρ, τ, S, s, e, h.step fun ρ1 H1 x S1 e1 s1 h1 v rv => by
    obtain ⟨k, ev, h2⟩ := bl_step rv h1
    exact ⟨k, ev, h2.ok s1 _ (.bl _)⟩⟩
theorem a_nil : PA X [] (tA X.K E mNil) := PA.of pa_nil fun σ H Q ⟨ρ, τ, S, s, e, h⟩ => h.ok s [] .nil
theorem a_cons {es : List Expr} (ha : PE X a (tM X.K E ma)) (hr : PA X es (tA X.K E ms)) (hs : starEach (a :: es) X.env = (false, eval a X.env) :: starEach es X.env := by rfl) : PA X (a :: es) (tA X.K E (mCons ma ms)) :=
  PA.of (pa_cons ha hr hs) fun σ H Q ⟨ρ, τ, S, s, e, h⟩ => ⟨ρ, τ, S, s, e, h.step fun ρ1 H1 x S1 e1 s1 h1 v rv => ⟨ρ1, τ, S1, s1, e.ext e1, h1.step fun ρ2 H2 ts S2 e2 s2 h2 vs rs => h2.ok s2 _ (.cons (rv.ext e2) rs)⟩⟩
theorem sz5 {n : Nat} (h : n ≤ 100000) : n ≤ sizeLine := Nat.le_trans h (by decide)
theorem new_tup {K : PySem.W.Frag} {ρ : Wd} {H : Hp} {S : Sto} {ts : List T} {xs : List V} {Q : VK} (s : Sta K ρ H S) (r : Reps K ρ H xs ts) (h : Post K E ρ H (.ok (.tup ts) S) (QE K Q)) : NewT xs H Q := fun p o n b =>
  h ρ _ (Ext.push n (s.new n)) (s.push n) _ (.tup (.inl ⟨⟨o, upd_same, b⟩, s.new n⟩) (r.ext (Ext.push n (s.new n))))
theorem new_lst {K : PySem.W.Frag} {ρ : Wd} {H : Hp} {S : Sto} {ts : List T} {xs : List V} {Q : VK} {fz : Bool} (s : Sta K ρ H S) (r : Reps K ρ H xs ts) (h : Post K E ρ H (newL fz ts S) (QE K Q)) (p : Addr) (n : H p = none) : Q (.ref p) (upd H p (.lst xs)) := by
  cases fz with
  | true => exact h ρ _ (Ext.push n (s.new n)) (s.push n) _ (.lst upd_same (s.new n) (r.ext (Ext.push n (s.new n))))
  | false =>
    refine h (ρ.push p) _ (Ext.more n (s.new n)) (s.more n ⟨xs, upd_same, r.ext (Ext.more n (s.new n))⟩) _ (.ref ?_)
    show (ρ.at_ ++ [p])[S.length]? = some p
    rw [← s.len, List.getElem?_append_right (Nat.le_refl _), Nat.sub_self]
    rfl
theorem x_tup {es : List Expr} {x1} (h : PA X es (tA X.K E ms)) : PE X (.Tuple es x1 pos) (tM X.K E (mTup ms)) :=
  PE.of (pe_tupN h) fun σ H Q ⟨ρ, τ, S, s, e, h⟩ => ⟨ρ, τ, S, s, e, h.step fun ρ1 H1 ts S1 e1 s1 h1 vs rs => by
    by_cases hl : ts.length ≤ 100000
    · rw [if_pos hl] at h1
      exact ⟨sz5 (rs.length ▸ hl), new_tup s1 rs h1⟩
    · rw [if_neg hl] at h1
      exact h1.elim⟩
theorem x_lst (fz : Bool) {es : List Expr} (h : PA X es (tA X.K E ms)) : PE X (.List es pos) (tM X.K E (mLst fz ms)) :=
  PE.of (pe_lst h) fun σ H Q ⟨ρ, τ, S, s, e, h⟩ => ⟨ρ, τ, S, s, e, h.step fun ρ1 H1 ts S1 e1 s1 h1 vs rs => by
    by_cases hl : ts.length ≤ 100000
    · rw [if_pos hl] at h1
      exact ⟨sz5 (rs.length ▸ hl), new_lst s1 rs h1⟩
    · rw [if_neg hl] at h1
      exact h1.elim⟩
/-- a built-in function, a built-in type called -/
theorem x_callB {x : Str} {p : Pos} {e : Expr} {es : List Expr} {id : String} {r : List V → Hp → VK → Prop} {f : List T → Sto → R T} (hc : CallR X (.builtin id) r) (hs : OpN X.K E r f) (hg : Gl X x) (hm : X.mg x = none) (hv : bootBuiltins x = some (.builtin id)) (ha : PA X (e :: es) (tA X.K E ms)) (hn : x ≠ "__name__" := by decide) (hdb : (x == ("__debug__" : Str)) = false := by decide)
    (he : starEach (e :: es) X.env = (false, eval e X.env) :: starEach es X.env := by rfl) (hpl : (backTo pos (starEach es X.env)).any (·.1) = false := by rfl) : PE X (.Call (.Name x p) (e :: es) [] pos) (tM X.K E (mFn f ms)) :=
  PE.of (pe_callB hc hg hm hv ha hn hdb he hpl) fun σ H Q ⟨ρ, τ, S, s, e, h⟩ => ⟨ρ, τ, S, s, e, h.step fun ρ1 H1 ts S1 e1 s1 h1 vs rs => hs ρ1 H1 S1 vs ts Q s1 rs h1⟩
theorem x_callT {x : Str} {p : Pos} {e : Expr} {es : List Expr} {id : String} {r : List V → Hp → VK → Prop} {f : List T → Sto → R T} (hc : CallR X (.type id) r) (hs : OpN X.K E r f) (hg : Gl X x) (hm : X.mg x = none) (hv : bootBuiltins x = some (.type id)) (ha : PA X (e :: es) (tA X.K E ms)) (hn : x ≠ "__name__" := by decide) (hdb : (x == ("__debug__" : Str)) = false := by decide)
    (he : starEach (e :: es) X.env = (false, eval e X.env) :: starEach es X.env := by rfl) (hpl : (backTo pos (starEach es X.env)).any (·.1) = false := by rfl) : PE X (.Call (.Name x p) (e :: es) [] pos) (tM X.K E (mFn f ms)) :=
  PE.of (pe_callTy hc hg hm hv ha hn hdb he hpl) fun σ H Q ⟨ρ, τ, S, s, e, h⟩ => ⟨ρ, τ, S, s, e, h.step fun ρ1 H1 ts S1 e1 s1 h1 vs rs => hs ρ1 H1 S1 vs ts Q s1 rs h1⟩
theorem x_ix {r : R2} {f : T → T → Sto → R T} (hr : IxR X r) (hs : Op2 X.K E r f) (ha : PE X a (tM X.K E ma)) (hb : PE X b (tM X.K E mb)) (hp : PlainIx b := by exact fun _ _ => rfl) : PE X (.Subscript a b pos) (tM X.K E (mBin f ma mb)) :=
  PE.of (pe_ix hr ha hb hp) fun σ H Q ⟨ρ, τ, S, s, e, h⟩ => ⟨ρ, τ, S, s, e, h.step fun ρ1 H1 x S1 e1 s1 h1 v rv => ⟨ρ1, τ, S1, s1, e.ext e1, h1.step fun ρ2 H2 y S2 e2 s2 h2 w rw => hs ρ2 H2 S2 v w x y Q s2 (rv.ext e2) rw h2⟩⟩
end

/-! ### statements -/
section
variable {X : Cx} {E : XK} {st : Stmt} {rest sts : List Stmt} {e c : Expr} {m : Env → Sto → R T} {mb : Env → Sto → R Bool} {u w : Env → Sto → R Fl} {pos : Pos}
theorem s_nil : PSs X [] (tS X.K E sNext) := PSs.of pss_nil fun D σ H ⟨ρ, τ, S, s, e, h⟩ => h.ok s σ e
theorem qs_seq {ρ : Wd} {H : Hp} {f : Fl} {S : Sto} {D : Ends} (s : Sta X.K ρ H S) (h : Post X.K E ρ H (match f with
  | .nx τ1 => w τ1 S
  | .rt t => R.ok (.rt t) S
  | .bk τ1 => .ok (.bk τ1) S
  | .ct τ1 => .ok (.ct τ1) S) (QS X.K D)) : QS X.K { D with nx := tS X.K E w D } ρ H f S := by
  cases f with
  | nx τ => exact fun σ e => ⟨ρ, τ, S, s, e, h⟩
  | rt t => exact h.ok s
  | bk τ => exact h.ok s
  | ct τ => exact h.ok s
theorem s_cons (h1 : PS X st (tS X.K E u)) (h2 : PSs X rest (tS X.K E w)) : PSs X (st :: rest) (tS X.K E (sSeq u w)) :=
  PSs.of (pss_cons h1 h2) fun D σ H ⟨ρ, τ, S, s, e, h⟩ => ⟨ρ, τ, S, s, e, h.step fun ρ1 H1 f S1 e1 s1 h1 => qs_seq s1 h1⟩
theorem s_one (h1 : PS X st (tS X.K E u)) : PSs X [st] (tS X.K E u) := pss_one h1
theorem s_pass : PS X (.Pass pos) (tS X.K E sNext) := PS.of ps_pass fun D σ H ⟨ρ, τ, S, s, e, h⟩ => h.ok s σ e
theorem s_break : PS X (.Break pos) (tS X.K E sBreak) := PS.of ps_break fun D σ H ⟨ρ, τ, S, s, e, h⟩ => h.ok s σ e
theorem s_cont : PS X (.Continue pos) (tS X.K E sCont) := PS.of ps_continue fun D σ H ⟨ρ, τ, S, s, e, h⟩ => h.ok s σ e
theorem s_doc {x j pos pos'} : PS X (.Expr (.Constant (.str x) j pos) pos') (tS X.K E sNext) := PS.of ps_doc fun D σ H ⟨ρ, τ, S, s, e, h⟩ => h.ok s σ e
theorem s_expr (he : PE X e (tM X.K E m)) (hs : swapsWith e none pos.line X.env = pure false := by rfl) : PS X (.Expr e pos) (tS X.K E (sDrop m)) :=
  PS.of (ps_expr he hs) fun D σ H ⟨ρ, τ, S, s, e, h⟩ => ⟨ρ, τ, S, s, e, h.step fun ρ1 H1 f S1 e1 s1 h1 v rv => h1.ok s1 σ (e.ext e1)⟩
theorem s_ret (he : PE X e (tM X.K E m)) : PS X (.Return (some e) pos) (tS X.K E (sRet m)) :=
  PS.of (ps_ret he) fun D σ H ⟨ρ, τ, S, s, e, h⟩ => ⟨ρ, τ, S, s, e, h.step fun ρ1 H1 f S1 e1 s1 h1 v rv => h1.ok s1 v rv⟩
theorem s_retN : PS X (.Return none pos) (tS X.K E sRetN) := PS.of ps_retN fun D σ H ⟨ρ, τ, S, s, e, h⟩ => h.ok s .non .non
theorem s_if {a b : List Stmt} (hc : PT X c (tB X.K E mb)) (ha : PSs X a (tS X.K E u)) (hb : PSs X b (tS X.K E w)) : PS X (.If c a b pos) (tS X.K E (sIf mb u w)) :=
  PS.of (ps_if hc ha hb) fun D σ H ⟨ρ, τ, S, s, e, h⟩ => ⟨ρ, τ, S, s, e, h.step fun ρ1 H1 k S1 e1 s1 h1 => by
    cases k with
    | true => exact ⟨ρ1, τ, S1, s1, e.ext e1, h1⟩
    | false => exact ⟨ρ1, τ, S1, s1, e.ext e1, h1⟩⟩
theorem s_set {i : Nat} {x : Str} {pos' : Pos} (hN : X.N.Nodup) (hi : X.N[i]? = some x) (hx : Loc X.env.scope x) (he : PE X e (tM X.K E m)) (hs : swapsWith e (some (.Name x pos')) pos.line X.env = pure false := by rfl) (hf : X.fn x = true ∨ X.env.scope.names.lookup x = some .local := by first | exact .inl rfl | exact .inr rfl | assumption) :
    PS X (.Assign [.Name x pos'] e pos) (tS X.K E (sSet i m)) :=
  PS.of (ps_set hN hi hx he hs hf) fun D σ H ⟨ρ, τ, S, s, e, h⟩ => ⟨ρ, τ, S, s, e, h.step fun ρ1 H1 f S1 e1 s1 h1 v rv => h1.ok s1 _ ((e.ext e1).set _ rv)⟩
/-- targets -/
def Near (vs : List Nat) (σ σ' : L2.St) : Prop := σ'.length = σ.length ∧ ∀ j, j ∉ vs → σ'[j]? = σ[j]?
mutual
def Pat.slots : Pat → List Nat
  | .nm i => [i]
  | .tp ps => Pat.slotss ps
def Pat.slotss : List Pat → List Nat
  | [] => []
  | p :: ps => p.slots ++ Pat.slotss ps
end
theorem Near.refl (vs : List Nat) (σ : L2.St) : Near vs σ σ := ⟨rfl, fun _ _ => rfl⟩
theorem Near.trans {v w : List Nat} {σ σ' σ'' : L2.St} (a : Near v σ σ') (b : Near w σ' σ'') : Near (v ++ w) σ σ'' := ⟨b.1.trans a.1, fun j n => by
  rw [List.mem_append, not_or] at n
  exact (b.2 j n.2).trans (a.2 j n.1)⟩
def tG (K : PySem.W.Frag) (p : Pat) : TG := fun v σ H Q => ∃ ρ τ t τ', REnv K ρ H σ τ ∧ Rep K ρ H v t ∧ bindP p t τ = some τ' ∧ ∀ σ', REnv K ρ H σ' τ' → Near p.slots σ σ' → Q σ' H
def tGs (K : PySem.W.Frag) (p : List Pat) : TGs := fun v σ H Q => ∃ ρ τ t τ', REnv K ρ H σ τ ∧ Reps K ρ H v t ∧ bindPs p t τ = some τ' ∧ ∀ σ', REnv K ρ H σ' τ' → Near (Pat.slotss p) σ σ' → Q σ' H
theorem PG.of {tg : Expr} {t t' : TG} (h : PG X tg t) (i : ∀ v σ H Q, t' v σ H Q → t v σ H Q) : PG X tg t' := ⟨fun pins s σ H v u Q I r hw => h.run pins s σ H v u Q I r (i v σ H Q hw)⟩
theorem PGs.of {tg : List Expr} {t t' : TGs} (h : PGs X tg t) (i : ∀ v σ H Q, t' v σ H Q → t v σ H Q) : PGs X tg t' := ⟨fun pins s σ H v u Q I r hw => h.run pins s σ H v u Q I r (i v σ H Q hw)⟩
theorem g_name' {i : Nat} {x : Str} {pos' : Pos} (h : PG X (.Name x pos') (gName i)) : PG X (.Name x pos') (tG X.K (.nm i)) := PG.of h fun v σ H Q ⟨ρ, τ, t, τ', e, r, b, q⟩ => by
  unfold bindP at b
  have b := Option.some.inj b
  subst b
  refine q _ (e.set i r) ⟨List.length_set .., fun j n => ?_⟩
  have n : ¬ j = i := fun e => n (by unfold Pat.slots; rw [e]; exact List.mem_singleton.mpr rfl)
  rw [List.getElem?_set_ne (Ne.symm n)]
theorem g_name {i : Nat} {x : Str} {pos : Pos} (hN : X.N.Nodup) (hi : X.N[i]? = some x) (hx : Loc X.env.scope x) (hf : X.fn x = true ∨ X.env.scope.names.lookup x = some .local := by first | exact .inl rfl | exact .inr rfl | assumption) : PG X (.Name x pos) (tG X.K (.nm i)) := g_name' (pg_name hN hi hx hf)
theorem gs_nil : PGs X [] (tGs X.K []) := PGs.of pgs_nil fun v σ H Q ⟨ρ, τ, t, τ', e, r, b, q⟩ => by
  cases r with
  | nil =>
    unfold bindPs at b
    have b := Option.some.inj b
    subst b
    exact ⟨rfl, q _ e (Near.refl _ _)⟩
  | cons _ _ => unfold bindPs at b; cases b
theorem gs_cons {t : Expr} {ts : List Expr} {p : Pat} {ps : List Pat} (h : PG X t (tG X.K p)) (hr : PGs X ts (tGs X.K ps)) (hs : (assignEach (t :: ts) X.env).map (·.2) = assign t X.env :: (assignEach ts X.env).map (·.2) := by rfl) : PGs X (t :: ts) (tGs X.K (p :: ps)) := PGs.of (pgs_cons h hr hs) fun v σ H Q ⟨ρ, τ, us, τ', e, r, b, q⟩ => by
  cases r with
  | nil => unfold bindPs at b; cases b
  | cons r rs =>
    rename_i v0 u0 vs0 us0 q0
    have b : (bindP p u0 τ).bind (fun τ1 => bindPs ps us0 τ1) = some τ' := by
      have b' := b
      unfold bindPs at b'
      exact b'
    obtain ⟨τ1, b1, b2⟩ := Option.bind_eq_some_iff.mp b
    exact ⟨v0, vs0, rfl, ρ, τ, u0, τ1, e, r, b1, fun σ' e' n' => ⟨ρ, τ1, us0, τ', e', rs, b2, fun σ'' e'' n'' => q σ'' e'' (by unfold Pat.slotss; exact n'.trans n'')⟩⟩
theorem Reps.len_of {K : PySem.W.Frag} {ρ : Wd} {H : Hp} {v : List V} {t : List T} (h : Reps K ρ H v t) : v.length = t.length := h.length
theorem bindPs_len : ∀ {ps : List Pat} {ts : List T} {τ τ' : Env}, bindPs ps ts τ = some τ' → ts.length = ps.length
  | [], [], _, _, _ => rfl
  | [], _ :: _, _, _, h => by unfold bindPs at h; cases h
  | _ :: _, [], _, _, h => by unfold bindPs at h; cases h
  | p :: ps, t :: ts, τ, τ', h => by
    unfold bindPs at h
    obtain ⟨τ1, b1, b2⟩ := Option.bind_eq_some_iff.mp h
    rw [List.length_cons, List.length_cons, bindPs_len b2]
theorem g_tup' {es : List Expr} {ps : List Pat} {n : Nat} {x1} {pos : Pos} (hn : ps.length = n) (h : PG X (.Tuple es x1 pos) (gTup X.K n (tGs X.K ps))) : PG X (.Tuple es x1 pos) (tG X.K (.tp ps)) := PG.of h fun v σ H Q ⟨ρ, τ, t, τ', e, r, b, q⟩ => by
  unfold bindP at b
  cases t with
  | tup ts =>
    obtain ⟨a, xs, ev, ft, rs⟩ := rep_tup r
    have b : bindPs ps ts τ = some τ' := b
    exact ⟨a, xs, ev, ft.sq, by rw [rs.length, bindPs_len b, hn], ρ, τ, ts, τ', e, rs, b, fun σ' e' n' => q σ' e' (by unfold Pat.slots; exact n')⟩
  | wt ts =>
    cases r with
    | wt ft na rs =>
      have b : bindPs ps ts τ = some τ' := b
      exact ⟨_, _, rfl, .inl ft, by rw [rs.length, bindPs_len b, hn], ρ, τ, ts, τ', e, rs, b, fun σ' e' n' => q σ' e' (by unfold Pat.slots; exact n')⟩
  | _ => cases b
theorem g_tup {es : List Expr} {k : Nat} {ps : List Pat} {pos : Pos} (hc : X.calm = true) (h : PGs X es (tGs X.K ps)) (hn : (assignEach es X.env).length = ps.length := by rfl) (hst : (assignEach es X.env).findIdx? (·.1) = none := by rfl) : PG X (.Tuple es k pos) (tG X.K (.tp ps)) := g_tup' rfl (pg_tup hc h hn hst)
theorem s_asg {tg e : Expr} {p : Pat} (he : PE X e (tM X.K E m)) (hg : PG X tg (tG X.K p)) (hs : swapsWithSole [tg] e pos.line X.env = pure false := by rfl) (hw : swappedStores [tg] e X.env = pure none := by rfl)
    (h1 : (assignEach [tg] X.env).map (·.2) = [assign tg X.env] := by rfl) : PS X (.Assign [tg] e pos) (tS X.K E (sAsg p m)) :=
  PS.of (ps_asg he hg hs hw h1) fun D σ H ⟨ρ, τ, S, s, e, h⟩ => ⟨ρ, τ, S, s, e, h.step fun ρ1 H1 x S1 e1 s1 h1 v rv => by
    cases b : bindP p x τ with
    | none => rw [b] at h1; exact h1.elim
    | some τ1 => rw [b] at h1; exact ⟨ρ1, τ, x, τ1, e.ext e1, rv, b, fun σ' e' _ => h1.ok s1 σ' e'⟩⟩
end
end Fx
namespace Fx
open PySem PySem.Spec PyProof.Rows L2

/-! ### what stands behind a value -/
def lstD (S : Sto) : T → Option (List T)
  | .lst ts => some ts
  | .ref i => match S[i]? with
    | some (.lst ts) => some ts
    | _ => none
  | _ => none
def lstOf (S : Sto) : T → Option (List T)
  | .kst ts => some ts
  | t => lstD S t
def seqOf (S : Sto) : T → Option (List T)
  | .tup ts => some ts
  | .kst ts => some ts
  | t => lstD S t
section
variable {K : PySem.W.Frag} {ρ : Wd} {H : Hp} {S : Sto} {v : V} {t : T} {ts : List T}
theorem lstD_at (s : Sta K ρ H S) (r : Rep K ρ H v t) (h : lstD S t = some ts) : ∃ a xs, v = .ref a ∧ H a = some (.lst xs) ∧ Reps K ρ H xs ts := by
  cases r with
  | lst e n rs => cases h; exact ⟨_, _, rfl, e, rs⟩
  | ref e =>
    rename_i i a
    have h : (match S[i]? with
      | some (.lst ts) => some ts
      | _ => none) = some ts := h
    split at h
    · rename_i ts' q
      cases h
      obtain ⟨b, e', ⟨xs, h1, h2⟩⟩ := s.look q
      rw [e] at e'
      cases e'
      exact ⟨_, _, rfl, h1, h2⟩
    · cases h
  | _ => cases h
theorem lstD_ref {i : Nat} (s : Sta K ρ H S) (r : Rep K ρ H v (.ref i)) (h : S[i]? = some (.lst ts)) : ∃ a xs, v = .ref a ∧ ρ.at_[i]? = some a ∧ H a = some (.lst xs) ∧ Reps K ρ H xs ts := by
  cases r with
  | ref e =>
    obtain ⟨b, e', ⟨xs, h1, h2⟩⟩ := s.look h
    rw [e] at e'
    cases e'
    exact ⟨_, _, rfl, e, h1, h2⟩
theorem lstOf_at (s : Sta K ρ H S) (r : Rep K ρ H v t) (h : lstOf S t = some ts) : ∃ a xs, v = .ref a ∧ SqL K H a xs ∧ Reps K ρ H xs ts := by
  by_cases c : ∃ us, t = .kst us
  · obtain ⟨us, rfl⟩ := c
    cases h
    cases r with
    | kst f rs => exact ⟨_, _, rfl, f.sq, rs⟩
  · have h' : lstD S t = some ts := by
      unfold lstOf at h
      split at h
      · exact absurd ⟨_, rfl⟩ c
      · exact h
    obtain ⟨a, xs, e, h1, h2⟩ := lstD_at s r h'
    exact ⟨a, xs, e, SqL.of h1, h2⟩
theorem seqOf_at (s : Sta K ρ H S) (r : Rep K ρ H v t) (h : seqOf S t = some ts) : ∃ a xs, v = .ref a ∧ (SqL K H a xs ∨ SqT K H a xs) ∧ Reps K ρ H xs ts := by
  by_cases c : ∃ us, t = .kst us
  · obtain ⟨us, rfl⟩ := c
    cases h
    cases r with
    | kst f rs => exact ⟨_, _, rfl, .inl f.sq, rs⟩
  · by_cases c2 : ∃ us, t = .tup us
    · obtain ⟨us, rfl⟩ := c2
      cases h
      cases r with
      | tup f rs => exact ⟨_, _, rfl, .inr f.sq, rs⟩
    · have h' : lstD S t = some ts := by
        unfold seqOf at h
        split at h
        · exact absurd ⟨_, rfl⟩ c2
        · exact absurd ⟨_, rfl⟩ c
        · exact h
      obtain ⟨a, xs, e, h1, h2⟩ := lstD_at s r h'
      exact ⟨a, xs, e, .inl (SqL.of h1), h2⟩
end

/-! ### as data -/
mutual
def toD : T → Option PyData
  | .non => some .none
  | .bl b => some (.bool b)
  | .int i => some (.int i)
  | .str x => some (.str x)
  | .tup ts => (toDs ts).map .tuple
  | .lst ts => (toDs ts).map .list
  | .kst ts => (toDs ts).map .list
  | .obj _ => none
  | .ty _ => none
  | .ref _ => none
  | .wt _ => none
  | .exn _ _ _ _ => none
def toDs : List T → Option (List PyData)
  | [] => some []
  | t :: ts => (toD t).bind fun d => (toDs ts).map fun ds => d :: ds
end
section
variable {K : PySem.W.Frag} {ρ : Wd} {H : Hp}
mutual
theorem dp_of : ∀ {v : V} {t : T} {d : PyData}, Rep K ρ H v t → toD t = some d → Dp K H v d
  | _, _, _, .non, h => by cases h; exact .non
  | _, _, _, .bl b, h => by cases h; exact .bl b
  | _, _, _, .int i, h => by cases h; exact .int i
  | _, _, _, .str x, h => by cases h; exact .str x
  | _, _, _, .obj a, h => by cases h
  | _, _, _, .ty n, h => by cases h
  | _, _, _, .ref e, h => by cases h
  | _, _, _, .wt _ _ _, h => by cases h
  | _, _, _, .exn _ _ _ _ _, h => by cases h
  | _, .tup ts, _, .tup f r, h => by
    obtain ⟨ds, e, h⟩ := Option.map_eq_some_iff.mp (show (toDs ts).map PyData.tuple = _ from h)
    cases h
    exact .tup f.sq (dps_of r e)
  | _, .lst ts, _, .lst f n r, h => by
    obtain ⟨ds, e, h⟩ := Option.map_eq_some_iff.mp (show (toDs ts).map PyData.list = _ from h)
    cases h
    exact .lst (SqL.of f) (dps_of r e)
  | _, .kst ts, _, .kst f r, h => by
    obtain ⟨ds, e, h⟩ := Option.map_eq_some_iff.mp (show (toDs ts).map PyData.list = _ from h)
    cases h
    exact .lst f.sq (dps_of r e)
theorem dps_of : ∀ {v : List V} {t : List T} {d : List PyData}, Reps K ρ H v t → toDs t = some d → DpAll K H v d
  | _, _, _, .nil, h => by cases h; exact .nil
  | _, t :: ts, _, .cons r rs, h => by
    obtain ⟨d, e, h⟩ := Option.bind_eq_some_iff.mp (show (toD t).bind (fun d => (toDs ts).map fun ds => d :: ds) = _ from h)
    obtain ⟨ds, e2, h⟩ := Option.map_eq_some_iff.mp h
    cases h
    exact .cons (dp_of r e) (dps_of rs e2)
end
end

/-! ### operators -/
def rOr (r r' : R2) : R2 := fun x y H Q => r x y H Q ∨ r' x y H Q
theorem OpR.or {X : Cx} {f : Value → Value → Sem Value} {r r' : R2} (h : OpR X f r) (h' : OpR X f r') : OpR X f (rOr r r') := fun pins s σ H x y v u Q I rx ry q => q.elim (fun q => h pins s σ H x y v u Q I rx ry q) fun q => h' pins s σ H x y v u Q I rx ry q
theorem IxR.or' {X : Cx} {r r' : R2} (h : IxR X r) (h' : IxR X r') : IxR X (rOr r r') := fun a b pins s σ H x y v u Q I rx ry q hs => q.elim (fun q => h a b pins s σ H x y v u Q I rx ry q hs) fun q => h' a b pins s σ H x y v u Q I rx ry q hs

def fAdd (x y : T) (S : Sto) : R T := match x, y with
  | .int i, .int j => .ok (.int (i + j)) S
  | .str a, .str b => if a.length + b.length ≤ 1000000 then .ok (.str (a ++ b)) S else .bad
  | .tup xs, .tup ys => if xs.length + ys.length ≤ 100000 then .ok (.tup (xs ++ ys)) S else .bad
  | _, _ => .bad
/-- the sum of two lists is a new list -/
def fCat (fz : Bool) (x y : T) (S : Sto) : R T := match lstD S x, lstD S y with
  | some xs, some ys => if xs.length + ys.length ≤ 100000 then newL fz (xs ++ ys) S else .bad
  | _, _ => .bad
def fI2 (g : Int → Int → T) (x y : T) (S : Sto) : R T := match x, y with
  | .int i, .int j => .ok (g i j) S
  | _, _ => .bad
def fI2c (C : Int → Int → Bool) (g : Int → Int → T) (x y : T) (S : Sto) : R T := match x, y with
  | .int i, .int j => if C i j = true then .ok (g i j) S else .bad
  | _, _ => .bad
theorem rep_int' {K : PySem.W.Frag} {ρ : Wd} {H : Hp} {v : V} {t : T} {i : Int} (r : Rep K ρ H v t) (e : t = .int i) : v = .int i := by subst e; exact rep_int r
section
variable {X : Cx} {E : XK}
def rAddA (K : PySem.W.Frag) : R2 := rOr (rI0 fun i j => .int (i + j)) (rOr (fun x y H Q => ∃ i j, x = .str i ∧ y = .str j ∧ i.length + j.length ≤ sizeLine ∧ Q (.str (i ++ j)) H) (rCatN K))
theorem o_add : OpR X (binaryOp .Add) (rAddA X.K) := op_add.or (op_add_str.or op_catN)
theorem sz6 {n : Nat} (h : n ≤ 1000000) : n ≤ sizeLine := Nat.le_trans h (by decide)
theorem f_add : Op2 X.K E (rAddA X.K) fAdd := by
  intro ρ H S v w x y Q s rv rw h
  unfold fAdd at h
  split at h
  · exact .inl ⟨_, _, rep_int rv, rep_int rw, h.ok s _ (.int _)⟩
  · split at h
    · rename_i a b hl
      exact .inr (.inl ⟨_, _, rep_str rv, rep_str rw, sz6 hl, h.ok s _ (.str _)⟩)
    · exact h.elim
  · split at h
    · rename_i xs ys hl
      obtain ⟨a, us, rfl, fa, ra⟩ := rep_tup rv
      obtain ⟨b, ws, rfl, fb, rb⟩ := rep_tup rw
      refine .inr (.inr ⟨a, b, us, ws, rfl, rfl, fa.sq, fb.sq, by rw [ra.length, rb.length]; exact sz5 hl, fun e => ?_, fun _ e => ?_, fun _ _ => new_tup s (ra.append rb) h⟩)
      · subst e
        cases ra
        exact h.ok s _ rw
      · subst e
        cases rb
        rw [List.append_nil] at h
        exact h.ok s _ rv
    · exact h.elim
  · exact h.elim
theorem f_cat (fz : Bool) : Op2 X.K E rCat (fCat fz) := by
  intro ρ H S v w x y Q s rv rw h
  unfold fCat at h
  split at h
  · rename_i xs ys ex ey
    split at h
    · rename_i hl
      obtain ⟨a, us, rfl, ha, ra⟩ := lstD_at s rv ex
      obtain ⟨b, ws, rfl, hb, rb⟩ := lstD_at s rw ey
      exact ⟨a, b, us, ws, rfl, rfl, ha, hb, by rw [ra.length, rb.length]; exact sz5 hl, fun p n => new_lst s (ra.append rb) h p n⟩
    · exact h.elim
  · exact h.elim
theorem f_i2 {g : Int → Int → V} {g' : Int → Int → T} (hg : ∀ ρ H i j, Rep X.K ρ H (g i j) (g' i j)) : Op2 X.K E (rI0 g) (fI2 g') := by
  intro ρ H S v w x y Q s rv rw h
  unfold fI2 at h
  split at h
  · exact ⟨_, _, rep_int rv, rep_int rw, h.ok s _ (hg _ _ _ _)⟩
  · exact h.elim
theorem f_i2c {C : Int → Int → Prop} {C' : Int → Int → Bool} {g : Int → Int → V} {g' : Int → Int → T} (hC : ∀ i j, C' i j = true → C i j) (hg : ∀ ρ H i j, Rep X.K ρ H (g i j) (g' i j)) : Op2 X.K E (rI C g) (fI2c C' g') := by
  intro ρ H S v w x y Q s rv rw h
  unfold fI2c at h
  split at h
  · split at h
    · rename_i hc
      exact ⟨_, _, rep_int rv, rep_int rw, hC _ _ hc, h.ok s _ (hg _ _ _ _)⟩
    · exact h.elim
  · exact h.elim
def fSub := fI2 fun i j => .int (i - j)
theorem f_sub : Op2 X.K E (rI0 fun i j => .int (i - j)) fSub := f_i2 fun _ _ _ _ => .int _
def cMul (i j : Int) : Bool := (decide (-(2 ^ 64) < i) && decide (i < 2 ^ 64)) || (decide (-(2 ^ 64) < j) && decide (j < 2 ^ 64))
def fMul := fI2c cMul fun i j => .int (i * j)
theorem f_mul : Op2 X.K E (rI CMul fun i j => .int (i * j)) fMul := f_i2c (fun i j h => by
  unfold cMul at h
  unfold CMul
  simpa [Bool.or_eq_true, Bool.and_eq_true, decide_eq_true_eq] using h) fun _ _ _ _ => .int _
def fDiv := fI2c (fun _ j => decide (0 < j) && decide (j < 1073741824)) fun i j => .int (i / j)
theorem f_div : Op2 X.K E (rI CDiv fun i j => .int (i / j)) fDiv := f_i2c (fun i j h => by
  unfold CDiv
  simpa [Bool.and_eq_true, decide_eq_true_eq] using h) fun _ _ _ _ => .int _
def fMod := fI2c (fun _ j => decide (0 < j)) fun i j => .int (i % j)
theorem f_mod : Op2 X.K E (rI (fun _ j => 0 < j) fun i j => .int (i % j)) fMod := f_i2c (fun i j h => by simpa [decide_eq_true_eq] using h) fun _ _ _ _ => .int _
def cPow (i j : Int) : Bool := decide (0 ≤ j) && (decide (j ≤ 1000000) && decide (i.natAbs < 2 ^ 64))
theorem cPow_of {i j : Int} (h : cPow i j = true) : CPow i j := by
  unfold cPow at h
  unfold CPow
  simpa [Bool.and_eq_true, decide_eq_true_eq] using h
def fPow := fI2c cPow fun i j => .int (i ^ j.toNat)
theorem f_pow : Op2 X.K E (rI CPow fun i j => .int (i ^ j.toNat)) fPow := f_i2c (fun _ _ h => cPow_of h) fun _ _ _ _ => .int _
def fShl := fI2c cPow fun i j => .int (i * 2 ^ j.toNat)
theorem f_shl : Op2 X.K E (rI CPow fun i j => .int (i * 2 ^ j.toNat)) fShl := f_i2c (fun _ _ h => cPow_of h) fun _ _ _ _ => .int _
def fShr := fI2c (fun _ j => decide (0 ≤ j)) fun i j => .int (i / 2 ^ j.toNat)
theorem f_shr : Op2 X.K E (rI (fun _ j => 0 ≤ j) fun i j => .int (i / 2 ^ j.toNat)) fShr := f_i2c (fun i j h => by simpa [decide_eq_true_eq] using h) fun _ _ _ _ => .int _
def fBand := fI2 fun i j => .int (Builtin.bitAnd i j)
theorem f_band : Op2 X.K E (rI0 fun i j => .int (Builtin.bitAnd i j)) fBand := f_i2 fun _ _ _ _ => .int _
def fLt := fI2 fun i j => .bl (decide (i < j))
theorem f_lt : Op2 X.K E (rI0 fun i j => .bl (decide (i < j))) fLt := f_i2 fun _ _ _ _ => .bl _
def fLe := fI2 fun i j => .bl (decide (i ≤ j))
theorem f_le : Op2 X.K E (rI0 fun i j => .bl (decide (i ≤ j))) fLe := f_i2 fun _ _ _ _ => .bl _
def fGt := fI2 fun i j => .bl (decide (j < i))
theorem f_gt : Op2 X.K E (rI0 fun i j => .bl (decide (j < i))) fGt := f_i2 fun _ _ _ _ => .bl _
def fGe := fI2 fun i j => .bl (decide (j ≤ i))
theorem f_ge : Op2 X.K E (rI0 fun i j => .bl (decide (j ≤ i))) fGe := f_i2 fun _ _ _ _ => .bl _
def fNeg (x : T) (S : Sto) : R T := match x with
  | .int i => .ok (.int (-i)) S
  | _ => .bad
theorem f_neg : Op1 X.K E (rU fun i => .int (-i)) fNeg := by
  intro ρ H S v x Q s rv h
  unfold fNeg at h
  split at h
  · exact ⟨_, rep_int rv, h.ok s _ (.int _)⟩
  · exact h.elim
/-- == of data -/
def eqT (x y : T) : Option Bool := match x, y with
  | .int i, .int j => some (decide (i = j))
  | .str i, .str j => some (decide (i = j))
  | .bl i, .bl j => some (decide (i = j))
  | .non, .non => some true
  | .non, .int _ => some false
  | .int _, .non => some false
  | .non, .str _ => some false
  | .str _, .non => some false
  | .int _, .str _ => some false
  | .str _, .int _ => some false
  | x, y => match toD x, toD y with
    | some d, some e => if (SeqAt.shaped d && SeqAt.shaped e) = true then some (PyData.eqv d e) else none
    | _, _ => none
def fEq (x y : T) (S : Sto) : R T := match eqT x y with
  | some b => .ok (.bl b) S
  | none => .bad
def fNe (x y : T) (S : Sto) : R T := match eqT x y with
  | some b => .ok (.bl (!b)) S
  | none => .bad
theorem eqT_of {ρ : Wd} {H : Hp} {v w : V} {x y : T} {b : Bool} (rv : Rep X.K ρ H v x) (rw' : Rep X.K ρ H w y) (h : eqT x y = some b) : (scal v w = true ∧ decide (v = w) = b) ∨ ∃ d e, Dp X.K H v d ∧ Dp X.K H w e ∧ SeqAt.shaped d = true ∧ SeqAt.shaped e = true ∧ PyData.eqv d e = b := by
  unfold eqT at h
  split at h
  · rw [rep_int rv, rep_int rw']
    cases h
    exact .inl ⟨rfl, by rw [Bool.eq_iff_iff]; simp⟩
  · rw [rep_str rv, rep_str rw']
    cases h
    exact .inl ⟨rfl, by rw [Bool.eq_iff_iff]; simp⟩
  · rw [rep_bl rv, rep_bl rw']
    cases h
    exact .inl ⟨rfl, by rw [Bool.eq_iff_iff]; simp⟩
  · rw [rep_non rv, rep_non rw']
    cases h
    exact .inl ⟨rfl, by simp⟩
  · rw [rep_non rv, rep_int rw']
    cases h
    exact .inl ⟨rfl, by simp⟩
  · rw [rep_int rv, rep_non rw']
    cases h
    exact .inl ⟨rfl, by simp⟩
  · rw [rep_non rv, rep_str rw']
    cases h
    exact .inl ⟨rfl, by simp⟩
  · rw [rep_str rv, rep_non rw']
    cases h
    exact .inl ⟨rfl, by simp⟩
  · rw [rep_int rv, rep_str rw']
    cases h
    exact .inl ⟨rfl, by simp⟩
  · rw [rep_str rv, rep_int rw']
    cases h
    exact .inl ⟨rfl, by simp⟩
  · split at h
    · rename_i d e hd he
      split at h
      · rename_i hs
        cases h
        rw [Bool.and_eq_true] at hs
        exact .inr ⟨d, e, dp_of rv hd, dp_of rw' he, hs.1, hs.2, rfl⟩
      · cases h
    · cases h
def rEqA (K : PySem.W.Frag) : R2 := rOr rEq (rEqD K)
def rNeA (K : PySem.W.Frag) : R2 := rOr rNe (rNeD K)
theorem o_eq (hu : X.A.units + 64 < cLine) : OpR X (compareOp .Eq) (rEqA X.K) := op_eq.or (op_eqD hu)
theorem o_ne (hu : X.A.units + 64 < cLine) : OpR X (compareOp .NotEq) (rNeA X.K) := op_ne.or (op_neD hu)
theorem f_eq : Op2 X.K E (rEqA X.K) fEq := by
  intro ρ H S v w x y Q s rv rw' h
  unfold fEq at h
  split at h
  · rename_i b hb
    have q := h.ok s (.bl b) (.bl b)
    rcases eqT_of rv rw' hb with ⟨h1, h2⟩ | ⟨d, e, h1, h2, h3, h4, h5⟩
    · exact .inl ⟨h1, by rw [h2]; exact q⟩
    · exact .inr ⟨d, e, h1, h2, h3, h4, by rw [h5]; exact q⟩
  · exact h.elim
theorem f_ne : Op2 X.K E (rNeA X.K) fNe := by
  intro ρ H S v w x y Q s rv rw' h
  unfold fNe at h
  split at h
  · rename_i b hb
    have q := h.ok s (.bl (!b)) (.bl (!b))
    rcases eqT_of rv rw' hb with ⟨h1, h2⟩ | ⟨d, e, h1, h2, h3, h4, h5⟩
    · exact .inl ⟨h1, by rw [h2]; exact q⟩
    · exact .inr ⟨d, e, h1, h2, h3, h4, by rw [h5]; exact q⟩
  · exact h.elim
/-- is None -/
def isN (x : T) : Bool := match x with
  | .non => true
  | _ => false
def fIsN (neg : Bool) (x y : T) (S : Sto) : R T := match y with
  | .non => .ok (.bl (if neg = true then !isN x else isN x)) S
  | _ => .bad
theorem isN_of {ρ : Wd} {H : Hp} {v : V} {x : T} (rv : Rep X.K ρ H v x) : decide (v = .non) = isN x := by
  cases rv <;> simp [isN]
theorem f_isN : Op2 X.K E (fun x y H Q => y = .non ∧ Q (.bl (decide (x = .non))) H) (fIsN false) := by
  intro ρ H S v w x y Q s rv rw' h
  unfold fIsN at h
  split at h
  · exact ⟨rep_non rw', by rw [isN_of rv]; exact h.ok s _ (.bl _)⟩
  · exact h.elim
theorem f_notN : Op2 X.K E (fun x y H Q => y = .non ∧ Q (.bl (!decide (x = .non))) H) (fIsN true) := by
  intro ρ H S v w x y Q s rv rw' h
  unfold fIsN at h
  split at h
  · exact ⟨rep_non rw', by rw [isN_of rv]; exact h.ok s _ (.bl _)⟩
  · exact h.elim
/-! in -/
def flatT : T → Bool
  | .non => true
  | .bl _ => true
  | .int _ => true
  | .str _ => true
  | _ => false
def eqF : T → T → Bool
  | .non, .non => true
  | .bl a, .bl b => a == b
  | .bl a, .int b => (if a then 1 else 0) == b
  | .int a, .bl b => a == (if b then 1 else 0)
  | .int a, .int b => a == b
  | .str a, .str b => a == b
  | _, _ => false
def inF (x : T) (ts : List T) : Bool := ts.any fun y => eqF y x
section
variable {K : PySem.W.Frag} {ρ : Wd} {H : Hp}
theorem flat_of {v : V} {t : T} (r : Rep K ρ H v t) (h : flatT t = true) : flatV v = true := by
  cases r <;> first | rfl | cases h
theorem flats_of : ∀ {v : List V} {t : List T}, Reps K ρ H v t → t.all flatT = true → v.all flatV = true
  | _, _, .nil, _ => rfl
  | _, _, .cons r rs, h => by
    rw [List.all_cons, Bool.and_eq_true] at h ⊢
    exact ⟨flat_of r h.1, flats_of rs h.2⟩
theorem eqF_of {v w : V} {t u : T} (r : Rep K ρ H v t) (r' : Rep K ρ H w u) (h : flatT t = true) (h' : flatT u = true) : eqV v w = eqF t u := by
  cases r <;> first | (cases h; done) | (cases r' <;> first | rfl | (cases h'; done))
theorem inF_of {w : V} {u : T} (r' : Rep K ρ H w u) (h' : flatT u = true) : ∀ {v : List V} {t : List T}, Reps K ρ H v t → t.all flatT = true → inV w v = inF u t
  | _, _, .nil, _ => rfl
  | _, _, .cons r rs, h => by
    rw [List.all_cons, Bool.and_eq_true] at h
    have ih := inF_of r' h' rs h.2
    unfold inV inF at ih ⊢
    rw [List.any_cons, List.any_cons, eqF_of r r' h.1 h', ih]
end
/-- x in a text: one sign, or more -/
def inS (a b : Str) : Bool := match a.cps.toList with
  | [c] => decide (c ∈ b.cps.toList)
  | _ => !(Builtin.Str.occurrences b a 0 b.length 1).isEmpty
def fIn (neg : Bool) (x y : T) (S : Sto) : R T := match x, y with
  | .str a, .str b => .ok (.bl (if neg = true then !inS a b else inS a b)) S
  | x, y => match seqOf S y with
    | some ts => if (flatT x && ts.all flatT) = true then .ok (.bl (if neg = true then !inF x ts else inF x ts)) S
      else match toD x, toD y with
        | some d, some (.list ds) => if (SeqAt.shaped d && SeqAt.shaped (.list ds)) = true then .ok (.bl (if neg = true then !(ds.any fun z => PyData.eqv z d) else ds.any fun z => PyData.eqv z d)) S else .bad
        | _, _ => .bad
    | none => .bad
def rInA (K : PySem.W.Frag) : R2 := rOr (rIn K false) (rOr (fun x y H Q => ∃ (c : Nat) (z : Str), x = .str ⟨#[c]⟩ ∧ y = .str z ∧ Q (.bl (decide (c ∈ z.cps.toList))) H) (rOr (fun x y H Q => ∃ i j, x = .str i ∧ y = .str j ∧ Q (.bl (!(Builtin.Str.occurrences j i 0 j.length 1).isEmpty)) H) (rInD K)))
def rNiA (K : PySem.W.Frag) : R2 := rOr (rIn K true) (rOr (fun x y H Q => ∃ (c : Nat) (z : Str), x = .str ⟨#[c]⟩ ∧ y = .str z ∧ Q (.bl (!decide (c ∈ z.cps.toList))) H) (rOr (fun x y H Q => ∃ i j, x = .str i ∧ y = .str j ∧ Q (.bl (!(!(Builtin.Str.occurrences j i 0 j.length 1).isEmpty))) H) (rNotInD K)))
theorem o_in (hu : X.A.units + 65 < cLine) : OpR X (compareOp .In) (rInA X.K) := op_in_seq.or (op_in_sign.or (op_in_str.or (op_inD hu)))
theorem o_ni (hu : X.A.units + 65 < cLine) : OpR X (compareOp .NotIn) (rNiA X.K) := op_notIn_seq.or (op_notIn_sign.or (op_notIn_str.or (op_notInD hu)))
theorem sign_of {a : Str} {c : Nat} (h : a.cps.toList = [c]) : a = ⟨#[c]⟩ := by
  cases a with
  | mk cps =>
    congr 1
    exact Array.ext' h
theorem inS_one {a b : Str} {n : Nat} (h : a.cps.toList = [n]) : inS a b = decide (n ∈ b.cps.toList) := by unfold inS; rw [h]
theorem inS_more {a b : Str} (h : ¬ ∃ n, a.cps.toList = [n]) : inS a b = !(Builtin.Str.occurrences b a 0 b.length 1).isEmpty := by
  unfold inS
  split
  · rename_i n e
    exact absurd ⟨n, e⟩ h
  · rfl
theorem f_in : Op2 X.K E (rInA X.K) (fIn false) := by
  intro ρ H S v w x y Q s rv rw' h
  unfold fIn at h
  split at h
  · rename_i a b
    have q := h.ok s _ (.bl _)
    rw [rep_str rv, rep_str rw']
    by_cases c : ∃ n, a.cps.toList = [n]
    · obtain ⟨n, c⟩ := c
      refine .inr (.inl ⟨n, b, by rw [sign_of c], rfl, ?_⟩)
      rw [inS_one c] at q
      exact q
    · refine .inr (.inr (.inl ⟨a, b, rfl, rfl, ?_⟩))
      rw [inS_more c] at q
      exact q
  · split at h
    · rename_i ts hs
      split at h
      · rename_i hf
        rw [Bool.and_eq_true] at hf
        obtain ⟨a, xs, rfl, hx, rs⟩ := seqOf_at s rw' hs
        have q := h.ok s _ (.bl _)
        refine .inl ⟨a, xs, rfl, hx, flat_of rv hf.1, flats_of rs hf.2, ?_⟩
        rw [inF_of rv hf.1 rs hf.2]
        exact q
      · split at h
        · rename_i d ds hd he
          split at h
          · rename_i hsh
            rw [Bool.and_eq_true] at hsh
            exact .inr (.inr (.inr ⟨d, ds, dp_of rv hd, dp_of rw' he, hsh.1, hsh.2, h.ok s _ (.bl _)⟩))
          · exact h.elim
        · exact h.elim
    · exact h.elim
theorem f_ni : Op2 X.K E (rNiA X.K) (fIn true) := by
  intro ρ H S v w x y Q s rv rw' h
  unfold fIn at h
  split at h
  · rename_i a b
    have q := h.ok s _ (.bl _)
    rw [rep_str rv, rep_str rw']
    by_cases c : ∃ n, a.cps.toList = [n]
    · obtain ⟨n, c⟩ := c
      refine .inr (.inl ⟨n, b, by rw [sign_of c], rfl, ?_⟩)
      rw [inS_one c] at q
      exact q
    · refine .inr (.inr (.inl ⟨a, b, rfl, rfl, ?_⟩))
      rw [inS_more c] at q
      exact q
  · split at h
    · rename_i ts hs
      split at h
      · rename_i hf
        rw [Bool.and_eq_true] at hf
        obtain ⟨a, xs, rfl, hx, rs⟩ := seqOf_at s rw' hs
        have q := h.ok s _ (.bl _)
        refine .inl ⟨a, xs, rfl, hx, flat_of rv hf.1, flats_of rs hf.2, ?_⟩
        rw [inF_of rv hf.1 rs hf.2]
        exact q
      · split at h
        · rename_i d ds hd he
          split at h
          · rename_i hsh
            rw [Bool.and_eq_true] at hsh
            exact .inr (.inr (.inr ⟨d, ds, dp_of rv hd, dp_of rw' he, hsh.1, hsh.2, h.ok s _ (.bl _)⟩))
          · exact h.elim
        · exact h.elim
    · exact h.elim
/-! ### places -/
theorem Reps.atI {K : PySem.W.Frag} {ρ : Wd} {H : Hp} {v : List V} {t : List T} {i : Int} {x : T} (r : Reps K ρ H v t) (h : L2.atI t i = some x) : ∃ y, L2.atI v i = some y ∧ Rep K ρ H y x := by
  unfold L2.atI at h ⊢
  rw [r.length]
  obtain ⟨j, e, h⟩ := Option.bind_eq_some_iff.mp h
  obtain ⟨y, e2, r2⟩ := r.get h
  exact ⟨y, by rw [e]; exact e2, r2⟩
def fIx (x y : T) (S : Sto) : R T := match y with
  | .int i => match x with
    | .str z => match L2.atI z.cps.toList i with
      | some c => if z.length ≤ 1000000 then .ok (.str ⟨#[c]⟩) S else .bad
      | none => .bad
    | x => match seqOf S x with
      | some ts => match L2.atI ts i with
        | some t => .ok t S
        | none => .bad
      | none => .bad
  | _ => .bad
def rIxA (K : PySem.W.Frag) : R2 := rOr (rIxL K) (rOr (rIxT K) rIxS)
theorem o_ix : IxR X (rIxA X.K) := Fx.IxR.or' ix_list (Fx.IxR.or' ix_tup ix_str)
theorem f_ix : Op2 X.K E (rIxA X.K) fIx := by
  intro ρ H S v w x y Q s rv rw' h
  unfold fIx at h
  split at h
  · rename_i i
    rw [rep_int rw']
    split at h
    · rename_i z
      rw [rep_str rv]
      split at h
      · rename_i c hc
        split at h
        · rename_i hl
          exact .inr (.inr ⟨z, i, c, rfl, rfl, sz6 hl, hc, h.ok s _ (.str _)⟩)
        · exact h.elim
      · exact h.elim
    · split at h
      · rename_i ts hs
        split at h
        · rename_i t ht
          obtain ⟨a, xs, rfl, hx, rs⟩ := seqOf_at s rv hs
          obtain ⟨u, hu, ru⟩ := rs.atI ht
          have q := h.ok s u ru
          rcases hx with hx | hx
          · exact .inl ⟨a, xs, i, u, rfl, rfl, hx, hu, q⟩
          · exact .inr (.inl ⟨a, xs, i, u, rfl, rfl, hx, hu, q⟩)
        · exact h.elim
      · exact h.elim
  · exact h.elim
/-! ### built-ins -/
def fLen (xs : List T) (S : Sto) : R T := match xs with
  | [.str z] => if z.length ≤ 1000000 then .ok (.int z.length) S else .bad
  | [x] => match seqOf S x with
    | some ts => .ok (.int ts.length) S
    | none => .bad
  | _ => .bad
def rN1 (r r' : List V → Hp → VK → Prop) : List V → Hp → VK → Prop := fun xs H Q => r xs H Q ∨ r' xs H Q
theorem CallR.or {f : Value} {r r' : List V → Hp → VK → Prop} (h : CallR X f r) (h' : CallR X f r') : CallR X f (rN1 r r') := fun pins s σ H xs us Q I rx q => q.elim (fun q => h pins s σ H xs us Q I rx q) fun q => h' pins s σ H xs us Q I rx q
def rLenA (K : PySem.W.Frag) : List V → Hp → VK → Prop := fun xs H Q => ∃ x n, xs = [x] ∧ LenV K x H n ∧ Q (.int n) H
theorem o_len : CallR X (.builtin "len") (rLenA X.K) := call_len
theorem Reps.one {K : PySem.W.Frag} {ρ : Wd} {H : Hp} {v : List V} {x : T} (r : Reps K ρ H v [x]) : ∃ y, v = [y] ∧ Rep K ρ H y x := by
  cases r with
  | cons r rs => cases rs; exact ⟨_, rfl, r⟩
theorem Reps.two {K : PySem.W.Frag} {ρ : Wd} {H : Hp} {v : List V} {x y : T} (r : Reps K ρ H v [x, y]) : ∃ a b, v = [a, b] ∧ Rep K ρ H a x ∧ Rep K ρ H b y := by
  cases r with
  | cons r rs =>
    obtain ⟨b, rfl, rb⟩ := rs.one
    exact ⟨_, b, rfl, r, rb⟩
theorem Reps.none {K : PySem.W.Frag} {ρ : Wd} {H : Hp} {v : List V} (r : Reps K ρ H v []) : v = [] := by
  cases r
  rfl
theorem f_len : OpN X.K E (rLenA X.K) fLen := by
  intro ρ H S vs ts Q s rs h
  unfold fLen at h
  split at h
  · rename_i z
    obtain ⟨y, rfl, r⟩ := rs.one
    rw [rep_str r]
    split at h
    · rename_i hl
      exact ⟨_, _, rfl, ⟨sz6 hl, rfl⟩, h.ok s _ (.int _)⟩
    · exact h.elim
  · rename_i x _
    obtain ⟨y, rfl, r⟩ := rs.one
    split at h
    · rename_i us hs
      obtain ⟨a, xs, rfl, hx, rx⟩ := seqOf_at s r hs
      have q := h.ok s _ (.int _)
      rw [← rx.length] at q
      refine ⟨_, _, rfl, ?_, q⟩
      exact hx.elim (fun hx => .inl ⟨xs, hx, rfl⟩) fun hx => .inr ⟨xs, hx, rfl⟩
    · exact h.elim
  · exact h.elim
def fAbs (xs : List T) (S : Sto) : R T := match xs with
  | [.int i] => .ok (.int (if i < 0 then -i else i)) S
  | _ => .bad
def rAbs : List V → Hp → VK → Prop := fun xs H Q => ∃ i, xs = [.int i] ∧ Q (.int (if i < 0 then -i else i)) H
theorem o_abs : CallR X (.builtin "abs") rAbs := call_abs
theorem f_abs : OpN X.K E rAbs fAbs := by
  intro ρ H S vs ts Q s rs h
  unfold fAbs at h
  split at h
  · obtain ⟨y, rfl, r⟩ := rs.one
    exact ⟨_, by rw [rep_int r], h.ok s _ (.int _)⟩
  · exact h.elim
def fInt (xs : List T) (S : Sto) : R T := match xs with
  | [.int i] => .ok (.int i) S
  | [.bl k] => .ok (.int (if k then 1 else 0)) S
  | [.str a] => match PySem.intText? a with
    | some n => if a.length ≤ 640 then .ok (.int n) S else .bad
    | none => .bad
  | _ => .bad
def rIntA : List V → Hp → VK → Prop := rN1 (fun xs H Q => (∃ i, xs = [.int i] ∧ Q (.int i) H) ∨ ∃ k, xs = [.bl k] ∧ Q (.int (if k then 1 else 0)) H) (fun xs H Q => ∃ a n, xs = [.str a] ∧ PySem.intText? a = some n ∧ a.length ≤ 640 ∧ Q (.int n) H)
theorem o_int : CallR X (.type "int") rIntA := call_int1.or call_int_str
theorem f_int : OpN X.K E rIntA fInt := by
  intro ρ H S vs ts Q s rs h
  unfold fInt at h
  split at h
  · obtain ⟨y, rfl, r⟩ := rs.one
    exact .inl (.inl ⟨_, by rw [rep_int r], h.ok s _ (.int _)⟩)
  · obtain ⟨y, rfl, r⟩ := rs.one
    exact .inl (.inr ⟨_, by rw [rep_bl r], h.ok s _ (.int _)⟩)
  · obtain ⟨y, rfl, r⟩ := rs.one
    split at h
    · rename_i n hn
      split at h
      · rename_i hl
        exact .inr ⟨_, _, by rw [rep_str r], hn, hl, h.ok s _ (.int _)⟩
      · exact h.elim
    · exact h.elim
  · exact h.elim
def fMax2 (xs : List T) (S : Sto) : R T := match xs with
  | [.int i, .int j] => .ok (.int (if j > i then j else i)) S
  | _ => .bad
def rMax2 : List V → Hp → VK → Prop := fun xs H Q => ∃ i j, xs = [.int i, .int j] ∧ Q (.int (if j > i then j else i)) H
theorem o_max2 (hc : X.calm = true) : CallR X (.builtin "max") rMax2 := call_max2 hc
theorem f_max2 : OpN X.K E rMax2 fMax2 := by
  intro ρ H S vs ts Q s rs h
  unfold fMax2 at h
  split at h
  · obtain ⟨a, b, rfl, ra, rb⟩ := rs.two
    exact ⟨_, _, by rw [rep_int ra, rep_int rb], h.ok s _ (.int _)⟩
  · exact h.elim
def fMin2 (xs : List T) (S : Sto) : R T := match xs with
  | [.int i, .int j] => .ok (.int (if j < i then j else i)) S
  | _ => .bad
def rMin2 : List V → Hp → VK → Prop := fun xs H Q => ∃ i j, xs = [.int i, .int j] ∧ Q (.int (if j < i then j else i)) H
theorem o_min2 (hc : X.calm = true) : CallR X (.builtin "min") rMin2 := call_min2 hc
theorem f_min2 : OpN X.K E rMin2 fMin2 := by
  intro ρ H S vs ts Q s rs h
  unfold fMin2 at h
  split at h
  · obtain ⟨a, b, rfl, ra, rb⟩ := rs.two
    exact ⟨_, _, by rw [rep_int ra, rep_int rb], h.ok s _ (.int _)⟩
  · exact h.elim
def fStr (xs : List T) (S : Sto) : R T := match xs with
  | [.int i] => if i.natAbs.log2 < 1920 then .ok (.str (toString i)) S else .bad
  | _ => .bad
def rStrI : List V → Hp → VK → Prop := fun xs H Q => ∃ i, xs = [.int i] ∧ i.natAbs.log2 < 1920 ∧ Q (.str (toString i)) H
theorem o_str : CallR X (.type "str") rStrI := call_str_int
theorem f_str : OpN X.K E rStrI fStr := by
  intro ρ H S vs ts Q s rs h
  unfold fStr at h
  split at h
  · obtain ⟨y, rfl, r⟩ := rs.one
    split at h
    · rename_i hl
      exact ⟨_, by rw [rep_int r], hl, h.ok s _ (.str _)⟩
    · exact h.elim
  · exact h.elim
def fList (fz : Bool) (xs : List T) (S : Sto) : R T := match xs with
  | [x] => match seqOf S x with
    | some ts => newL fz ts S
    | none => .bad
  | _ => .bad
def rListA (K : PySem.W.Frag) : List V → Hp → VK → Prop := fun xs H Q => ∃ p ys, xs = [.ref p] ∧ (SqL K H p ys ∨ SqT K H p ys) ∧ ∀ l, H l = none → Q (.ref l) (upd H l (.lst ys))
theorem o_list : CallR X (.type "list") (rListA X.K) := call_list_of
theorem f_list (fz : Bool) : OpN X.K E (rListA X.K) (fList fz) := by
  intro ρ H S vs ts Q s rs h
  unfold fList at h
  split at h
  · obtain ⟨y, rfl, r⟩ := rs.one
    split at h
    · rename_i us hs
      obtain ⟨a, xs, rfl, hx, rx⟩ := seqOf_at s r hs
      exact ⟨a, xs, rfl, hx, fun l hl => new_lst s rx h l hl⟩
    · exact h.elim
  · exact h.elim
def fTuple (xs : List T) (S : Sto) : R T := match xs with
  | [.tup ts] => .ok (.tup ts) S
  | [x] => match lstOf S x with
    | some ts => .ok (.tup ts) S
    | none => .bad
  | _ => .bad
def rTupleA (K : PySem.W.Frag) : List V → Hp → VK → Prop := rTupleN K
theorem o_tuple : CallR X (.type "tuple") (rTupleA X.K) := call_tupleN
theorem f_tuple : OpN X.K E (rTupleA X.K) fTuple := by
  intro ρ H S vs ts Q s rs h
  unfold fTuple at h
  split at h
  · obtain ⟨y, rfl, r⟩ := rs.one
    obtain ⟨a, xs, rfl, hx, rx⟩ := rep_tup r
    exact ⟨a, xs, rfl, .inr ⟨hx.sq, h.ok s _ r⟩⟩
  · obtain ⟨y, rfl, r⟩ := rs.one
    split at h
    · rename_i us hs
      obtain ⟨a, xs, rfl, hx, rx⟩ := lstOf_at s r hs
      exact ⟨a, xs, rfl, .inl ⟨hx, new_tup s rx h⟩⟩
    · exact h.elim
  · exact h.elim
def intsOf : List T → Option (List Int)
  | [] => some []
  | .int i :: ts => (intsOf ts).map fun l => i :: l
  | _ => none
theorem ints_of {K : PySem.W.Frag} {ρ : Wd} {H : Hp} : ∀ {v : List V} {t : List T} {ns : List Int}, Reps K ρ H v t → intsOf t = some ns → v = ns.map V.int
  | _, _, _, .nil, h => by cases h; rfl
  | _, t :: ts, ns, .cons r rs, h => by
    cases t with
    | int i =>
      obtain ⟨l, e, h⟩ := Option.map_eq_some_iff.mp (show (intsOf ts).map (fun l => i :: l) = _ from h)
      subst h
      rw [rep_int r, ints_of rs e]
      rfl
    | _ => cases h
def fSum (xs : List T) (S : Sto) : R T := match xs with
  | [x] => match lstOf S x with
    | some ts => match intsOf ts with
      | some ns => .ok (.int ns.sum) S
      | none => .bad
    | none => .bad
  | _ => .bad
theorem o_sum (hc : X.calm = true) : CallR X (.builtin "sum") (rSum X.K) := cr_sum hc
theorem f_sum : OpN X.K E (rSum X.K) fSum := by
  intro ρ H S vs ts Q s rs h
  unfold fSum at h
  split at h
  · obtain ⟨y, rfl, r⟩ := rs.one
    split at h
    · rename_i us hs
      split at h
      · rename_i ns hn
        obtain ⟨a, xs, rfl, hx, rx⟩ := lstOf_at s r hs
        have e := ints_of rx hn
        subst e
        exact ⟨a, ns, rfl, hx, h.ok s _ (.int _)⟩
      · exact h.elim
    · exact h.elim
  · exact h.elim
/-! isinstance of a built-in type -/
def tyN (S : Sto) : T → Option String
  | .non => some "NoneType"
  | .bl _ => some "bool"
  | .int _ => some "int"
  | .str _ => some "str"
  | .tup _ => some "tuple"
  | .lst _ => some "list"
  | .kst _ => some "list"
  | .ref i => match S[i]? with
    | some (.lst _) => some "list"
    | _ => none
  | _ => none
def fIsi (xs : List T) (S : Sto) : R T := match xs with
  | [x, .ty n] => match tyN S x with
    | some a => match kitB a n with
      | some b => .ok (.bl b) S
      | none => .bad
    | none => .bad
  | _ => .bad
theorem tyN_of {ρ : Wd} {H : Hp} {S : Sto} {v : V} {t : T} {a : String} (s : Sta X.K ρ H S) (r : Rep X.K ρ H v t) (h : tyN S t = some a) : TyX X.K H v (.type a) := by
  cases r with
  | non => cases h; exact .base .non
  | bl b => cases h; exact .base (.bl b)
  | int i => cases h; exact .base (.int i)
  | str x => cases h; exact .base (.str x)
  | obj a => cases h
  | ty n => cases h
  | tup f rs =>
    cases h
    rcases f with ⟨⟨o, f, _⟩, _⟩ | ⟨o, its, n, f, c, _⟩
    · exact .fTuple f
    · exact .kTuple f c.1
  | wt _ _ _ => cases h
  | exn _ _ _ _ _ => cases h
  | lst f _ rs => cases h; exact .base (.lst f)
  | kst f rs =>
    cases h
    rcases f with ⟨f | ⟨o, f⟩, _⟩ | (f | ⟨_, f⟩) | ⟨o, its, n, f, c, _⟩
    · exact .base (.lst f)
    · exact .base (.frz f)
    · cases f
    · cases f
    · exact .kList f c
  | ref e =>
    rename_i i b
    have h : (match S[i]? with
      | some (.lst _) => some "list"
      | _ => none) = some a := h
    split at h
    · rename_i us q
      cases h
      obtain ⟨xs, h1, _⟩ := s.at_ _ _ _ e q
      exact .base (.lst h1)
    · cases h
theorem o_isi : CallR X (.builtin "isinstance") (rIsi X.K) := call_isi
theorem f_isi : OpN X.K E (rIsi X.K) fIsi := by
  intro ρ H S vs ts Q s rs h
  unfold fIsi at h
  split at h
  · rename_i x n
    obtain ⟨u, c, rfl, r, rc⟩ := rs.two
    cases rc
    split at h
    · rename_i a ha
      split at h
      · rename_i b hb
        exact ⟨u, .ty n, .type a, .type n, b, rfl, .ty n, tyN_of s r ha, kit_ty hb, h.ok s _ (.bl b)⟩
      · exact h.elim
    · exact h.elim
  · exact h.elim
theorem x_ty {n : String} {x : Str} {pos : Pos} (hg : Gl X x) (hm : X.mg x = none) (hv : bootBuiltins x = some (.type n)) (hn : x ≠ "__name__" := by decide) (hd : (x == ("__debug__" : Str)) = false := by decide) : PE X (.Name x pos) (tM X.K E (mC (.ty n))) :=
  x_con (fun _ _ => .ty n) (pe_bltn hg hm hv rfl hn hd)
end
end Fx
namespace Fx
open PySem PySem.Spec PyProof.Rows L2
open Classical in
noncomputable def ifP {α : Type} (p : Prop) (a b : α) : α := if p then a else b
theorem ifP_t {α : Type} {p : Prop} {a b : α} (h : p) : ifP p a b = a := if_pos h
theorem ifP_f {α : Type} {p : Prop} {a b : α} (h : ¬ p) : ifP p a b = b := if_neg h

/-! ### methods of built-in types -/
def OpM (K : PySem.W.Frag) (E : XK) (r : V → List V → Hp → VK → Prop) (f : T → List T → Sto → R T) : Prop := ∀ (ρ : Wd) (H : Hp) (S : Sto) (v : V) (x : T) (vs : List V) (ts : List T) (Q : VK), Sta K ρ H S → Rep K ρ H v x → Reps K ρ H vs ts → Post K E ρ H (f x ts S) (QE K Q) → r v vs H Q
def isStr (x : T) (_ : Sto) : Bool := match x with
  | .str _ => true
  | _ => false
def isLst (x : T) (S : Sto) : Bool := (lstOf S x).isSome
def mMeth (c : T → Sto → Bool) (f : T → List T → Sto → R T) (o : Env → Sto → R T) (a : Env → Sto → R (List T)) : Env → Sto → R T := fun τ S => (o τ S).bind fun x S1 => if c x S1 = true then (a τ S1).bind fun ts S2 => f x ts S2 else .bad
def TyC (K : PySem.W.Frag) (n : String) (c : T → Sto → Bool) : Prop := ∀ ρ H S v x, Sta K ρ H S → Rep K ρ H v x → c x S = true → tyV K n v H
theorem ty_str {K : PySem.W.Frag} : TyC K "str" isStr := fun ρ H S v x s r h => by
  unfold isStr at h
  split at h
  · rw [rep_str r]; rfl
  · cases h
theorem ty_lst {K : PySem.W.Frag} : TyC K "list" isLst := fun ρ H S v x s r h => by
  unfold isLst at h
  obtain ⟨ts, e⟩ := Option.isSome_iff_exists.mp h
  obtain ⟨a, xs, rfl, hx, _⟩ := lstOf_at s r e
  exact .inl ⟨rfl, xs, hx⟩
section
variable {X : Cx} {E : XK} {o e : Expr} {es : List Expr} {mo : Env → Sto → R T} {ms : Env → Sto → R (List T)} {name : Str} {apos cpos : Pos} {n id : String} {r : V → List V → Hp → VK → Prop} {f : T → List T → Sto → R T} {c : T → Sto → Bool}
theorem x_meth (pa : PlainAttrs n) (slot : Slot n name id) (hty : typeOf (.builtin id) = pure (.type "method_descriptor")) (hm : MtR X id r) (hs : OpM X.K E r f) (hc : TyC X.K n c) (ho : PE X o (tM X.K E mo)) (ha : PA X (e :: es) (tA X.K E ms))
    (hbase : attributeBase o name X.env (eval o X.env) = eval o X.env := by rfl)
    (hfew : ((backTo cpos (starEach (e :: es) X.env)).all (fun x => !x.1) && (backToKw cpos (keywordEach [] X.env)).all (fun x => x.1.isSome) && decide ((e :: es).length + ([] : List Keyword).length + (if ([] : List Keyword).isEmpty then 0 else 1) < 30)) = true := by rfl)
    (hline : (apos.endLine == cpos.line) = true := by rfl) (he : starEach (e :: es) X.env = (false, eval e X.env) :: starEach es X.env := by rfl) (hpl : (backTo cpos (starEach es X.env)).any (·.1) = false := by rfl) :
    PE X (.Call (.Attribute o name apos) (e :: es) [] cpos) (tM X.K E (mMeth c f mo ms)) :=
  PE.of (pe_bm pa slot hty hm ho ha hbase hfew hline he hpl) fun σ H Q ⟨ρ, τ, S, s, e, h⟩ => ⟨ρ, τ, S, s, e, h.step fun ρ1 H1 x S1 e1 s1 h1 v rv => by
    by_cases hx : c x S1 = true
    · rw [if_pos hx] at h1
      exact ⟨hc ρ1 H1 S1 v x s1 rv hx, ρ1, τ, S1, s1, e.ext e1, h1.step fun ρ2 H2 ts S2 e2 s2 h2 vs rs => hs ρ2 H2 S2 v x vs ts Q s2 (rv.ext e2) rs h2⟩
    · rw [if_neg hx] at h1
      exact h1.elim⟩
theorem x_meth0 (pa : PlainAttrs n) (slot : Slot n name id) (hty : typeOf (.builtin id) = pure (.type "method_descriptor")) (hm : MtR X id r) (hs : OpM X.K E r f) (hc : TyC X.K n c) (ho : PE X o (tM X.K E mo))
    (hbase : attributeBase o name X.env (eval o X.env) = eval o X.env := by rfl) (hline : (apos.endLine == cpos.line) = true := by rfl) :
    PE X (.Call (.Attribute o name apos) [] [] cpos) (tM X.K E (mMeth c f mo mNil)) :=
  PE.of (pe_bm0 pa slot hty hm ho hbase hline) fun σ H Q ⟨ρ, τ, S, s, e, h⟩ => ⟨ρ, τ, S, s, e, h.step fun ρ1 H1 x S1 e1 s1 h1 v rv => by
    by_cases hx : c x S1 = true
    · rw [if_pos hx] at h1
      exact ⟨hc ρ1 H1 S1 v x s1 rv hx, hs ρ1 H1 S1 v x [] [] Q s1 rv .nil h1⟩
    · rw [if_neg hx] at h1
      exact h1.elim⟩
/-! lists that change -/
def fAppend (x : T) (ts : List T) (S : Sto) : R T := match x, ts with
  | .ref i, [t] => match S[i]? with
    | some (.lst us) => if us.length < 100000 then .ok .non (S.set i (.lst (us ++ [t]))) else .bad
    | _ => .bad
  | _, _ => .bad
theorem sz_lt5 {n : Nat} (h : n < 100000) : n < sizeLine := Nat.lt_of_lt_of_le h (by decide)
/-- the list at a reference is another one now -/
theorem put_lst {K : PySem.W.Frag} {ρ : Wd} {H : Hp} {S : Sto} {i : Nat} {a : Addr} {xs : List V} {ts : List T} {t : T} {v : V} {Q : VK} (s : Sta K ρ H S) (e : ρ.at_[i]? = some a) (rs : Reps K ρ H xs ts) (rv : Rep K ρ H v t)
    (h : Post K E ρ H (.ok t (S.set i (.lst ts))) (QE K Q)) : Q v (upd H a (.lst xs)) :=
  have m : a ∈ ρ.at_ := List.mem_of_getElem? e
  h ρ _ (Ext.put m) (s.put e ⟨xs, upd_same, rs.ext (Ext.put m)⟩) v (rv.ext (Ext.put m))
theorem f_append : OpM X.K E rAppend fAppend := by
  intro ρ H S v x vs ts Q s rv rs h
  unfold fAppend at h
  split at h
  · rename_i i t
    obtain ⟨y, rfl, ry⟩ := rs.one
    split at h
    · rename_i us hu
      split at h
      · rename_i hl
        obtain ⟨a, xs, rfl, ha, hx, rx⟩ := lstD_ref s rv hu
        exact ⟨a, xs, y, rfl, rfl, hx, by rw [rx.length]; exact sz_lt5 hl, put_lst s ha (rx.append (.cons ry .nil)) .non h⟩
      · exact h.elim
    · exact h.elim
  · exact h.elim
def fExtend (x : T) (ts : List T) (S : Sto) : R T := match x, ts with
  | .ref i, [t] => match S[i]?, lstD S t with
    | some (.lst us), some ws => if us.length + ws.length ≤ 100000 then .ok .non (S.set i (.lst (us ++ ws))) else .bad
    | _, _ => .bad
  | _, _ => .bad
theorem f_extend : OpM X.K E rExtend fExtend := by
  intro ρ H S v x vs ts Q s rv rs h
  unfold fExtend at h
  split at h
  · rename_i i t
    obtain ⟨y, rfl, ry⟩ := rs.one
    split at h
    · rename_i us ws hu hw
      split at h
      · rename_i hl
        obtain ⟨a, xs, rfl, ha, hx, rx⟩ := lstD_ref s rv hu
        obtain ⟨b, zs, rfl, hz, rz⟩ := lstD_at s ry hw
        exact ⟨a, b, xs, zs, rfl, rfl, hx, hz, by rw [rx.length, rz.length]; exact sz5 hl, put_lst s ha (rx.append rz) .non h⟩
      · exact h.elim
    · exact h.elim
  · exact h.elim
def fPop (x : T) (ts : List T) (S : Sto) : R T := match x, ts with
  | .ref i, [] => match S[i]? with
    | some (.lst us) => match us[us.length - 1]? with
      | some t => .ok t (S.set i (.lst us.dropLast))
      | none => .bad
    | _ => .bad
  | _, _ => .bad
theorem f_pop : OpM X.K E rPop fPop := by
  intro ρ H S v x vs ts Q s rv rs h
  unfold fPop at h
  split at h
  · rename_i i
    have e := rs.none
    subst e
    split at h
    · rename_i us hu
      split at h
      · rename_i t ht
        obtain ⟨a, xs, rfl, ha, hx, rx⟩ := lstD_ref s rv hu
        obtain ⟨y, hy, ry⟩ := rx.get ht
        exact ⟨a, xs, y, rfl, rfl, hx, by rw [rx.length]; exact hy, put_lst s ha rx.dropLast ry h⟩
      · exact h.elim
    · exact h.elim
  · exact h.elim
def fPopAt (x : T) (ts : List T) (S : Sto) : R T := match x, ts with
  | .ref i, [.int k] => match S[i]? with
    | some (.lst us) => match ixN us.length k with
      | some j => match us[j]? with
        | some t => if us.length ≤ 100000 then .ok t (S.set i (.lst (us.eraseIdx j))) else .bad
        | none => .bad
      | none => .bad
    | _ => .bad
  | _, _ => .bad
theorem f_popAt : OpM X.K E rPopAt fPopAt := by
  intro ρ H S v x vs ts Q s rv rs h
  unfold fPopAt at h
  split at h
  · rename_i i k
    obtain ⟨y, rfl, ry⟩ := rs.one
    have e := rep_int ry
    subst e
    split at h
    · rename_i us hu
      split at h
      · rename_i j hj
        split at h
        · rename_i t ht
          split at h
          · rename_i hl
            obtain ⟨a, xs, rfl, ha, hx, rx⟩ := lstD_ref s rv hu
            obtain ⟨z, hz, rz⟩ := rx.get ht
            obtain ⟨q1, q2, q3, q4⟩ := ixN_seq hj
            exact ⟨a, xs, k, j, z, rfl, rfl, hx, by omega, by omega, by rw [rx.length]; exact q1, hz, put_lst s ha (rx.eraseIdx j) rz h⟩
          · exact h.elim
        · exact h.elim
      · exact h.elim
    · exact h.elim
  · exact h.elim
def fReverse (x : T) (ts : List T) (S : Sto) : R T := match x, ts with
  | .ref i, [] => match S[i]? with
    | some (.lst us) => .ok .non (S.set i (.lst us.reverse))
    | _ => .bad
  | _, _ => .bad
theorem f_reverse : OpM X.K E rReverse fReverse := by
  intro ρ H S v x vs ts Q s rv rs h
  unfold fReverse at h
  split at h
  · rename_i i
    have e := rs.none
    subst e
    split at h
    · rename_i us hu
      obtain ⟨a, xs, rfl, ha, hx, rx⟩ := lstD_ref s rv hu
      exact ⟨a, xs, rfl, rfl, hx, put_lst s ha rx.reverse .non h⟩
    · exact h.elim
  · exact h.elim
/-! texts -/
def strsOf : List T → Option (List Str)
  | [] => some []
  | .str i :: ts => (strsOf ts).map fun l => i :: l
  | _ => none
theorem strs_of {K : PySem.W.Frag} {ρ : Wd} {H : Hp} : ∀ {v : List V} {t : List T} {ns : List Str}, Reps K ρ H v t → strsOf t = some ns → v = ns.map V.str
  | _, _, _, .nil, h => by cases h; rfl
  | _, t :: ts, ns, .cons r rs, h => by
    cases t with
    | str i =>
      obtain ⟨l, e, h⟩ := Option.map_eq_some_iff.mp (show (strsOf ts).map (fun l => i :: l) = _ from h)
      subst h
      rw [rep_str r, strs_of rs e]
      rfl
    | _ => cases h
theorem reps_strs {K : PySem.W.Frag} {ρ : Wd} {H : Hp} : ∀ ys : List Str, Reps K ρ H (ys.map V.str) (ys.map T.str)
  | [] => .nil
  | y :: ys => .cons (.str y) (reps_strs ys)
def fSplit (fz : Bool) (x : T) (ts : List T) (S : Sto) : R T := match x, ts with
  | .str a, [.str b] => if (b.length == 0) = false ∧ a.length ≤ 1000000 then newL fz ((Txt.split a b).map T.str) S else .bad
  | _, _ => .bad
def rSplitA : V → List V → Hp → VK → Prop := fun x xs H Q => ∃ a b, x = .str a ∧ xs = [.str b] ∧ (b.length == 0) = false ∧ a.length + 2 ≤ sizeLine ∧ rNewStrs (Txt.split a b) H Q
theorem f_split (fz : Bool) : OpM X.K E rSplitA (fSplit fz) := by
  intro ρ H S v x vs ts Q s rv rs h
  unfold fSplit at h
  split at h
  · rename_i a b
    obtain ⟨y, rfl, ry⟩ := rs.one
    split at h
    · rename_i hl
      refine ⟨a, b, rep_str rv, by rw [rep_str ry], hl.1, Nat.le_trans (Nat.add_le_add_right hl.2 2) (by decide), fun p n => ?_⟩
      exact new_lst s (reps_strs _) h p n
    · exact h.elim
  · exact h.elim
def fJoin (x : T) (ts : List T) (S : Sto) : R T := match x, ts with
  | .str a, [t] => match seqOf S t with
    | some us => match strsOf us with
      | some ys => if (ys.map (·.length)).sum + ys.length * a.length ≤ 1000000 then .ok (.str (Txt.join a ys)) S else .bad
      | none => .bad
    | none => .bad
  | _, _ => .bad
def rJoinA (K : PySem.W.Frag) : V → List V → Hp → VK → Prop := fun x xs H Q => ∃ a p, ∃ ys : List Str, x = .str a ∧ xs = [.ref p] ∧ (SqL K H p (ys.map V.str) ∨ SqT K H p (ys.map V.str)) ∧ (ys.map (·.length)).sum + ys.length * a.length ≤ 16777216 ∧ Q (.str (Txt.join a ys)) H
theorem f_join : OpM X.K E (rJoinA X.K) fJoin := by
  intro ρ H S v x vs ts Q s rv rs h
  unfold fJoin at h
  split at h
  · rename_i a t
    obtain ⟨y, rfl, ry⟩ := rs.one
    split at h
    · rename_i us hu
      split at h
      · rename_i ys hy
        split at h
        · rename_i hl
          obtain ⟨p, xs, rfl, hx, rx⟩ := seqOf_at s ry hu
          have e := strs_of rx hy
          subst e
          exact ⟨a, p, ys, rep_str rv, rfl, hx, Nat.le_trans hl (by decide), h.ok s _ (.str _)⟩
        · exact h.elim
      · exact h.elim
    · exact h.elim
  · exact h.elim
/-- the first place of an equal item -/
def ixF (x : T) (ts : List T) : Option Nat := ts.findIdx? fun y => eqF y x
def fIndex (x : T) (ts : List T) (S : Sto) : R T := match ts with
  | [t] => match lstOf S x with
    | some us => if (flatT t && us.all flatT) = true then match ixF t us with
      | some j => .ok (.int j) S
      | none => .bad else .bad
    | none => .bad
  | _ => .bad
theorem f_index : OpM X.K E (rIndex X.K) fIndex := by
  intro ρ H S v x vs ts Q s rv rs h
  unfold fIndex at h
  split at h
  · rename_i t
    obtain ⟨y, rfl, ry⟩ := rs.one
    split at h
    · rename_i us hu
      split at h
      · rename_i hf
        rw [Bool.and_eq_true] at hf
        split at h
        · rename_i j hj
          obtain ⟨p, xs, rfl, hx, rx⟩ := lstOf_at s rv hu
          unfold ixF at hj
          obtain ⟨hj1, hj2, hj3⟩ := List.findIdx?_eq_some_iff_getElem.mp hj
          obtain ⟨z, hz, rz⟩ := rx.get (List.getElem?_eq_getElem hj1)
          have fl : ∀ m (hm : m < us.length), flatT us[m] = true := fun m hm => List.all_eq_true.mp hf.2 _ (List.getElem_mem hm)
          refine ⟨p, xs, y, j, z, rfl, rfl, hx, flat_of ry hf.1, flats_of rx hf.2, hz, ?_, fun m z' hm hz' => ?_, h.ok s _ (.int _)⟩
          · rw [eqF_of rz ry (fl j hj1) hf.1]
            exact hj2
          · have hml : m < us.length := Nat.lt_trans hm hj1
            obtain ⟨z2, hz2, rz2⟩ := rx.get (List.getElem?_eq_getElem hml)
            rw [hz'] at hz2
            cases hz2
            rw [eqF_of rz2 ry (fl m hml) hf.1]
            simpa using hj3 m hm
        · exact h.elim
      · exact h.elim
    · exact h.elim
  · exact h.elim
/-! ### slices -/
def cutT (xs : List T) (lo hi : Option Int) : List T := (xs.drop (HT.sIx xs.length 0 lo)).take (HT.sIx xs.length xs.length hi - HT.sIx xs.length 0 lo)
theorem Reps.cut {K : PySem.W.Frag} {ρ : Wd} {H : Hp} {v : List V} {t : List T} (r : Reps K ρ H v t) (lo hi : Option Int) : Reps K ρ H (cutV v lo hi) (cutT t lo hi) := by
  unfold cutV cutT
  rw [r.length]
  exact (r.drop _).take _
def tO (K : PySem.W.Frag) (E : XK) (m : Env → Sto → R (Option Int)) : TO := fun σ H Q => ∃ ρ τ S, Sta K ρ H S ∧ REnv K ρ H σ τ ∧ Post K E ρ H (m τ S) (fun _ H' o _ => Q o H')
def mO0 : Env → Sto → R (Option Int) := fun _ S => .ok none S
def mO1 (a : Env → Sto → R T) : Env → Sto → R (Option Int) := fun τ S => (a τ S).bind fun x S1 => match x with
  | .int i => .ok (some i) S1
  | _ => .bad
def mSl (f : T → Option Int → Option Int → Sto → R T) (a : Env → Sto → R T) (l u : Env → Sto → R (Option Int)) : Env → Sto → R T := fun τ S => (a τ S).bind fun x S1 => (l τ S1).bind fun lo S2 => (u τ S2).bind fun hi S3 => f x lo hi S3
def OpS (K : PySem.W.Frag) (E : XK) (r : V → Option Int → Option Int → Hp → VK → Prop) (f : T → Option Int → Option Int → Sto → R T) : Prop := ∀ (ρ : Wd) (H : Hp) (S : Sto) (v : V) (x : T) (lo hi : Option Int) (Q : VK), Sta K ρ H S → Rep K ρ H v x → Post K E ρ H (f x lo hi S) (QE K Q) → r v lo hi H Q
theorem PO.of {e : Option Expr} {t t' : TO} (h : PO X e t) (i : ∀ σ H Q, t' σ H Q → t σ H Q) : PO X e t' := ⟨fun pins s σ H Q I hw => h.run pins s σ H Q I (i σ H Q hw)⟩
theorem o0 : PO X none (tO X.K E mO0) := PO.of po_none fun σ H Q ⟨ρ, τ, S, s, e, h⟩ => h.ok s
theorem o1 {a : Expr} {m : Env → Sto → R T} (ha : PE X a (tM X.K E m)) : PO X (some a) (tO X.K E (mO1 m)) := PO.of (po_some ha) fun σ H Q ⟨ρ, τ, S, s, e, h⟩ => ⟨ρ, τ, S, s, e, h.step fun ρ1 H1 x S1 e1 s1 h1 v rv => by
  cases x with
  | int i => exact ⟨i, rep_int rv, h1.ok s1⟩
  | _ => exact h1.elim⟩
theorem x_sl {a : Expr} {lo hi : Option Expr} {p1 p2} {ma : Env → Sto → R T} {ml mh : Env → Sto → R (Option Int)} {r : V → Option Int → Option Int → Hp → VK → Prop} {f : T → Option Int → Option Int → Sto → R T} (hr : SlR X r) (hs : OpS X.K E r f) (ha : PE X a (tM X.K E ma)) (hl : PO X lo (tO X.K E ml)) (hh : PO X hi (tO X.K E mh)) :
    PE X (.Subscript a (.Slice lo hi none p2) p1) (tM X.K E (mSl f ma ml mh)) :=
  PE.of (pe_slice hr ha hl hh) fun σ H Q ⟨ρ, τ, S, s, e, h⟩ => ⟨ρ, τ, S, s, e, h.step fun ρ1 H1 x S1 e1 s1 h1 v rv => ⟨ρ1, τ, S1, s1, e.ext e1, h1.step fun ρ2 H2 lo S2 e2 s2 h2 => ⟨ρ2, τ, S2, s2, (e.ext e1).ext e2, h2.step fun ρ3 H3 hi S3 e3 s3 h3 => hs ρ3 H3 S3 v x lo hi Q s3 ((rv.ext e2).ext e3) h3⟩⟩⟩
def fSl (x : T) (lo hi : Option Int) (S : Sto) : R T := match x with
  | .tup ts => .ok (.tup (cutT ts lo hi)) S
  | .str z => if z.length ≤ 1000000 then .ok (.str (Txt.slice z lo hi)) S else .bad
  | _ => .bad
/-- a list's slice is a new list -/
def fSlL (fz : Bool) (x : T) (lo hi : Option Int) (S : Sto) : R T := match lstOf S x with
  | some ts => newL fz (cutT ts lo hi) S
  | none => .bad
def sOr (r r' : V → Option Int → Option Int → Hp → VK → Prop) : V → Option Int → Option Int → Hp → VK → Prop := fun x lo hi H Q => r x lo hi H Q ∨ r' x lo hi H Q
def rSlTX (K : PySem.W.Frag) : V → Option Int → Option Int → Hp → VK → Prop := sOr (rSlN K) C8.rSlX
theorem o_sl : SlR X (rSlTX X.K) := L2.SlR.or sl_tupN C8.sl_txt
theorem cut_all (xs : List T) {lo hi : Option Int} (h : HT.sIx xs.length 0 lo = 0 ∧ HT.sIx xs.length xs.length hi = xs.length) : cutT xs lo hi = xs := by
  unfold cutT
  rw [h.1, h.2]
  simp
theorem f_sl : OpS X.K E (rSlTX X.K) fSl := by
  intro ρ H S v x lo hi Q s rv h
  unfold fSl at h
  split at h
  · rename_i ts
    obtain ⟨a, xs, rfl, fa, ra⟩ := rep_tup rv
    refine .inl ⟨a, xs, rfl, fa.sq, fun q => ?_, fun _ => new_tup s (ra.cut lo hi) h⟩
    rw [ra.length] at q
    rw [cut_all ts q] at h
    exact h.ok s _ rv
  · split at h
    · rename_i z hl
      exact .inr ⟨z, rep_str rv, sz6 hl, h.ok s _ (.str _)⟩
    · exact h.elim
  · exact h.elim
theorem f_slL (fz : Bool) : OpS X.K E (rSlL X.K) (fSlL fz) := by
  intro ρ H S v x lo hi Q s rv h
  unfold fSlL at h
  split at h
  · rename_i ts ht
    obtain ⟨a, xs, rfl, hx, rx⟩ := lstOf_at s rv ht
    exact ⟨a, xs, rfl, hx, fun p n => new_lst s (rx.cut lo hi) h p n⟩
  · exact h.elim
/-! ### xs[i] = e -/
def sPut (o i a : Env → Sto → R T) : Env → Sto → R Fl := fun τ S => (a τ S).bind fun t S1 => (o τ S1).bind fun x S2 => (i τ S2).bind fun y S3 => match x, y with
  | .ref k, .int n => match S3[k]? with
    | some (.lst us) => match ixN us.length n with
      | some j => .ok (.nx τ) (S3.set k (.lst (us.set j t)))
      | none => .bad
    | _ => .bad
  | _, _ => .bad
theorem s_put {o i a : Expr} {p1 pos : Pos} {mo mi ma : Env → Sto → R T} (ha : PE X a (tM X.K E ma)) (ho : PE X o (tM X.K E mo)) (hi : PE X i (tM X.K E mi)) (hg : PG X (.Subscript o i p1) (gSub (tM X.K E mo) (tM X.K E mi) rSetL))
    (hs : swapsWithSole [(.Subscript o i p1)] a pos.line X.env = pure false := by rfl) (hw : swappedStores [(.Subscript o i p1)] a X.env = pure none := by rfl)
    (h1 : (assignEach [(.Subscript o i p1)] X.env).map (·.2) = [assign (.Subscript o i p1) X.env] := by rfl) : PS X (.Assign [.Subscript o i p1] a pos) (tS X.K E (sPut mo mi ma)) :=
  PS.of (ps_asg ha hg hs hw h1) fun D σ H ⟨ρ, τ, S, s, e, h⟩ => ⟨ρ, τ, S, s, e, h.step fun ρ1 H1 t S1 e1 s1 h1 v rv => ⟨ρ1, τ, S1, s1, e.ext e1, h1.step fun ρ2 H2 x S2 e2 s2 h2 w rw' => ⟨ρ2, τ, S2, s2, (e.ext e1).ext e2, h2.step fun ρ3 H3 y S3 e3 s3 h3 z rz => by
    split at h3
    · rename_i k n
      split at h3
      · rename_i us hu
        split at h3
        · rename_i j hj
          have ez := rep_int rz
          subst ez
          obtain ⟨b, xs, ew, hb, hx, rx⟩ := lstD_ref s3 (rw'.ext e3) hu
          subst ew
          have m : b ∈ ρ3.at_ := List.mem_of_getElem? hb
          exact ⟨b, xs, n, j, rfl, rfl, hx, by rw [rx.length]; exact hj, h3 ρ3 _ (Ext.put m) (s3.put hb ⟨_, upd_same, (rx.set j ((rv.ext e2).ext e3)).ext (Ext.put m)⟩) σ ((((e.ext e1).ext e2).ext e3).ext (Ext.put m))⟩
        · exact h3.elim
      · exact h3.elim
    · exact h3.elim⟩⟩⟩
/-! ### x op= e -/
theorem s_aug {i : Nat} {x : Str} {e : Expr} {op : Operator} {pos' pos : Pos} {r : TIp} {f : T → T → Sto → R T} {m : Env → Sto → R T} (hN : X.N.Nodup) (hi : X.N[i]? = some x) (hx : Loc X.env.scope x) (he : PE X e (tM X.K E m)) (ho : PIp X op r) (hs : Op2 X.K E r f) (hf : X.fn x = true ∨ X.env.scope.names.lookup x = some .local := by first | exact .inl rfl | exact .inr rfl | assumption) :
    PS X (.AugAssign (.Name x pos') op e pos) (tS X.K E (sAug i f m)) :=
  PS.of (ps_aug hN hi hx he ho hf) fun D σ H ⟨ρ, τ, S, s, e, h⟩ => by
    unfold sAug mVar at h
    split at h
    · rename_i t q
      obtain ⟨v, q1, r1⟩ := e.at_ _ _ q
      have h : Post X.K E ρ H ((m τ S).bind fun y S1 => (f t y S1).bind fun z S2 => R.ok (Fl.nx (τ.set i (some z))) S2) (QS X.K D) := h
      refine ⟨v, q1, ρ, τ, S, s, e, h.step fun ρ1 H1 y S1 e1 s1 h1 w rw' => hs ρ1 H1 S1 v w t y _ s1 (r1.ext e1) rw' (h1.step fun ρ2 H2 z S2 e2 s2 h2 u ru => h2.ok s2 _ (((e.ext e1).ext e2).set i ru))⟩
    · exact h.elim
end
end Fx
namespace Fx
open PySem PySem.Spec PyProof.Rows L2

/-! ### what is walked -/
structure Its where
  ts : List T
  src : List (Nat × List T)
def Its.chk (it : Its) (S : Sto) : Prop := ∀ p ∈ it.src, S[p.1]? = some (.lst p.2)
theorem chk_nil (ts : List T) (S : Sto) : Its.chk ⟨ts, []⟩ S := fun _ h => nomatch h
section
variable {K : PySem.W.Frag} {E : XK} {ρ ρ' ρ1 ρ2 : Wd} {H H' H1 H2 : Hp} {α β : Type}
/-- a step later on, what is wanted kept as it was said at the start -/
theorem Post.at {r : R α} {f : α → Sto → R β} {Q : Wd → Hp → β → Sto → Prop} {Q' : Wd → Hp → α → Sto → Prop} (h : Post K E ρ H (r.bind f) Q) (e : Ext ρ H ρ' H')
    (i : ∀ ρ2 H2 a S2, Ext ρ' H' ρ2 H2 → Sta K ρ2 H2 S2 → Post K E ρ H (f a S2) Q → Q' ρ2 H2 a S2) : Post K E ρ' H' r Q' := by
  cases r with
  | ok a S => exact fun ρ2 H2 e2 s => i _ _ _ _ e2 s h
  | err x S => exact fun ρ2 H2 C d vs e2 s => h ρ2 H2 C d vs (e.trans e2) s
  | bad => exact h
def noErr (r : R α) : R α := match r with
  | .ok a S => .ok a S
  | _ => .bad
/-- the same where nothing may be raised -/
theorem Post.at0 {E0' : XK} {r : R α} {f : α → Sto → R β} {Q : Wd → Hp → β → Sto → Prop} {Q' : Wd → Hp → α → Sto → Prop} (h : Post K E ρ H ((noErr r).bind f) Q) (e : Ext ρ H ρ' H')
    (i : ∀ ρ2 H2 a S2, Ext ρ' H' ρ2 H2 → Sta K ρ2 H2 S2 → Post K E ρ H (f a S2) Q → Q' ρ2 H2 a S2) : Post K E0' ρ' H' r Q' := by
  cases r with
  | ok a S => exact fun ρ2 H2 e2 s => i _ _ _ _ e2 s h
  | err x S => exact h.elim
  | bad => exact h
theorem Post.ifP {p : Prop} {a : R α} {Q : Wd → Hp → α → Sto → Prop} (h : Post K E ρ H (ifP p a .bad) Q) : p ∧ Post K E ρ H a Q := by
  by_cases c : p
  · rw [ifP_t c] at h
    exact ⟨c, h⟩
  · rw [ifP_f c] at h
    exact h.elim
end
def WalkM (K : PySem.W.Frag) (J : It) (ρ1 : Wd) (H1 : Hp) (it : Its) : Prop :=
  ∀ ρ H S, ExtW ρ1 H1 ρ H → Sta K ρ H S → it.chk S → J.stop it.ts.length H ∧ ∀ i t, it.ts[i]? = some t → J.go i H ∧ ∀ x H', J.yld i H x H' → Ext ρ H ρ H' ∧ Sta K ρ H' S ∧ Rep K ρ H' x t
def tI (K : PySem.W.Frag) (E : XK) (m : Env → Sto → R Its) : TI := fun σ H R => ∃ ρ τ S, Sta K ρ H S ∧ REnv K ρ H σ τ ∧ Post K E ρ H (m τ S) (fun ρ1 H1 it _ => ∀ J, WalkM K J ρ1 H1 it → R J H1)

/-! ### for -/
def stepFl (go : Env → Sto → R Fl) (f : Fl) (S : Sto) : R Fl := match f with
  | .nx τ => go τ S
  | .ct τ => go τ S
  | .bk τ => .ok (.nx τ) S
  | .rt t => .ok (.rt t) S
def bound {α : Type} (p : Pat) (t : T) (τ : Env) (k : Env → R α) : R α := match bindP p t τ with
  | some τ1 => k τ1
  | none => .bad
noncomputable def sForGo (it : Its) (p : Pat) (b : Env → Sto → R Fl) : List T → Env → Sto → R Fl
  | [], τ, S => ifP (it.chk S) (.ok (.nx τ) S) .bad
  | t :: ts, τ, S => ifP (it.chk S) (bound p t τ fun τ1 => (b τ1 S).bind (stepFl (sForGo it p b ts))) .bad
noncomputable def sFor (m : Env → Sto → R Its) (p : Pat) (b : Env → Sto → R Fl) : Env → Sto → R Fl := fun τ S => (m τ S).bind fun it S1 => sForGo it p b it.ts τ S1
theorem Post.bound {K : PySem.W.Frag} {E : XK} {ρ : Wd} {H : Hp} {α : Type} {p : Pat} {t : T} {τ : Env} {k : Env → R α} {Q : Wd → Hp → α → Sto → Prop} (h : Post K E ρ H (bound p t τ k) Q) : ∃ τ1, bindP p t τ = some τ1 ∧ Post K E ρ H (k τ1) Q := by
  unfold Fx.bound at h
  split at h
  · rename_i τ1 e
    exact ⟨τ1, e, h⟩
  · exact h.elim
section
variable {X : Cx} {E : XK}
theorem s_for {tg iter : Expr} {body : List Stmt} {pos : Pos} {m : Env → Sto → R Its} {p : Pat} {b : Env → Sto → R Fl} (hp : PassesOwn (model X.prog X.w) X.A X.env X.xe) (hc : X.calm = true) (hi : PI X tg iter (tI X.K E m)) (hg : PG X tg (tG X.K p)) (hb : PSs X body (tS X.K E b))
    (hs : ∀ x, foldedSetIterable iter X.env x = pure x := by intro _; rfl) : PS X (.For tg iter body [] pos) (tS X.K E (sFor m p b)) :=
  PS.of (ps_for hp hc hi hg hb hs) fun D σ H ⟨ρ, τ, S, s, e, h⟩ => ⟨ρ, τ, S, s, e, h.step fun ρ1 H1 it S1 e1 s1 h1 J wm => by
    refine ⟨fun i n σ' H' => ∃ ρ' τ' S' rest, Ext ρ1 H1 ρ' H' ∧ Sta X.K ρ' H' S' ∧ REnv X.K ρ' H' σ' τ' ∧ i ≤ it.ts.length ∧ it.ts.drop i = rest ∧ n = rest.length ∧ Post X.K E ρ1 H1 (sForGo it p b rest τ' S') (QS X.K D), ⟨_, ρ1, τ, S1, _, Ext.refl _ _, s1, e.ext e1, Nat.zero_le _, rfl, rfl, h1⟩, fun i n σ' H' hW => ?_⟩
    obtain ⟨ρ', τ', S', rest, x1, s', e', hil, hr, hn, q⟩ := hW
    cases rest with
    | nil =>
      unfold sForGo at q
      obtain ⟨c, q⟩ := q.ifP
      obtain ⟨w1, _⟩ := wm ρ' H' S' x1.w s' c
      have ei : i = it.ts.length := Nat.le_antisymm hil (List.drop_eq_nil_iff.mp hr)
      rw [ei]
      exact .inl ⟨w1, q ρ' H' x1 s' σ' e'⟩
    | cons t ts =>
      unfold sForGo at q
      obtain ⟨c, q⟩ := q.ifP
      obtain ⟨_, w2⟩ := wm ρ' H' S' x1.w s' c
      have hlt : i < it.ts.length := by
        refine Nat.lt_of_not_le fun z => ?_
        rw [List.drop_eq_nil_of_le z] at hr
        cases hr
      have hcons := List.drop_eq_getElem_cons hlt
      rw [hr] at hcons
      injection hcons with ht hts
      obtain ⟨go, yld⟩ := w2 i t (by rw [List.getElem?_eq_getElem hlt, ht])
      obtain ⟨τ1, hb1, q⟩ := q.bound
      refine .inr ⟨go, fun σ2 H2 => ∃ ρ' τ' S', Ext ρ1 H1 ρ' H2 ∧ Sta X.K ρ' H2 S' ∧ REnv X.K ρ' H2 σ2 τ' ∧ Post X.K E ρ1 H1 (sForGo it p b ts τ' S') (QS X.K D), fun σ2 H2 hN => ?_, fun v H2 hy => ?_⟩
      · obtain ⟨ρ2, τ2, S2, a1, a2, a3, a4⟩ := hN
        exact ⟨ts.length, by rw [hn]; exact Nat.lt_succ_self _, ρ2, τ2, S2, ts, a1, a2, a3, hlt, hts.symm, rfl, a4⟩
      · obtain ⟨y1, y2, y3⟩ := yld v H2 hy
        refine ⟨ρ', τ', t, τ1, e'.ext y1, y3, hb1, fun σ3 e3 _ => ⟨ρ', τ1, S', y2, e3, q.at (x1.trans y1) fun ρ4 H4 f S4 x4 s4 q4 => ?_⟩⟩
        have xx := (x1.trans y1).trans x4
        cases f with
        | nx τ5 => exact fun σ5 e5 => ⟨ρ4, τ5, S4, xx, s4, e5, q4⟩
        | ct τ5 => exact fun σ5 e5 => ⟨ρ4, τ5, S4, xx, s4, e5, q4⟩
        | bk τ5 => exact fun σ5 e5 => q4 ρ4 H4 xx s4 σ5 e5
        | rt t5 => exact fun v5 r5 => q4 ρ4 H4 xx s4 v5 r5⟩
end
/-! ### comprehensions -/
def wipeT (τ : Env) : List Nat → Env
  | [] => τ
  | v :: vs => (wipeT τ vs).set v none
noncomputable def mLcGo (it : Its) (p : Pat) (c : Env → Sto → R Bool) (b : Env → Sto → R T) (τ : Env) : List T → List T → Sto → R (List T)
  | [], acc, S => ifP (it.chk S) (.ok acc S) .bad
  | t :: ts, acc, S => ifP (it.chk S) (bound p t τ fun τ1 => (noErr (c τ1 S)).bind fun k S1 => if k = true then (noErr (b τ1 S1)).bind fun y S2 => if acc.length < 100000 then mLcGo it p c b τ ts (acc ++ [y]) S2 else .bad else mLcGo it p c b τ ts acc S1) .bad
noncomputable def mLc (fz : Bool) (vs : List Nat) (m : Env → Sto → R Its) (p : Pat) (c : Env → Sto → R Bool) (b : Env → Sto → R T) : Env → Sto → R T := fun τ S => (m τ S).bind fun it S1 => (mLcGo it p c b (wipeT τ vs) it.ts [] S1).bind fun acc S2 => newL fz acc S2
def mTrue : Env → Sto → R Bool := fun _ S => .ok true S
section
variable {K : PySem.W.Frag} {ρ : Wd} {H : Hp}
theorem REnv.unset {σ : L2.St} {τ : Env} (h : REnv K ρ H σ τ) (i : Nat) : REnv K ρ H (σ.set i none) (τ.set i none) := ⟨by rw [List.length_set, List.length_set, h.len], fun j u q => by
  rw [List.getElem?_set] at q ⊢
  by_cases e : i = j
  · rw [if_pos e] at q
    split at q
    · cases q
    · cases q
  · rw [if_neg e] at q ⊢
    exact h.at_ j u q⟩
theorem REnv.wipe {σ : L2.St} {τ : Env} (h : REnv K ρ H σ τ) : ∀ vs : List Nat, REnv K ρ H (L2.wipe σ vs) (wipeT τ vs)
  | [] => h
  | v :: vs => by
    unfold L2.wipe wipeT
    exact (REnv.wipe h vs).unset v
theorem wipe_at (σ : L2.St) : ∀ (vs : List Nat) (j : Nat), (L2.wipe σ vs)[j]? = if j ∈ vs then (if j < σ.length then some none else none) else σ[j]?
  | [], j => by simp [L2.wipe]
  | v :: vs, j => by
    unfold L2.wipe
    rw [List.getElem?_set, wipe_at σ vs j, L2.wipe_length]
    by_cases e : v = j
    · subst e
      simp
    · rw [if_neg e]
      have : (j ∈ v :: vs) ↔ j ∈ vs := by simp [List.mem_cons, Ne.symm e]
      by_cases m : j ∈ vs
      · rw [if_pos m, if_pos (this.mpr m)]
      · rw [if_neg m, if_neg (fun q => m (this.mp q))]
theorem near_wipe {ws vs : List Nat} {σ σ' : L2.St} (h : Near ws (L2.wipe σ vs) σ') (hs : ws.all (fun j => vs.contains j) = true) : L2.wipe σ' vs = L2.wipe σ vs := by
  apply List.ext_getElem?
  intro j
  have hl : σ'.length = σ.length := h.1.trans (L2.wipe_length σ vs)
  rw [wipe_at, wipe_at, hl]
  by_cases m : j ∈ vs
  · rw [if_pos m, if_pos m]
  · rw [if_neg m, if_neg m]
    have n : j ∉ ws := fun q => m (by
      have := List.all_eq_true.mp hs j q
      simpa using this)
    rw [h.2 j n, wipe_at, if_neg m]
end
/-- without the address that a made list has -/
def Wd.less (ρ : Wd) (D : Addr) : Wd := ⟨ρ.at_, ρ.out.erase D⟩
def Wd.plus (ρ : Wd) (D : Addr) : Wd := ⟨ρ.at_, D :: ρ.out⟩
def Wd.move (ρ : Wd) (D : Addr) : Wd := ⟨ρ.at_ ++ [D], ρ.out.erase D⟩
section
variable {K : PySem.W.Frag} {E : XK} {ρ ρ1 : Wd} {H H1 : Hp} {S : Sto} {D : Addr}
theorem less_av {a : Addr} (h : a ∉ ρ.av) : a ∉ (ρ.less D).av := fun q => by
  rcases List.mem_append.mp q with q | q
  · exact h (List.mem_append_left _ q)
  · exact h (List.mem_append_right _ (List.mem_of_mem_erase q))
theorem move_av (hD : D ∈ ρ.out) {a : Addr} (h : a ∉ ρ.av) : a ∉ (ρ.move D).av := fun q => by
  rcases List.mem_append.mp q with q | q
  · rcases List.mem_append.mp q with q | q
    · exact h (List.mem_append_left _ q)
    · rw [List.mem_singleton.mp q] at h
      exact h (List.mem_append_right _ hD)
  · exact h (List.mem_append_right _ (List.mem_of_mem_erase q))
theorem Ext.less (e : Ext ρ1 H1 ρ H) (hD : H1 D = none) (hn : D ∉ ρ1.av) : Ext ρ1 H1 (ρ.less D) H where
  pre := e.pre
  out := fun a m => (List.mem_erase_of_ne (fun z => hn (by rw [← z]; exact List.mem_append_right _ m))).mpr (e.out a m)
  fresh := fun p h1 h2 => e.fresh p (by
    rcases List.mem_append.mp h1 with q | q
    · exact List.mem_append_left _ q
    · exact List.mem_append_right _ (List.mem_of_mem_erase q)) h2
  keep := e.keep
  old := e.old
theorem Ext.move (e : Ext ρ1 H1 ρ H) (hD : H1 D = none) (hn : D ∉ ρ1.av) : Ext ρ1 H1 (ρ.move D) H where
  pre := by
    obtain ⟨n, q⟩ := e.pre
    exact ⟨n ++ [D], by show ρ.at_ ++ [D] = _; rw [q, List.append_assoc]⟩
  out := (e.less hD hn).out
  fresh := fun p h1 h2 => by
    rcases List.mem_append.mp h1 with q | q
    · rcases List.mem_append.mp q with q | q
      · exact e.fresh p (List.mem_append_left _ q) h2
      · rw [List.mem_singleton.mp q]; exact hD
    · exact e.fresh p (List.mem_append_right _ (List.mem_of_mem_erase q)) h2
  keep := e.keep
  old := fun a h1 h2 => by
    rcases List.mem_append.mp h1 with q | q
    · exact e.old a q h2
    · rw [List.mem_singleton.mp q] at h2
      exact absurd h2 hn
theorem Sta.less (s : Sta K ρ H S) : Sta K (ρ.less D) H S where
  len := s.len
  nd := by
    obtain ⟨h1, h2, h3⟩ := List.nodup_append.mp s.nd
    exact List.nodup_append.mpr ⟨h1, h2.erase D, fun a ha b hb => h3 a ha b (List.mem_of_mem_erase hb)⟩
  al := fun a m => s.al a (List.mem_of_mem_erase m)
  at_ := fun i a o h1 h2 => RepO.to (ρ := ρ) (ρ' := ρ.less D) (fun _ _ h => h) (fun _ h => less_av h) (s.at_ i a o h1 h2)
theorem Ext.plus {o : HO} (n : H D = none) (hn : D ∉ ρ.av) : Ext ρ H (ρ.plus D) (upd H D o) where
  pre := ⟨[], (List.append_nil _).symm⟩
  out := fun a h => List.mem_cons_of_mem _ h
  fresh := fun p h1 h2 => by
    rcases List.mem_append.mp h1 with q | q
    · exact absurd (List.mem_append_left _ q) h2
    · rcases List.mem_cons.mp q with q | q
      · rw [q]; exact n
      · exact absurd (List.mem_append_right _ q) h2
  keep := (Ext.push n hn).keep
  old := fun _ h _ => h
theorem Sta.plus (s : Sta K ρ H S) (n : H D = none) : Sta K (ρ.plus D) (upd H D (.lst [])) S where
  len := s.len
  nd := by
    have hn := s.new n
    unfold Wd.plus Wd.av
    obtain ⟨h1, h2, h3⟩ := List.nodup_append.mp s.nd
    refine List.nodup_append.mpr ⟨h1, List.nodup_cons.mpr ⟨fun q => hn (List.mem_append_right _ q), h2⟩, fun a ha b hb => ?_⟩
    rcases List.mem_cons.mp hb with hb | hb
    · rw [hb]; exact fun z => hn (List.mem_append_left _ (z ▸ ha))
    · exact h3 a ha b hb
  al := fun a m => by
    rcases List.mem_cons.mp m with m | m
    · rw [m]; exact ⟨[], .inl upd_same⟩
    · exact (s.push n).al a m
  at_ := fun i a o h1 h2 => by
    have r := s.at_ i a o h1 h2
    have ne : a ≠ D := fun z => by
      obtain ⟨w, hw⟩ := r.is
      rw [z, n] at hw
      cases hw
    exact r.ext (Ext.plus n (s.new n)) (upd_ne ne)
/-- the list that is being made grows -/
theorem Ext.grow {o : HO} (e : Ext ρ1 H1 ρ H) (hD : H1 D = none) : Ext ρ1 H1 ρ (upd H D o) where
  pre := e.pre
  out := e.out
  fresh := e.fresh
  keep := fun a u h m => by
    rw [upd_ne (ne_of_none h hD)]
    exact e.keep a u h m
  old := e.old
theorem fro_ne {a : Addr} (hD : D ∈ ρ.out) (h : a ∉ ρ.av) : a ≠ D := fun z => h (by rw [z]; exact List.mem_append_right _ hD)
theorem Ext.mine {o : HO} (hD : D ∈ ρ.out) : ∀ a u, H a = some u → a ∉ ρ.av → upd H D o a = some u := fun a u h n => by
  rw [upd_ne (fro_ne hD n)]
  exact h
mutual
theorem Rep.grow {o : HO} (hD : D ∈ ρ.out) : ∀ {v : V} {t : T}, Rep K ρ H v t → Rep K ρ (upd H D o) v t
  | _, _, .non => .non
  | _, _, .bl b => .bl b
  | _, _, .int i => .int i
  | _, _, .str x => .str x
  | _, _, .obj a => .obj a
  | _, _, .ty n => .ty n
  | _, _, .ref h => .ref h
  | _, _, .tup h r => .tup (h.imp (fun ⟨⟨o, z, b⟩, q⟩ => ⟨⟨o, Ext.mine hD _ _ z q, b⟩, q⟩) id) (Reps.grow hD r)
  | _, _, .wt h n r => .wt (h.imp (fun z => Ext.mine hD _ _ z n) (fun ⟨u, z⟩ => ⟨u, Ext.mine hD _ _ z n⟩)) n (Reps.grow hD r)
  | _, _, .exn g h n x r => .exn g (Ext.mine hD _ _ h n) n (x.mono fun b u z m => ⟨Ext.mine hD _ _ z m, m⟩) (Reps.grow hD r)
  | _, _, .lst h n r => .lst (Ext.mine hD _ _ h n) n (Reps.grow hD r)
  | _, _, .kst h r => .kst (h.imp (fun q => ⟨q.1.imp (fun z => Ext.mine hD _ _ z q.2) (fun ⟨u, z⟩ => ⟨u, Ext.mine hD _ _ z q.2⟩), q.2⟩) id) (Reps.grow hD r)
theorem Reps.grow {o : HO} (hD : D ∈ ρ.out) : ∀ {v : List V} {t : List T}, Reps K ρ H v t → Reps K ρ (upd H D o) v t
  | _, _, .nil => .nil
  | _, _, .cons h r => .cons (Rep.grow hD h) (Reps.grow hD r)
end
theorem RepF.grow {o : HO} (hD : D ∈ ρ.out) : ∀ {v : List (Str × V)} {t : List (Str × T)}, RepF K ρ H v t → RepF K ρ (upd H D o) v t
  | _, _, .nil => .nil
  | _, _, .cons h r => .cons (h.grow hD) (RepF.grow hD r)
theorem Sta.grow {xs : List V} (s : Sta K ρ H S) (hD : D ∈ ρ.out) : Sta K ρ (upd H D (.lst xs)) S where
  len := s.len
  nd := s.nd
  al := fun a m => by
    by_cases z : a = D
    · rw [z]; exact ⟨xs, .inl upd_same⟩
    · rw [upd_ne z]; exact s.al a m
  at_ := fun i a o h1 h2 => by
    have r := s.at_ i a o h1 h2
    have ne : a ≠ D := fun z => s.off hD (by rw [← z]; exact List.mem_of_getElem? h1)
    cases o with
    | lst ts => obtain ⟨ys, q1, q2⟩ := r; exact ⟨ys, by rw [upd_ne ne]; exact q1, q2.grow hD⟩
    | ins C fs => obtain ⟨dx, vs, q1, q2⟩ := r; exact ⟨dx, vs, by rw [upd_ne ne]; exact q1, q2.grow hD⟩
theorem Sta.move {us : List T} {xs : List V} (s : Sta K ρ H S) (hD : D ∈ ρ.out) (hx : H D = some (.lst xs)) (rs : Reps K ρ H xs us) : Sta K (ρ.move D) H (S ++ [.lst us]) where
  len := by simp [Wd.move, s.len]
  nd := by
    obtain ⟨h1, h2, h3⟩ := List.nodup_append.mp s.nd
    unfold Wd.move Wd.av
    rw [List.append_assoc]
    refine List.nodup_append.mpr ⟨h1, List.nodup_cons.mpr ⟨fun q => (List.Nodup.not_mem_erase h2) q, h2.erase D⟩, fun a ha b hb => ?_⟩
    rcases List.mem_cons.mp hb with hb | hb
    · rw [hb]; exact h3 a ha D hD
    · exact h3 a ha b (List.mem_of_mem_erase hb)
  al := fun a m => s.al a (List.mem_of_mem_erase m)
  at_ := fun i a o h1 h2 => by
    have up : ∀ (i : Nat) (a : Addr), ρ.at_[i]? = some a → (ρ.move D).at_[i]? = some a := fun i a h => getE_pre h
    have h1 : (ρ.at_ ++ [D])[i]? = some a := h1
    by_cases hi : i < S.length
    · rw [List.getElem?_append_left hi] at h2
      rw [List.getElem?_append_left (by rw [s.len]; exact hi)] at h1
      exact (s.at_ i a o h1 h2).to up fun _ h => move_av hD h
    · have hj : i = S.length := by
        obtain ⟨q1, _⟩ := List.getElem?_eq_some_iff.mp h2
        rw [List.length_append, List.length_singleton] at q1
        omega
      subst hj
      rw [List.getElem?_append_right (Nat.le_refl _), Nat.sub_self] at h2
      rw [← s.len, List.getElem?_append_right (Nat.le_refl _), Nat.sub_self] at h1
      have q := Option.some.inj h2
      have e := Option.some.inj h1
      subst q
      subst e
      exact ⟨xs, hx, rs.to up fun _ h => move_av hD h⟩
/-- the made list is handed out -/
theorem give_lst {ts : List T} {xs : List V} {Q : VK} {fz : Bool} (hD : H1 D = none) (hn1 : D ∉ ρ1.av) (hx : H D = some (.lst xs)) (e : Ext ρ1 H1 ρ H) (s : Sta K ρ H S) (hm : D ∈ ρ.out) (r : Reps K ρ H xs ts) (h : Post K E ρ1 H1 (newL fz ts S) (QE K Q)) : Q (.ref D) H := by
  cases fz with
  | true =>
    refine h (ρ.less D) H (e.less hD hn1) s.less _ (.lst hx (fun q => ?_) (Reps.to (ρ := ρ) (ρ' := ρ.less D) (fun _ _ h => h) (fun _ h => less_av h) r))
    rcases List.mem_append.mp q with q | q
    · exact s.off hm q
    · exact (List.Nodup.not_mem_erase (List.nodup_append.mp s.nd).2.1) q
  | false =>
    refine h (ρ.move D) H (e.move hD hn1) (s.move hm hx r) _ (.ref ?_)
    show (ρ.at_ ++ [D])[S.length]? = some D
    rw [← s.len, List.getElem?_append_right (Nat.le_refl _), Nat.sub_self]
    rfl
end
theorem lc_fn {K : PySem.W.Frag} {E : XK} {fz : Bool} {σ : L2.St} {ρ1 : Wd} {H1 : Hp} {S1 : Sto} {τ : Env} {it : Its} {J : It} {D : Addr} {Q : VK} {p : Pat} {c : Env → Sto → R Bool} {b : Env → Sto → R T} (own : List (Str × Nat)) (hsl : p.slots.all (fun j => (own.map (·.2)).contains j) = true) (hD : H1 D = none) (s1 : Sta K ρ1 H1 S1) (e1 : REnv K ρ1 H1 σ τ)
    (h : Post K E ρ1 H1 ((mLcGo it p c b (wipeT τ (own.map (·.2))) it.ts [] S1).bind fun acc S2 => newL fz acc S2) (QE K Q)) (wm : WalkM K J ρ1 H1 it) :
    ∃ W : Nat → Nat → Hp → Prop, (∃ m, W 0 m (upd H1 D (.lst []))) ∧ ∀ i m H, W i m H →
      (J.stop i H ∧ Q (.ref D) H) ∨ (J.go i H ∧ ∃ Nx : Hp → Prop, (∀ H', Nx H' → ∃ m', m' < m ∧ W (i + 1) m' H') ∧ ∀ x H', J.yld i H x H' → tG K p x (L2.wipe σ (own.map (·.2))) H' fun σ2 H2 => L2.wipe σ2 (own.map (·.2)) = L2.wipe σ (own.map (·.2)) ∧ tB K E0 c σ2 H2 fun k H3 =>
        if k = true then tM K E0 b σ2 H3 fun y H4 => ∃ acc, H4 D = some (.lst acc) ∧ acc.length < sizeLine ∧ Nx (upd H4 D (.lst (acc ++ [y]))) else Nx H3) := by
  generalize hvs : own.map (·.2) = vs at *
  have hn1 := s1.new hD
  refine ⟨fun i n H => ∃ ρ S rest acc us, Ext ρ1 H1 ρ H ∧ Sta K ρ H S ∧ D ∈ ρ.out ∧ H D = some (.lst us) ∧ Reps K ρ H us acc ∧ i ≤ it.ts.length ∧ it.ts.drop i = rest ∧ n = rest.length ∧ Post K E ρ1 H1 ((mLcGo it p c b (wipeT τ vs) rest acc S).bind fun acc S2 => newL fz acc S2) (QE K Q),
    ⟨_, ρ1.plus D, S1, _, [], [], Ext.plus hD hn1, s1.plus hD, List.mem_cons_self, upd_same, .nil, Nat.zero_le _, rfl, rfl, h⟩, fun i n H hW => ?_⟩
  obtain ⟨ρ, S, rest, acc, us, x1, s, hm, hd, ra, hil, hr, hn, q⟩ := hW
  cases rest with
  | nil =>
    unfold mLcGo at q
    have q' : it.chk S ∧ Post K E ρ1 H1 (newL fz acc S) (QE K Q) := by
      by_cases ck : it.chk S
      · rw [ifP_t ck] at q; exact ⟨ck, q⟩
      · rw [ifP_f ck] at q; exact q.elim
    obtain ⟨w1, _⟩ := wm ρ H S x1.w s q'.1
    have ei : i = it.ts.length := Nat.le_antisymm hil (List.drop_eq_nil_iff.mp hr)
    rw [ei]
    exact .inl ⟨w1, give_lst hD hn1 hd x1 s hm ra q'.2⟩
  | cons t ts =>
    unfold mLcGo at q
    by_cases ck : it.chk S
    case neg => rw [ifP_f ck] at q; exact q.elim
    rw [ifP_t ck] at q
    obtain ⟨_, w2⟩ := wm ρ H S x1.w s ck
    have hlt : i < it.ts.length := by
      refine Nat.lt_of_not_le fun z => ?_
      rw [List.drop_eq_nil_of_le z] at hr
      cases hr
    have hcons := List.drop_eq_getElem_cons hlt
    rw [hr] at hcons
    injection hcons with ht hts
    obtain ⟨go, yld⟩ := w2 i t (by rw [List.getElem?_eq_getElem hlt, ht])
    unfold Fx.bound at q
    split at q
    case h_2 => exact q.elim
    rename_i τ1 hb1
    refine .inr ⟨go, fun H' => ∃ ρ S acc us, Ext ρ1 H1 ρ H' ∧ Sta K ρ H' S ∧ D ∈ ρ.out ∧ H' D = some (.lst us) ∧ Reps K ρ H' us acc ∧ Post K E ρ1 H1 ((mLcGo it p c b (wipeT τ vs) ts acc S).bind fun acc S2 => newL fz acc S2) (QE K Q), fun H' hN => ?_, fun v H2 hy => ?_⟩
    · obtain ⟨ρ', S', acc', us', a1, a2, a3, a4, a5, a6⟩ := hN
      exact ⟨ts.length, by rw [hn]; exact Nat.lt_succ_self _, ρ', S', ts, acc', us', a1, a2, a3, a4, a5, hlt, hts.symm, rfl, a6⟩
    · obtain ⟨y1, y2, y3⟩ := yld v H2 hy
      have hoff : ∀ {ρ : Wd} {H : Hp} {S : Sto}, Sta K ρ H S → D ∈ ρ.out → D ∉ ρ.at_ := fun s m => s.off m
      have ew : REnv K ρ H2 (L2.wipe σ vs) (wipeT τ vs) := ((e1.ext x1).ext y1).wipe vs
      refine ⟨ρ, wipeT τ vs, t, τ1, ew, y3, hb1, fun σ3 e3 nr => ⟨near_wipe nr hsl, ρ, τ1, S, y2, e3, ?_⟩⟩
      refine Post.at0 (K := K) (E := E) (ρ := ρ1) (H := H1) (f := fun k S1 => (if k = true then (noErr (b τ1 S1)).bind fun y S2 => if acc.length < 100000 then mLcGo it p c b (wipeT τ vs) ts (acc ++ [y]) S2 else .bad else mLcGo it p c b (wipeT τ vs) ts acc S1).bind fun acc S2 => newL fz acc S2) (Q := QE K Q) ?_ (x1.trans y1) fun ρ4 H4 k S4 x4 s4 q4 => ?_
      · rw [← R.bind_assoc]; exact q
      · have d4 : H4 D = some (.lst us) := x4.keep _ _ (y1.keep _ _ hd (s.off hm)) (y2.off hm)
        have m4 : D ∈ ρ4.out := x4.out _ hm
        have xx := (x1.trans y1).trans x4
        cases k with
        | false => exact ⟨ρ4, S4, acc, us, xx, s4, m4, d4, (ra.ext y1).ext x4, q4⟩
        | true =>
          refine ⟨ρ4, τ1, S4, s4, e3.ext x4, ?_⟩
          refine Post.at0 (K := K) (E := E) (ρ := ρ1) (H := H1) (f := fun y S2 => (if acc.length < 100000 then mLcGo it p c b (wipeT τ vs) ts (acc ++ [y]) S2 else .bad).bind fun acc S2 => newL fz acc S2) (Q := QE K Q) ?_ xx fun ρ5 H5 y S5 x5 s5 q5 w rw' => ?_
          · rw [← R.bind_assoc]; exact q4
          · have d5 : H5 D = some (.lst us) := x5.keep _ _ d4 (s4.off m4)
            have m5 : D ∈ ρ5.out := x5.out _ m4
            have r5 := ((ra.ext y1).ext x4).ext x5
            by_cases hl : acc.length < 100000
            · rw [if_pos hl] at q5
              exact ⟨us, d5, by rw [ra.length]; exact sz_lt5 hl, ρ5, S5, acc ++ [y], us ++ [w], (xx.trans x5).grow hD, s5.grow m5, m5, upd_same, (r5.append (.cons rw' .nil)).grow m5, q5⟩
            · rw [if_neg hl] at q5
              exact q5.elim
section
variable {X : Cx} {E : XK}
theorem x_lc (fz : Bool) {elt tg iter : Expr} {ifs : List Expr} {scope : Scope} {own : List (Str × Nat)} {pos : Pos} {m : Env → Sto → R Its} {p : Pat} {c : Env → Sto → R Bool} {b : Env → Sto → R T} (hc : X.calm = true) (hN : X.N.Nodup) (hi : PI X tg iter (tI X.K E m)) (ok : BlkOk X.N X.env.scope scope own)
    (hsl : p.slots.all (fun j => (own.map (·.2)).contains j) = true)
    (hg : ∀ (s : Shared) (H : Hp) (C : Addr) (cl : List (Str × Addr)) (fp : List Addr), PG (X.blk s H scope (compEnvC scope cl C X.env) fp) tg (tG X.K p)) (ht : ∀ (s : Shared) (H : Hp) (C : Addr) (cl : List (Str × Addr)) (fp : List Addr), PTs (X.blk s H scope (compEnvC scope cl C X.env) fp) ifs (tB X.K E0 c))
    (he : ∀ (s : Shared) (H : Hp) (C : Addr) (cl : List (Str × Addr)) (fp : List Addr), PE (X.blk s H scope (compEnvC scope cl C X.env) fp) elt (tM X.K E0 b)) (hs : ∀ x, foldedSetIterable iter X.env x = pure x := by intro _; rfl) :
    PE X (.ListComp elt [⟨tg, iter, ifs, 0⟩] scope pos) (tM X.K E (mLc fz (own.map (·.2)) m p c b)) :=
  PE.of (pe_lc hc hN hi ok hg ht he hs) fun σ H Q ⟨ρ, τ, S, s, e, h⟩ => ⟨ρ, τ, S, s, e, h.step fun ρ1 H1 it S1 e1 s1 h1 J wm D hD => lc_fn own hsl hD s1 (e.ext e1) h1 wm⟩
end
end Fx
namespace Fx
open PySem PySem.Spec PyProof.Rows L2

/-! ### walks -/
section
variable {K : PySem.W.Frag} {E : XK} {ρ ρ1 : Wd} {H H1 : Hp} {S S1 : Sto} {it : Its} {a : Addr}
theorem walk_l (g : ∀ ρ H S, ExtW ρ1 H1 ρ H → Sta K ρ H S → it.chk S → ∃ xs, SqL K H a xs ∧ Reps K ρ H xs it.ts) : WalkM K (Itl K a) ρ1 H1 it := fun ρ H S e s c => by
  obtain ⟨xs, hx, rs⟩ := g ρ H S e s c
  refine ⟨⟨xs, hx, by rw [rs.length]; exact Nat.le_refl _⟩, fun i t ht => ?_⟩
  obtain ⟨y, hy, ry⟩ := rs.get ht
  refine ⟨⟨xs, y, hx, hy⟩, fun x H' q => ?_⟩
  obtain ⟨rfl, q⟩ := q
  have z := q xs hx
  rw [hy] at z
  cases z
  exact ⟨Ext.refl _ _, s, ry⟩
theorem walk_t (g : ∀ ρ H S, ExtW ρ1 H1 ρ H → Sta K ρ H S → it.chk S → ∃ xs, SqT K H a xs ∧ Reps K ρ H xs it.ts) : WalkM K (Itt K a) ρ1 H1 it := fun ρ H S e s c => by
  obtain ⟨xs, hx, rs⟩ := g ρ H S e s c
  refine ⟨⟨xs, hx, by rw [rs.length]; exact Nat.le_refl _⟩, fun i t ht => ?_⟩
  obtain ⟨y, hy, ry⟩ := rs.get ht
  refine ⟨⟨xs, y, hx, hy⟩, fun x H' q => ?_⟩
  obtain ⟨rfl, q⟩ := q
  have z := q xs hx
  rw [hy] at z
  cases z
  exact ⟨Ext.refl _ _, s, ry⟩
/-- a list's items stay where they are said to -/
theorem keep_l {v : V} {t : T} {ts : List T} {src : List (Nat × List T)} (s : Sta K ρ1 H1 S1) (r : Rep K ρ1 H1 v t) (h : lstOf S1 t = some ts) (hs : ∀ k, t = .ref k → (k, ts) ∈ src) : ∃ a, v = .ref a ∧ ∃ xs0, SqL K H1 a xs0 ∧ xs0.length = ts.length ∧ ∀ ρ H S, ExtW ρ1 H1 ρ H → Sta K ρ H S → Its.chk ⟨ts, src⟩ S → ∃ xs, SqL K H a xs ∧ Reps K ρ H xs ts := by
  obtain ⟨a, xs0, rfl, h0, r0⟩ := lstOf_at s r h
  refine ⟨a, rfl, xs0, h0, r0.length, fun ρ H S e s' c => ?_⟩
  cases t with
  | ref k =>
    have hk := c (k, ts) (hs k rfl)
    obtain ⟨b, xs, eb, h1, h2⟩ := lstOf_at s' (r.extw e) (ts := ts) (by show (match S[k]? with | some (.lst ts) => some ts | _ => none) = _; rw [hk])
    cases eb
    exact ⟨xs, h1, h2⟩
  | lst us =>
    obtain ⟨b, xs, eb, h1, h2⟩ := lstOf_at s' (r.extw e) (ts := ts) h
    cases eb
    exact ⟨xs, h1, h2⟩
  | kst us =>
    obtain ⟨b, xs, eb, h1, h2⟩ := lstOf_at s' (r.extw e) (ts := ts) h
    cases eb
    exact ⟨xs, h1, h2⟩
  | _ => cases h
end
def srcOf (S : Sto) : T → List (Nat × List T)
  | .ref k => match S[k]? with
    | some (.lst ts) => [(k, ts)]
    | _ => []
  | _ => []
theorem srcOf_mem {S : Sto} {t : T} {ts : List T} (h : lstOf S t = some ts) : ∀ k, t = .ref k → (k, ts) ∈ srcOf S t := fun k e => by
  subst e
  have h : (match S[k]? with | some (.lst ts) => some ts | _ => none) = some ts := h
  unfold srcOf
  split at h
  · rename_i us q
    cases h
    show (k, ts) ∈ (match S[k]? with
      | some (.lst ts) => [(k, ts)]
      | _ => [])
    rw [q]
    exact List.mem_singleton.mpr rfl
  · cases h
def strT (z : Str) : List T := z.cps.toList.map fun c => .str ⟨#[c]⟩
def itOf (t : T) (S : Sto) : R Its := match t with
  | .tup ts => .ok ⟨ts, []⟩ S
  | .str z => .ok ⟨strT z, []⟩ S
  | t => match lstOf S t with
    | some ts => .ok ⟨ts, srcOf S t⟩ S
    | none => .bad
def mIt (m : Env → Sto → R T) : Env → Sto → R Its := fun τ S => (m τ S).bind itOf
section
variable {X : Cx} {E : XK}
theorem PI.or3 {tg iter : Expr} {w w1 w2 w3 : TI} (h1 : PI X tg iter w1) (h2 : PI X tg iter w2) (h3 : PI X tg iter w3) (i : ∀ σ H R, w σ H R → w1 σ H R ∨ w2 σ H R ∨ w3 σ H R) : PI X tg iter w := ⟨fun pins s σ H R I hw => by
  rcases i σ H R hw with q | q | q
  · exact h1.run pins s σ H R I q
  · exact h2.run pins s σ H R I q
  · exact h3.run pins s σ H R I q⟩
theorem PI.of {tg iter : Expr} {w w1 : TI} (h1 : PI X tg iter w1) (i : ∀ σ H R, w σ H R → w1 σ H R) : PI X tg iter w := ⟨fun pins s σ H R I hw => h1.run pins s σ H R I (i σ H R hw)⟩
theorem walk_s {ρ1 : Wd} {H1 : Hp} {z : Str} : WalkM X.K (L2.Its z) ρ1 H1 ⟨strT z, []⟩ := fun ρ H S e s c => by
  refine ⟨by show z.cps.size ≤ (strT z).length; simp [strT], fun i t ht => ?_⟩
  have ht : (z.cps.toList.map fun c => T.str ⟨#[c]⟩)[i]? = some t := ht
  rw [List.getElem?_map] at ht
  obtain ⟨c, hc, rfl⟩ := Option.map_eq_some_iff.mp ht
  have hi : i < z.cps.size := by
    obtain ⟨q, _⟩ := List.getElem?_eq_some_iff.mp hc
    simpa using q
  refine ⟨hi, fun x H' q => ?_⟩
  obtain ⟨rfl, c', hc', rfl⟩ := q
  have e2 : c' = c := by
    rw [← Array.getElem?_toList] at hc'
    rw [hc] at hc'
    exact (Option.some.inj hc').symm
  rw [e2]
  exact ⟨Ext.refl _ _, s, .str _⟩
theorem i_seq {tg e : Expr} {m : Env → Sto → R T} (h : PE X e (tM X.K E m)) : PI X tg e (tI X.K E (mIt m)) :=
  PI.or3 (pi_list h) (pi_tup h) (pi_str h) fun σ H R ⟨ρ, τ, S, s, en, q⟩ => by
    unfold mIt at q
    cases hm : m τ S with
    | bad => rw [hm] at q; exact q.elim
    | err x S' =>
      rw [hm] at q
      exact .inl ⟨ρ, τ, S, s, en, by rw [hm]; exact q⟩
    | ok t S' =>
      have q0 := q
      rw [hm] at q
      have q : Post X.K E ρ H (itOf t S') (fun ρ1 H1 it _ => ∀ J, WalkM X.K J ρ1 H1 it → R J H1) := q
      cases t with
      | tup ts =>
        refine .inr (.inl ⟨ρ, τ, S, s, en, ?_⟩)
        rw [hm]
        intro ρ1 H1 e1 s1 v rv
        obtain ⟨a, xs, rfl, fa, ra⟩ := rep_tup rv
        exact ⟨a, rfl, ⟨xs, fa.sq⟩, q ρ1 H1 e1 s1 _ (walk_t fun ρ2 H2 S2 e2 s2 _ => ⟨xs, (fa.extw e2).sq, ra.extw e2⟩)⟩
      | str z =>
        refine .inr (.inr ⟨ρ, τ, S, s, en, ?_⟩)
        rw [hm]
        intro ρ1 H1 e1 s1 v rv
        exact ⟨z, rep_str rv, q ρ1 H1 e1 s1 _ walk_s⟩
      | lst ts =>
        refine .inl ⟨ρ, τ, S, s, en, ?_⟩
        rw [hm]
        intro ρ1 H1 e1 s1 v rv
        obtain ⟨a, rfl, xs, h0, _, hk⟩ := keep_l (src := []) s1 rv (ts := ts) rfl (fun k z => nomatch z)
        exact ⟨a, rfl, ⟨xs, h0⟩, q ρ1 H1 e1 s1 _ (walk_l hk)⟩
      | kst ts =>
        refine .inl ⟨ρ, τ, S, s, en, ?_⟩
        rw [hm]
        intro ρ1 H1 e1 s1 v rv
        obtain ⟨a, rfl, xs, h0, _, hk⟩ := keep_l (src := []) s1 rv (ts := ts) rfl (fun k z => nomatch z)
        exact ⟨a, rfl, ⟨xs, h0⟩, q ρ1 H1 e1 s1 _ (walk_l hk)⟩
      | ref k =>
        refine .inl ⟨ρ, τ, S, s, en, ?_⟩
        rw [hm]
        intro ρ1 H1 e1 s1 v rv
        cases hl : lstOf S' (.ref k) with
        | none =>
          have q : Post X.K E ρ H (match lstOf S' (.ref k) with | some ts => .ok ⟨ts, srcOf S' (.ref k)⟩ S' | none => .bad) (fun ρ1 H1 it _ => ∀ J, WalkM X.K J ρ1 H1 it → R J H1) := q
          rw [hl] at q
          exact q.elim
        | some ts =>
          have q : Post X.K E ρ H (match lstOf S' (.ref k) with | some ts => .ok ⟨ts, srcOf S' (.ref k)⟩ S' | none => .bad) (fun ρ1 H1 it _ => ∀ J, WalkM X.K J ρ1 H1 it → R J H1) := q
          rw [hl] at q
          obtain ⟨a, rfl, xs, h0, _, hk⟩ := keep_l (src := srcOf S' (.ref k)) s1 rv hl (srcOf_mem hl)
          exact ⟨a, rfl, ⟨xs, h0⟩, q ρ1 H1 e1 s1 _ (walk_l hk)⟩
      | _ => exact q.elim
/-! range -/
def rangeT (lo : Int) (n : Nat) : List T := (List.range n).map fun i : Nat => .int (lo + (i : Int))
def fRange1 (ts : List T) (S : Sto) : R Its := match ts with
  | [.int j] => if (decide (-(2 ^ 62) ≤ j) && decide (j < 2 ^ 62)) = true then .ok ⟨rangeT 0 j.toNat, []⟩ S else .bad
  | _ => .bad
def fRange2 (ts : List T) (S : Sto) : R Its := match ts with
  | [.int i, .int j] => if ((decide (-(2 ^ 62) ≤ i) && decide (i < 2 ^ 62)) && (decide (-(2 ^ 62) ≤ j) && decide (j < 2 ^ 62))) = true then .ok ⟨rangeT i (j - i).toNat, []⟩ S else .bad
  | _ => .bad
def mItN (f : List T → Sto → R Its) (a : Env → Sto → R (List T)) : Env → Sto → R Its := fun τ S => (a τ S).bind f
theorem walk_r {ρ1 : Wd} {H1 : Hp} {lo : Int} {n : Nat} : WalkM X.K (Itr lo n) ρ1 H1 ⟨rangeT lo n, []⟩ := fun ρ H S e s c => by
  refine ⟨by show n ≤ (rangeT lo n).length; simp [rangeT], fun i t ht => ?_⟩
  have ht : ((List.range n).map fun i : Nat => T.int (lo + (i : Int)))[i]? = some t := ht
  rw [List.getElem?_map] at ht
  obtain ⟨c, hc, rfl⟩ := Option.map_eq_some_iff.mp ht
  obtain ⟨hi, hci⟩ := List.getElem?_eq_some_iff.mp hc
  rw [List.getElem_range] at hci
  rw [List.length_range] at hi
  subst hci
  refine ⟨hi, fun x H' q => ?_⟩
  obtain ⟨rfl, rfl⟩ := q
  exact ⟨Ext.refl _ _, s, .int _⟩
theorem i_range1 {tg a : Expr} {ms : Env → Sto → R (List T)} {p pos : Pos} (hg : Gl X "range") (hm : X.mg "range" = none) (ha : PA X [a] (tA X.K E ms)) (hs : starEach [a] X.env = [(false, eval a X.env)] := by rfl) : PI X tg (.Call (.Name "range" p) [a] [] pos) (tI X.K E (mItN fRange1 ms)) :=
  PI.of (pi_range1 hg hm ha hs) fun σ H R ⟨ρ, τ, S, s, en, q⟩ => ⟨ρ, τ, S, s, en, q.step fun ρ1 H1 ts S1 e1 s1 h1 vs rs => by
    unfold fRange1 at h1
    split at h1
    · rename_i j
      split at h1
      · rename_i hb
        rw [Bool.and_eq_true, decide_eq_true_eq, decide_eq_true_eq] at hb
        obtain ⟨y, rfl, ry⟩ := rs.one
        exact ⟨j, by rw [rep_int ry], hb.1, hb.2, h1.ok s1 _ walk_r⟩
      · exact h1.elim
    · exact h1.elim⟩
theorem i_range2 {tg a b : Expr} {ms : Env → Sto → R (List T)} {p pos : Pos} (hg : Gl X "range") (hm : X.mg "range" = none) (ha : PA X [a, b] (tA X.K E ms)) (hs : starEach [a, b] X.env = [(false, eval a X.env), (false, eval b X.env)] := by rfl) (hs2 : starEach [b] X.env = [(false, eval b X.env)] := by rfl) : PI X tg (.Call (.Name "range" p) [a, b] [] pos) (tI X.K E (mItN fRange2 ms)) :=
  PI.of (pi_range2 hg hm ha hs hs2) fun σ H R ⟨ρ, τ, S, s, en, q⟩ => ⟨ρ, τ, S, s, en, q.step fun ρ1 H1 ts S1 e1 s1 h1 vs rs => by
    unfold fRange2 at h1
    split at h1
    · rename_i i j
      split at h1
      · rename_i hb
        rw [Bool.and_eq_true, Bool.and_eq_true, Bool.and_eq_true, decide_eq_true_eq, decide_eq_true_eq, decide_eq_true_eq, decide_eq_true_eq] at hb
        obtain ⟨y, z, rfl, ry, rz⟩ := rs.two
        exact ⟨i, j, by rw [rep_int ry, rep_int rz], ⟨hb.1.1, hb.1.2, hb.2.1, hb.2.2⟩, h1.ok s1 _ walk_r⟩
      · exact h1.elim
    · exact h1.elim⟩
/-! zip, reversed -/
def zipT : List T → List T → List T
  | x :: xs, y :: ys => .wt [x, y] :: zipT xs ys
  | _, _ => []
theorem zipT_length : ∀ xs ys : List T, (zipT xs ys).length = min xs.length ys.length
  | [], _ => by simp [zipT]
  | _ :: _, [] => by simp [zipT]
  | x :: xs, y :: ys => by simp only [zipT, List.length_cons, zipT_length xs ys]; omega
theorem zipT_at : ∀ {xs ys : List T} {i : Nat} {t : T}, (zipT xs ys)[i]? = some t → ∃ x y, xs[i]? = some x ∧ ys[i]? = some y ∧ t = .wt [x, y]
  | [], _, _, _, h => by simp [zipT] at h
  | _ :: _, [], _, _, h => by simp [zipT] at h
  | x :: xs, y :: ys, 0, t, h => by
    have h : some (T.wt [x, y]) = some t := h
    exact ⟨x, y, rfl, rfl, (Option.some.inj h).symm⟩
  | x :: xs, y :: ys, i + 1, t, h => zipT_at (xs := xs) (ys := ys) (i := i) (by simpa [zipT] using h)
def fZip (ts : List T) (S : Sto) : R Its := match ts with
  | [.tup xs, .tup ys] => .ok ⟨zipT xs ys, []⟩ S
  | [x, y] => match lstOf S x, lstOf S y with
    | some xs, some ys => .ok ⟨zipT xs ys, srcOf S x ++ srcOf S y⟩ S
    | _, _ => .bad
  | _ => .bad
theorem pair_new {K : PySem.W.Frag} {ρ : Wd} {H : Hp} {S : Sto} {a : Addr} {x y : V} {t u : T} (s : Sta K ρ H S) (n : H a = none) (rx : Rep K ρ H x t) (ry : Rep K ρ H y u) : Ext ρ H ρ (upd H a (.tup [x, y])) ∧ Sta K ρ (upd H a (.tup [x, y])) S ∧ Rep K ρ (upd H a (.tup [x, y])) (.ref a) (.wt [t, u]) :=
  have e := Ext.push n (s.new n)
  ⟨e, s.push n, .wt (.inl upd_same) (s.new n) (.cons (rx.ext e) (.cons (ry.ext e) .nil))⟩
theorem i_zip {es : List Expr} {kk : Nat} {tpos : Pos} {e e2 : Expr} {ms : Env → Sto → R (List T)} {p pos : Pos} (hg : Gl X "zip") (hm : X.mg "zip" = none) (ha : PA X [e, e2] (tA X.K E ms)) (hs : starEach [e, e2] X.env = (false, eval e X.env) :: starEach [e2] X.env := by rfl) (hpl : (backTo pos (starEach [e2] X.env)).any (·.1) = false := by rfl) :
    PI X (.Tuple es kk tpos) (.Call (.Name "zip" p) [e, e2] [] pos) (tI X.K E (mItN fZip ms)) :=
  PI.of (RZ.pi_zipA hg hm ha hs hpl) fun σ H R ⟨ρ, τ, S, s, en, q⟩ => ⟨ρ, τ, S, s, en, q.step fun ρ1 H1 ts S1 e1 s1 h1 vs rs => by
    unfold fZip at h1
    split at h1
    · rename_i xs ys
      obtain ⟨v, w, rfl, rv, rw'⟩ := rs.two
      obtain ⟨a, us, rfl, fa, ra⟩ := rep_tup rv
      obtain ⟨b, ws, rfl, fb, rb⟩ := rep_tup rw'
      refine ⟨a, b, us, ws, rfl, .inr ⟨fa.sq, fb.sq, h1.ok s1 _ fun ρ2 H2 S2 e2 s2 _ => ?_⟩⟩
      have r1 := ra.extw e2
      have r2 := rb.extw e2
      have q1 := (fa.extw e2).sq
      have q2 := (fb.extw e2).sq
      refine ⟨⟨us, ws, q1, q2, ?_⟩, fun i t ht => ?_⟩
      · have z := zipT_length xs ys
        rw [r1.length, r2.length]
        show xs.length ≤ (zipT xs ys).length ∨ ys.length ≤ (zipT xs ys).length
        omega
      · obtain ⟨x, y, hx, hy, rfl⟩ := zipT_at ht
        obtain ⟨x', hx', rx⟩ := r1.get hx
        obtain ⟨y', hy', ry⟩ := r2.get hy
        refine ⟨⟨us, ws, x', y', q1, q2, hx', hy'⟩, fun v H3 q => ?_⟩
        obtain ⟨p, x2, y2, rfl, n, rfl, z1, z2⟩ := q
        have z1 := z1 us q1
        have z2 := z2 ws q2
        rw [hx'] at z1
        rw [hy'] at z2
        cases z1
        cases z2
        exact pair_new s2 n rx ry
    · rename_i x y _
      split at h1
      · rename_i xs ys hx hy
        obtain ⟨v, w, rfl, rv, rw'⟩ := rs.two
        obtain ⟨a, rfl, us0, a0, _, ka⟩ := keep_l (src := srcOf S1 x ++ srcOf S1 y) s1 rv hx (fun k z => List.mem_append_left _ (srcOf_mem hx k z))
        obtain ⟨b, rfl, ws0, b0, _, kb⟩ := keep_l (src := srcOf S1 x ++ srcOf S1 y) s1 rw' hy (fun k z => List.mem_append_right _ (srcOf_mem hy k z))
        refine ⟨a, b, us0, ws0, rfl, .inl ⟨a0, b0, h1.ok s1 _ fun ρ2 H2 S2 e2 s2 c2 => ?_⟩⟩
        obtain ⟨us, q1, r1⟩ := ka ρ2 H2 S2 e2 s2 c2
        obtain ⟨ws, q2, r2⟩ := kb ρ2 H2 S2 e2 s2 c2
        refine ⟨⟨us, ws, q1, q2, ?_⟩, fun i t ht => ?_⟩
        · have z := zipT_length xs ys
          rw [r1.length, r2.length]
          show xs.length ≤ (zipT xs ys).length ∨ ys.length ≤ (zipT xs ys).length
          omega
        · obtain ⟨x, y, hx, hy, rfl⟩ := zipT_at ht
          obtain ⟨x', hx', rx⟩ := r1.get hx
          obtain ⟨y', hy', ry⟩ := r2.get hy
          refine ⟨⟨us, ws, x', y', q1, q2, hx', hy'⟩, fun v H3 q => ?_⟩
          obtain ⟨p, x2, y2, rfl, n, rfl, z1, z2⟩ := q
          have z1 := z1 us q1
          have z2 := z2 ws q2
          rw [hx'] at z1
          rw [hy'] at z2
          cases z1
          cases z2
          exact pair_new s2 n rx ry
      · exact h1.elim
    · exact h1.elim⟩
def fRev (t : T) (S : Sto) : R Its := match t with
  | .tup ts => .ok ⟨ts.reverse, []⟩ S
  | t => match lstOf S t with
    | some ts => match srcOf S t with
      | [] => .ok ⟨ts.reverse, []⟩ S
      | _ => .bad
    | none => .bad
def mRev (m : Env → Sto → R T) : Env → Sto → R Its := fun τ S => (m τ S).bind fRev
theorem rev_at {α : Type} {xs : List α} {i : Nat} {t : α} (h : xs.reverse[i]? = some t) : i < xs.length ∧ xs[xs.length - 1 - i]? = some t := by
  have hi : i < xs.length := by
    obtain ⟨q, _⟩ := List.getElem?_eq_some_iff.mp h
    simpa using q
  rw [List.getElem?_reverse hi] at h
  exact ⟨hi, h⟩
theorem i_rev {tg e : Expr} {m : Env → Sto → R T} {p pos : Pos} (hg : Gl X "reversed") (hm : X.mg "reversed" = none) (he : PE X e (tM X.K E m)) (hs : starEach [e] X.env = (false, eval e X.env) :: starEach [] X.env := by rfl) : PI X tg (.Call (.Name "reversed" p) [e] [] pos) (tI X.K E (mRev m)) :=
  PI.of (RT.pi_revA hg hm he hs) fun σ H R ⟨ρ, τ, S, s, en, q⟩ => ⟨ρ, τ, S, s, en, q.step fun ρ1 H1 t S1 e1 s1 h1 v rv => by
    unfold fRev at h1
    split at h1
    · rename_i ts
      obtain ⟨a, xs, rfl, fa, ra⟩ := rep_tup rv
      refine ⟨a, xs, rfl, .inr ⟨fa.sq, h1.ok s1 _ fun ρ2 H2 S2 e2 s2 c2 => ?_⟩⟩
      have r1 := ra.extw e2
      have q1 := (fa.extw e2).sq
      have l1 := r1.length
      refine ⟨by show xs.length ≤ ts.reverse.length; rw [List.length_reverse, l1]; exact Nat.le_refl _, fun i t ht => ?_⟩
      obtain ⟨hi, ht⟩ := rev_at ht
      obtain ⟨y, hy, ry⟩ := r1.get ht
      rw [← l1] at hy hi
      refine ⟨⟨hi, xs, y, q1, hy⟩, fun x H3 q => ?_⟩
      obtain ⟨rfl, q⟩ := q
      have z := q xs q1
      rw [hy] at z
      cases z
      exact ⟨Ext.refl _ _, s2, ry⟩
    · split at h1
      · rename_i ts ht
        split at h1
        · rename_i hsrc
          obtain ⟨a, rfl, xs0, a0, l0, ka⟩ := keep_l (src := []) s1 rv ht (fun k z => by rw [← hsrc]; exact srcOf_mem ht k z)
          refine ⟨a, xs0, rfl, .inl ⟨a0, h1.ok s1 _ fun ρ2 H2 S2 e2 s2 c2 => ?_⟩⟩
          obtain ⟨xs, q1, r1⟩ := ka ρ2 H2 S2 e2 s2 (chk_nil _ _)
          have l1 := r1.length
          refine ⟨by show xs0.length ≤ ts.reverse.length; rw [List.length_reverse, l0]; exact Nat.le_refl _, fun i t ht => ?_⟩
          obtain ⟨hi, ht⟩ := rev_at ht
          obtain ⟨y, hy, ry⟩ := r1.get ht
          rw [← l0] at hy hi
          refine ⟨⟨hi, xs, y, q1, hy⟩, fun x H3 q => ?_⟩
          obtain ⟨rfl, q⟩ := q
          have z := q xs q1
          rw [hy] at z
          cases z
          exact ⟨Ext.refl _ _, s2, ry⟩
        · exact h1.elim
      · exact h1.elim⟩
end
/-! ### while -/
def iterW (c : Env → Sto → R Bool) (b : Env → Sto → R Fl) : Nat → Env → Sto → R Fl
  | 0, _, _ => .bad
  | n + 1, τ, S => (c τ S).bind fun k S1 => if k = true then (b τ S1).bind (stepFl (iterW c b n)) else .ok (.nx τ) S1
open Classical in
noncomputable def sWhile (c : Env → Sto → R Bool) (b : Env → Sto → R Fl) : Env → Sto → R Fl := fun τ S => if h : ∃ n, iterW c b n τ S ≠ .bad then iterW c b h.choose τ S else .bad
theorem iterW_succ {c : Env → Sto → R Bool} {b : Env → Sto → R Fl} : ∀ {n : Nat} {τ : Env} {S : Sto}, iterW c b n τ S ≠ .bad → iterW c b (n + 1) τ S = iterW c b n τ S
  | 0, τ, S, h => absurd rfl h
  | n + 1, τ, S, h => by
    unfold iterW at h ⊢
    cases hc : c τ S with
    | bad => rfl
    | err x S1 => rfl
    | ok k S1 =>
      rw [hc] at h
      cases k with
      | false => rfl
      | true =>
        show (b τ S1).bind (stepFl (iterW c b (n + 1))) = (b τ S1).bind (stepFl (iterW c b n))
        have h : (b τ S1).bind (stepFl (iterW c b n)) ≠ .bad := h
        cases hb : b τ S1 with
        | bad => rfl
        | err x S2 => rfl
        | ok f S2 =>
          rw [hb] at h
          cases f with
          | nx τ2 => exact iterW_succ (n := n) (τ := τ2) (S := S2) h
          | ct τ2 => exact iterW_succ (n := n) (τ := τ2) (S := S2) h
          | bk τ2 => rfl
          | rt t => rfl
theorem iterW_add {c : Env → Sto → R Bool} {b : Env → Sto → R Fl} {n : Nat} {τ : Env} {S : Sto} (h : iterW c b n τ S ≠ .bad) : ∀ k, iterW c b (n + k) τ S = iterW c b n τ S
  | 0 => rfl
  | k + 1 => by
    have ih := iterW_add h k
    rw [← Nat.add_assoc, iterW_succ (by rw [ih]; exact h), ih]
theorem sWhile_of {c : Env → Sto → R Bool} {b : Env → Sto → R Fl} {n : Nat} {τ : Env} {S : Sto} {r : R Fl} (h : iterW c b n τ S = r) (hr : r ≠ .bad) : sWhile c b τ S = r := by
  have hn : iterW c b n τ S ≠ .bad := by rw [h]; exact hr
  have he : ∃ n, iterW c b n τ S ≠ .bad := ⟨n, hn⟩
  unfold sWhile
  rw [dif_pos he]
  have hk := he.choose_spec
  have e1 := iterW_add hn he.choose
  have e2 := iterW_add hk n
  rw [Nat.add_comm] at e2
  rw [← e2, e1, h]
section
variable {X : Cx} {E : XK}
theorem s_while {c : Expr} {body : List Stmt} {pos : Pos} {mc : Env → Sto → R Bool} {mb : Env → Sto → R Fl} (hp : PassesOwn (model X.prog X.w) X.A X.env X.xe) (hc : PT X c (tB X.K E mc)) (hb : PSs X body (tS X.K E mb)) : PS X (.While c body [] pos) (tS X.K E (sWhile mc mb)) :=
  PS.of (ps_while hp hc hb) fun D σ H ⟨ρ, τ, S, s, e, h⟩ => by
    unfold sWhile at h
    split at h
    case isFalse => exact h.elim
    rename_i he
    generalize he.choose = n at h
    refine ⟨fun m σ' H' => ∃ ρ' τ' S', Ext ρ H ρ' H' ∧ Sta X.K ρ' H' S' ∧ REnv X.K ρ' H' σ' τ' ∧ Post X.K E ρ H (iterW mc mb m τ' S') (QS X.K D), ⟨n, ρ, τ, S, Ext.refl _ _, s, e, h⟩, fun m σ' H' hW => ?_⟩
    obtain ⟨ρ', τ', S', x1, s', e', q⟩ := hW
    cases m with
    | zero => exact q.elim
    | succ m =>
      unfold iterW at q
      refine ⟨ρ', τ', S', s', e', q.at x1 fun ρ2 H2 k S2 x2 s2 q2 => ?_⟩
      have xx := x1.trans x2
      cases k with
      | false => exact q2 ρ2 H2 xx s2 σ' (e'.ext x2)
      | true =>
        refine ⟨fun σ3 H3 => ∃ ρ3 τ3 S3, Ext ρ H ρ3 H3 ∧ Sta X.K ρ3 H3 S3 ∧ REnv X.K ρ3 H3 σ3 τ3 ∧ Post X.K E ρ H (iterW mc mb m τ3 S3) (QS X.K D), fun σ3 H3 hN => ⟨m, Nat.lt_succ_self _, hN⟩, ρ2, τ', S2, s2, e'.ext x2, ?_⟩
        have q3 : Post X.K E ρ H ((mb τ' S2).bind (stepFl (iterW mc mb m))) (QS X.K D) := q2
        refine q3.at xx fun ρ4 H4 f S4 x4 s4 q4 => ?_
        have xy := xx.trans x4
        cases f with
        | nx τ5 => exact fun σ5 e5 => ⟨ρ4, τ5, S4, xy, s4, e5, q4⟩
        | ct τ5 => exact fun σ5 e5 => ⟨ρ4, τ5, S4, xy, s4, e5, q4⟩
        | bk τ5 => exact fun σ5 e5 => q4 ρ4 H4 xy s4 σ5 e5
        | rt t5 => exact fun v5 r5 => q4 ρ4 H4 xy s4 v5 r5
end
end Fx
namespace Fx
open PySem PySem.Spec PyProof.Rows L2

/-! ### things that name no later thing of the store -/
mutual
def cl (n : Nat) : T → Bool
  | .tup ts => cls n ts
  | .lst ts => cls n ts
  | .kst ts => cls n ts
  | .ref i => decide (i < n)
  | .wt _ => false
  | .exn _ _ _ ts => cls n ts
  | _ => true
def cls (n : Nat) : List T → Bool
  | [] => true
  | t :: ts => cl n t && cls n ts
end
def clO (n : Nat) : O → Bool
  | .lst ts => cls n ts
  | .ins _ fs => fs.all fun f => cl n f.2
section
variable {K : PySem.W.Frag} {ρ ρ' : Wd} {H : Hp} {n : Nat}
mutual
theorem Rep.toC (hr : ∀ (i : Nat) (a : Addr), i < n → ρ.at_[i]? = some a → ρ'.at_[i]? = some a) (ha : ∀ a, a ∉ ρ.av → a ∉ ρ'.av) : ∀ {v : V} {t : T}, cl n t = true → Rep K ρ H v t → Rep K ρ' H v t
  | _, _, _, .non => .non
  | _, _, _, .bl b => .bl b
  | _, _, _, .int i => .int i
  | _, _, _, .str x => .str x
  | _, _, _, .obj a => .obj a
  | _, _, _, .ty m => .ty m
  | _, .ref i, c, .ref h => .ref (hr _ _ (of_decide_eq_true (show decide (i < n) = true by unfold cl at c; exact c)) h)
  | _, .tup ts, c, .tup h r => .tup (h.imp (fun q => ⟨q.1, ha _ q.2⟩) id) (Reps.toC hr ha (show cls n ts = true by unfold cl at c; exact c) r)
  | _, .lst ts, c, .lst h m r => .lst h (ha _ m) (Reps.toC hr ha (show cls n ts = true by unfold cl at c; exact c) r)
  | _, .wt ts, c, .wt h m r => absurd (show false = true by unfold cl at c; exact c) Bool.false_ne_true
  | _, .exn _ _ _ ts, c, .exn g h m x r => .exn g h (ha _ m) (x.mono fun b o z q => ⟨z, ha _ q⟩) (Reps.toC hr ha (show cls n ts = true by unfold cl at c; exact c) r)
  | _, .kst ts, c, .kst h r => .kst (h.imp (fun q => ⟨q.1, ha _ q.2⟩) id) (Reps.toC hr ha (show cls n ts = true by unfold cl at c; exact c) r)
theorem Reps.toC (hr : ∀ (i : Nat) (a : Addr), i < n → ρ.at_[i]? = some a → ρ'.at_[i]? = some a) (ha : ∀ a, a ∉ ρ.av → a ∉ ρ'.av) : ∀ {v : List V} {t : List T}, cls n t = true → Reps K ρ H v t → Reps K ρ' H v t
  | _, _, _, .nil => .nil
  | _, t :: ts, c, .cons h r => by
    have c : (cl n t && cls n ts) = true := by unfold cls at c; exact c
    rw [Bool.and_eq_true] at c
    exact .cons (Rep.toC hr ha c.1 h) (Reps.toC hr ha c.2 r)
end
theorem RepF.toC (hr : ∀ (i : Nat) (a : Addr), i < n → ρ.at_[i]? = some a → ρ'.at_[i]? = some a) (ha : ∀ a, a ∉ ρ.av → a ∉ ρ'.av) : ∀ {v : List (Str × V)} {t : List (Str × T)}, (t.all fun f => cl n f.2) = true → RepF K ρ H v t → RepF K ρ' H v t
  | _, _, _, .nil => .nil
  | _, _, c, .cons h r => by
    rw [List.all_cons, Bool.and_eq_true] at c
    exact .cons (h.toC hr ha c.1) (RepF.toC hr ha c.2 r)
theorem RepO.toC (hr : ∀ (i : Nat) (a : Addr), i < n → ρ.at_[i]? = some a → ρ'.at_[i]? = some a) (ha : ∀ a, a ∉ ρ.av → a ∉ ρ'.av) {a : Addr} : ∀ {o : O}, clO n o = true → RepO K ρ H a o → RepO K ρ' H a o
  | .lst _, c, ⟨_, h, r⟩ => ⟨_, h, r.toC hr ha c⟩
  | .ins _ _, c, ⟨_, _, h, r⟩ => ⟨_, _, h, r.toC hr ha c⟩
end

/-! ### defs -/
def runF (N : Nat) (b : Env → Sto → R Fl) (ts : List T) (S : Sto) : R T := (noErr (b (ts.map some ++ List.replicate (N - ts.length) none) S)).bind fun f S1 => match f with
  | .nx _ => .ok .non S1
  | .rt t => .ok t S1
  | _ => .bad
/-- what a def promises: what its mirror gives -/
def spM (K : PySem.W.Frag) (n : Nat) (F : List T → Sto → R T) : Sp := fun vs H Q E => ∃ ρ S ts, ts.length = n ∧ Sta K ρ H S ∧ Reps K ρ H vs ts ∧ Post K E ρ H (F ts S) (QE K Q)
theorem reps_env {K : PySem.W.Frag} {ρ : Wd} {H : Hp} {N : List Str} {vs : List V} {ts : List T} (r : Reps K ρ H vs ts) : REnv K ρ H (L2.start N vs) (ts.map some ++ List.replicate (N.length - ts.length) none) := by
  have l := r.length
  unfold L2.start
  rw [l]
  refine ⟨by simp [l], fun i t h => ?_⟩
  by_cases hi : i < ts.length
  · rw [List.getElem?_append_left (by simpa using hi), List.getElem?_map] at h
    obtain ⟨u, hu, e⟩ := Option.map_eq_some_iff.mp h
    cases e
    obtain ⟨y, hy, ry⟩ := r.get hu
    refine ⟨y, ?_, ry⟩
    rw [List.getElem?_append_left (by simpa [l] using hi), List.getElem?_map, hy]
    rfl
  · rw [List.getElem?_append_right (by simpa using hi)] at h
    rw [List.getElem?_replicate] at h
    split at h <;> cases h
section
variable {P : Program} {w : World} {K : PySem.W.Frag} {mg : Str → Option Value} {base : Heap}
theorem fn_ok {x qual : Str} {st : Stmt} {f : Addr} {fd : FuncData} {N ps : List Str} {k : Nat} {b : Env → Sto → R Fl} (F : L2.Fun K x qual st f fd) (S : FnScope N ps (defScope st))
    (hb : ∀ (cdv : Value) (A : Around) (outer : List PySem.Env) (s : Shared) (H : Hp) (E : XK), Room k (A.deeper (envOfC qual (defScope st) s.heap.objs.size f cdv)) → PSs (cxOf CX0 P w K mg base N qual (defScope st) f cdv A outer s H E).nox (defBody st) (tS K E0 b)) :
    FnOk P w K mg base CX0 (k + 1) f fd ps (spM K ps.length (runF N.length b)) :=
  F.ok S (fun vs H Q E ⟨ρ, S, ts, l, s, r, h⟩ => by rw [r.length, l]) fun cdv A outer s H vs Q E hr ⟨ρ, S, ts, l, st, r, h⟩ => ⟨_, hb cdv A outer s H E hr, ρ, _, S, st, reps_env r, by
    unfold runF at h
    refine h.at0 (Ext.refl _ _) fun ρ2 H2 f S2 x2 s2 q => ?_
    cases f with
    | nx τ => exact fun σ e => q ρ2 H2 x2 s2 _ .non
    | rt t => exact fun v rv => q ρ2 H2 x2 s2 v rv
    | bk τ => exact q.elim
    | ct τ => exact q.elim⟩
end
section
variable {X : Cx} {E : XK} {k n : Nat} {f : Addr} {fd : FuncData} {ps : List Str} {F : List T → Sto → R T} {x : Str} {p pos : Pos} {e : Expr} {es : List Expr} {ms : Env → Sto → R (List T)}
theorem passA {X : Cx} {E : XK} : Passes CX0 X E := fun _ _ _ _ _ _ _ h => h.elim
theorem x_call (G : FnOk X.prog X.w X.K X.mg X.base CX0 k f fd ps (spM X.K n F)) (hr : Room k X.A) (hg : Gl X x) (hm : X.mg x = some (.ref f)) (hk : PySem.W.keepIn X.K (.ref f) = true) (hb : Binds X.K fd ps [])
    (ha : PA X (e :: es) (tA X.K E ms)) (hn : (e :: es).length = n := by rfl) (hdb : (x == ("__debug__" : Str)) = false := by decide) (he : starEach (e :: es) X.env = (false, eval e X.env) :: starEach es X.env := by rfl) (hpl : (backTo pos (starEach es X.env)).any (·.1) = false := by rfl) :
    PE X (.Call (.Name x p) (e :: es) [] pos) (tM X.K E (mFn (fun ts S => if ts.length = n then F ts S else .bad) ms)) :=
  PE.of (pe_call G hr hg hm hk hb .nil (passA (E := E)) ha hdb he hpl) fun σ H Q ⟨ρ, τ, S, s, e, h⟩ => ⟨ρ, τ, S, s, e, h.step fun ρ1 H1 ts S1 e1 s1 h1 vs rs => by
    split at h1
    · rename_i hl
      exact ⟨ρ1, S1, ts, hl, s1, by rw [List.append_nil]; exact rs, h1⟩
    · exact h1.elim⟩
theorem x_call0 (G : FnOk X.prog X.w X.K X.mg X.base CX0 k f fd ps (spM X.K 0 F)) (hr : Room k X.A) (hg : Gl X x) (hm : X.mg x = some (.ref f)) (hk : PySem.W.keepIn X.K (.ref f) = true) (hb : Binds X.K fd ps []) (hdb : (x == ("__debug__" : Str)) = false := by decide) :
    PE X (.Call (.Name x p) [] [] pos) (tM X.K E (mFn F mNil)) :=
  PE.of (pe_call0 G hr hg hm hk hb .nil (passA (E := E)) hdb) fun σ H Q ⟨ρ, τ, S, s, e, h⟩ => ⟨ρ, S, [], rfl, s, .nil, h⟩
end

/-! ### a def that looks at the first things of the store alone -/
def thaw (n : Nat) (fz : Bool) (t : T) (S : Sto) : T := if fz = true then match t with
    | .ref i => match S[i]? with
      | some (.lst us) => if n ≤ i then .lst us else .ref i
      | _ => .ref i
    | t => t else t
noncomputable def frame (n : Nat) (fz : Bool) (F : List T → Sto → R T) (ts : List T) (S : Sto) : R T :=
  ifP (n ≤ S.length ∧ cls n ts = true ∧ (S.take n).all (clO n) = true) (match F ts (S.take n) with
    | .ok t S1 => ifP (n ≤ S1.length ∧ (S1.take n).all (clO n) = true ∧ cl n (thaw n fz t S1) = true) (.ok (thaw n fz t S1) (S1.take n ++ S.drop n)) .bad
    | _ => .bad) .bad
def Wd.part (ρ : Wd) (n : Nat) : Wd := ⟨ρ.at_.take n, ρ.at_.drop n ++ ρ.out⟩
theorem part_av (ρ : Wd) (n : Nat) : (ρ.part n).av = ρ.av := by
  unfold Wd.part Wd.av
  show ρ.at_.take n ++ (ρ.at_.drop n ++ ρ.out) = ρ.at_ ++ ρ.out
  rw [← List.append_assoc, List.take_append_drop]
section
variable {K : PySem.W.Frag} {ρ ρ' : Wd} {H H' : Hp} {S S1 : Sto} {n : Nat}
theorem take_at {α : Type} {xs : List α} {i : Nat} {a : α} (h : (xs.take n)[i]? = some a) : i < n ∧ xs[i]? = some a := by
  rw [List.getElem?_take] at h
  split at h
  · rename_i hi; exact ⟨hi, h⟩
  · cases h
theorem Sta.part (s : Sta K ρ H S) (hn : n ≤ S.length) (hc : (S.take n).all (clO n) = true) : Sta K (ρ.part n) H (S.take n) where
  len := by
    show (ρ.at_.take n).length = (S.take n).length
    rw [List.length_take, List.length_take, s.len]
  nd := by rw [part_av]; exact s.nd
  al := fun a m => by
    rcases List.mem_append.mp m with m | m
    · have m := List.mem_of_mem_drop m
      obtain ⟨i, hi, e⟩ := List.getElem_of_mem m
      have hj : i < S.length := by rw [← s.len]; exact hi
      have r := s.at_ i a S[i] (by rw [List.getElem?_eq_getElem hi, e]) (List.getElem?_eq_getElem hj)
      revert r
      cases S[i] with
      | lst ts => exact fun ⟨xs, h, _⟩ => ⟨xs, .inl h⟩
      | ins C fs => exact fun ⟨dx, vs, h, _⟩ => ⟨[], .inr ⟨C, dx, vs, h⟩⟩
    · exact s.al a m
  at_ := fun i a o h1 h2 => by
    obtain ⟨hi, h1⟩ := take_at h1
    obtain ⟨_, h3⟩ := take_at h2
    have c := List.all_eq_true.mp hc o (List.mem_of_getElem? h2)
    refine (s.at_ i a o h1 h3).toC (fun j b hj q => ?_) (fun b q => by rw [part_av]; exact q) c
    show (ρ.at_.take n)[j]? = some b
    rw [List.getElem?_take, if_pos hj]
    exact q
theorem nd_at {α : Type} {l : List α} (h : l.Nodup) {i j : Nat} {a : α} (e1 : l[i]? = some a) (e2 : l[j]? = some a) : i = j := by
  obtain ⟨i1, q1⟩ := List.getElem?_eq_some_iff.mp e1
  obtain ⟨j1, q2⟩ := List.getElem?_eq_some_iff.mp e2
  exact (List.getElem_inj h).mp (q1.trans q2.symm)
theorem part_back (s : Sta K ρ H S) (hn : n ≤ S.length) (e : Ext (ρ.part n) H ρ' H') (s' : Sta K ρ' H' S1) (hn1 : n ≤ S1.length) (hc : (S1.take n).all (clO n) = true) :
    (∀ (i : Nat) (a : Addr), i < n → ρ'.at_[i]? = some a → ρ.at_[i]? = some a) ∧ (∀ a, a ∉ ρ'.av → a ∉ ρ.av) ∧ Ext ρ H ρ H' ∧ Sta K ρ H' (S1.take n ++ S.drop n) := by
  have hl : (ρ.part n).at_.length = n := by
    show (ρ.at_.take n).length = n
    rw [List.length_take, s.len]
    exact Nat.min_eq_left hn
  have A : ∀ (i : Nat) (a : Addr), i < n → ρ'.at_[i]? = some a → ρ.at_[i]? = some a := fun i a hi q => by
    obtain ⟨m, z⟩ := e.pre
    rw [z, List.getElem?_append_left (by rw [hl]; exact hi)] at q
    exact (take_at q).2
  have A' : ∀ (i : Nat) (a : Addr), i < n → ρ.at_[i]? = some a → ρ'.at_[i]? = some a := fun i a hi q => e.get (by
    show (ρ.at_.take n)[i]? = some a
    rw [List.getElem?_take, if_pos hi]
    exact q)
  have B : ∀ a, a ∉ ρ'.av → a ∉ ρ.av := fun a h q => h (by
    rw [← part_av ρ n] at q
    rcases List.mem_append.mp q with q | q
    · obtain ⟨m, z⟩ := e.pre
      exact List.mem_append_left _ (by rw [z]; exact List.mem_append_left _ q)
    · exact List.mem_append_right _ (e.out a q))
  have C : Ext ρ H ρ H' := Ext.here fun a o h m => e.keep a o h fun q => m (List.mem_of_mem_take q)
  refine ⟨A, B, C, ?_, s.nd, fun a m => s'.al a (e.out a (List.mem_append_right _ m)), fun i a o h1 h2 => ?_⟩
  · rw [List.length_append, List.length_take, List.length_drop, Nat.min_eq_left hn1, s.len]
    omega
  · by_cases hi : i < n
    · have h2 : (S1.take n)[i]? = some o := by
        rw [List.getElem?_append_left (by rw [List.length_take, Nat.min_eq_left hn1]; exact hi)] at h2
        exact h2
      have c := List.all_eq_true.mp hc o (List.mem_of_getElem? h2)
      exact (s'.at_ i a o (A' i a hi h1) (take_at h2).2).toC A B c
    · have h2 : S[i]? = some o := by
        rw [List.getElem?_append_right (by rw [List.length_take, Nat.min_eq_left hn1]; omega), List.length_take, Nat.min_eq_left hn1, List.getElem?_drop] at h2
        rw [show n + (i - n) = i by omega] at h2
        exact h2
      have r := s.at_ i a o h1 h2
      obtain ⟨u, hu⟩ := r.is
      have k : H' a = H a := by
        rw [hu]
        refine e.keep a u hu fun q => ?_
        obtain ⟨j, hj⟩ := List.mem_iff_getElem?.mp q
        obtain ⟨hjn, hj⟩ := take_at hj
        have := nd_at (List.nodup_append.mp s.nd).1 hj h1
        omega
      exact r.ext C k
theorem thaw_rep {fz : Bool} {v : V} {t : T} (s : Sta K ρ H S) (e : Ext (ρ.part n) H ρ' H') (hn : n ≤ S.length) (s' : Sta K ρ' H' S1) (B : ∀ a, a ∉ ρ'.av → a ∉ ρ.av) (A : ∀ (i : Nat) (a : Addr), i < n → ρ'.at_[i]? = some a → ρ.at_[i]? = some a) (c : cl n (thaw n fz t S1) = true) (r : Rep K ρ' H' v t) : Rep K ρ H' v (thaw n fz t S1) := by
  unfold thaw at c ⊢
  cases fz with
  | false => exact r.toC A B c
  | true =>
    rw [if_pos rfl] at c ⊢
    split at c
    · rename_i i
      split at c
      · rename_i us hu
        show Rep K ρ H' v (if n ≤ i then .lst us else .ref i)
        by_cases hi : n ≤ i
        · rw [if_pos hi] at c ⊢
          obtain ⟨a, xs, rfl, ha, hx, rx⟩ := lstD_ref s' r hu
          have c : cls n us = true := by unfold cl at c; exact c
          refine .lst hx (fun q => ?_) (rx.toC A B c)
          have hm : a ∈ ρ'.at_ := List.mem_of_getElem? ha
          have q := e.old a hm (by rw [part_av]; exact q)
          obtain ⟨j, hj⟩ := List.mem_iff_getElem?.mp q
          obtain ⟨hjn, _⟩ := take_at (show (ρ.at_.take n)[j]? = some a from hj)
          have := nd_at (List.nodup_append.mp s'.nd).1 (e.get hj) ha
          omega
        · rw [if_neg hi] at c ⊢
          exact r.toC A B c
      · rename_i hno
        exact r.toC A B c
    · exact r.toC A B c
theorem frame_sp {m : Nat} {fz : Bool} {F : List T → Sto → R T} {vs : List V} {Q : VK} {E : XK} (h : spM K m (frame n fz F) vs H Q E) : spM K m F vs H Q E := by
  obtain ⟨ρ, S, ts, l, s, r, h⟩ := h
  unfold frame at h
  obtain ⟨⟨h1, h2, h3⟩, h⟩ := h.ifP
  refine ⟨ρ.part n, S.take n, ts, l, s.part h1 h3, r.toC (fun i a hi q => ?_) (fun b q => by rw [part_av]; exact q) h2, ?_⟩
  · show (ρ.at_.take n)[i]? = some a
    rw [List.getElem?_take, if_pos hi]
    exact q
  · cases hF : F ts (S.take n) with
    | bad => rw [hF] at h; exact h.elim
    | err x S1 => rw [hF] at h; exact h.elim
    | ok t S1 =>
      rw [hF] at h
      obtain ⟨⟨q1, q2, q3⟩, h⟩ := Post.ifP h
      intro ρ' H' e s' v rv
      obtain ⟨A, B, C, s2⟩ := part_back s h1 e s' q1 q2
      exact h ρ H' C s2 v (thaw_rep s e h1 s' B A q3 rv)
end
theorem FnOk.framed {P : Program} {w : World} {K : PySem.W.Frag} {mg : Str → Option Value} {base : Heap} {k : Nat} {f : Addr} {fd : FuncData} {ps : List Str} {m : Nat} {F : List T → Sto → R T} (G : FnOk P w K mg base CX0 k f fd ps (spM K m F)) (n : Nat) (fz : Bool) : FnOk P w K mg base CX0 k f fd ps (spM K m (frame n fz F)) :=
  G.imp fun _ _ _ _ h => frame_sp h
/-- another way to say what it gives -/
theorem FnOk.same {P : Program} {w : World} {K : PySem.W.Frag} {mg : Str → Option Value} {base : Heap} {k : Nat} {f : Addr} {fd : FuncData} {ps : List Str} {m : Nat} {F F' : List T → Sto → R T} (G : FnOk P w K mg base CX0 k f fd ps (spM K m F)) (h : ∀ ts S, F' ts S = .bad ∨ F ts S = F' ts S) : FnOk P w K mg base CX0 k f fd ps (spM K m F') :=
  G.imp fun _ _ _ _ ⟨ρ, S, ts, l, s, r, q⟩ => ⟨ρ, S, ts, l, s, r, by
    rcases h ts S with z | z
    · rw [z] at q; exact q.elim
    · rw [z]; exact q⟩
end Fx
/-! enumerate over a tuple -/
namespace FxE
open PySem PySem.Spec PyProof.Rows L2
open PySem.Sem (wp)
open AutoSeq1 (wpAny_loadPart')
section
variable {prog : Program} {w : World} {A : Around} {E : Value → Shared → Prop} {s : Shared}
set_option maxHeartbeats 1000000 in
theorem new_meets (t : Addr) (o : Obj) (xs : Array Value) (ho : o.cls = .type "tuple") (hd : ∃ n, o.data = .seq xs n) :
    Meets (Builtin.«enumerate.__new__» ⟨[.type "enumerate", .ref t], []⟩) (fun _ R z => z.heap.get? t = some o ∧
      R (.ok (.ret (.ref (z.heap.push { cls := .type "tuple_iterator", data := .fields #[.ref t, .int 0 0] }).objs.size)))
        { z with heap := (z.heap.push { cls := .type "tuple_iterator", data := .fields #[.ref t, .int 0 0] }).push { cls := .type "enumerate", data := .fields #[.none, .bool false, .ref z.heap.objs.size, rawInt 0, .none, .none] } }) :=
  .of_wp fun prog w A R z q => by
    obtain ⟨h0, g0, d0, t0, os0⟩ := z; obtain ⟨ht, q⟩ := q
    have sub0 := sub_enumerate
    have isT : Heap.IsTuple (Shared.heap ⟨h0, g0, d0, t0, os0⟩) t xs := ⟨o, ht, ho, hd⟩
    wp_walk using wpAny_pyIter_tuple isT
    refine wpAny_stack_any fun st0 => wpAny_pure ?_
    split
    · rename_i c0 _ _ _ _ _
      cases (c0 == Value.type "enumerate") <;> (wp_walk using wpAny_pyIter_tuple isT; exact ⟨_, rfl, q⟩)
    · wp_walk using wpAny_pyIter_tuple isT; exact ⟨_, rfl, q⟩
theorem call_enum_tup {t : Addr} {xs : Array Value} {Q : Value → Shared → Prop} (hT : s.heap.IsTuple t xs)
    (k : ∀ h', IsEnum h' (s.heap.objs.size + 1) s.heap.objs.size 0 .none → h'.IsTupleIter s.heap.objs.size t 0 → (∀ b o, s.heap.get? b = some o → h'.get? b = some o) → Q (.ref (s.heap.objs.size + 1)) { s with heap := h' }) :
    wpAny (model prog w) A (call (.type "enumerate") [.ref t]) Q E s := by
  obtain ⟨o, ho, hc, hd⟩ := hT
  refine callType_new F.called_enumerate (by decide) (F.typeCall_enumerate_1 _) (F.newCall_enumerate_1 _) (fun obj => F.args_object_init_2 obj _) F.entry_enumerate_new (new_meets t o xs hc hd) ⟨ho, ?_⟩
  have z1 : (s.heap.push { cls := .type "tuple_iterator", data := .fields #[.ref t, .int 0 0] }).objs.size = s.heap.objs.size + 1 := Heap.size_push ..
  have z2 := Heap.get?_push_size (s.heap.push { cls := .type "tuple_iterator", data := .fields #[.ref t, .int 0 0] }) (o := { cls := .type "enumerate", data := .fields #[.none, .bool false, .ref s.heap.objs.size, rawInt 0, .none, .none] }) rfl
  show _ ∧ _
  rw [z1] at z2 ⊢
  exact ⟨⟨_, z2, rfl⟩, k _ z2 ⟨_, Heap.get?_push_of_some _ (Heap.get?_push_size _ rfl), rfl, rfl⟩ fun b u x => Heap.get?_push_of_some _ (Heap.get?_push_of_some _ x)⟩
theorem next_tup {e it l : Addr} {i : Nat} {xs : Array Value} {x old : Value} {Q : Value → Shared → Prop}
    (he : IsEnum s.heap e it i old) (hit : s.heap.IsTupleIter it l i) (hl : s.heap.IsTuple l xs) (hx : xs[i]? = some x) (hne : e ≠ it)
    (k : ∀ h', IsEnumOut h' e it ((i : Int) + 1) x s.heap.objs.size → h'.IsTupleIter it l (i + 1) → h'.get? s.heap.objs.size = some { cls := .type "tuple", data := .seq #[.int i s.toks, x] } → h'.objs.size = s.heap.objs.size + 1 →
      (∀ b o, b ≠ e → b ≠ it → s.heap.get? b = some o → h'.get? b = some o) → Q (.ref s.heap.objs.size) { s with heap := h', toks := s.toks + 1 }) :
    wpAny (model prog w) A (Builtin.«enumerate.__next__» ⟨[.ref e], []⟩) (fun fin s' => ∃ v, fin = .done (.ret v) ∧ Q v s') E s := by
  obtain ⟨h0, g0, d0, t0, os0⟩ := s
  show wpAny _ _ (field (.ref e) 2 >>= _) _ _ _; refine wpAny_bind (wpAny_field he rfl (x := .ref it) rfl ?_)
  refine wpAny_bind (RZ.nextOf_tuple_item hit hl hx fun h1 i1 b1 => ?_); replace b1 : Heap.SameBut it h0 h1 := b1
  have e1 : IsEnum h1 e it i old := (b1.2 e hne).trans he
  show wpAny _ _ (field (.ref e) 3 >>= _) _ _ ⟨h1, g0, d0, t0, os0⟩; refine wpAny_bind (wpAny_field e1 rfl (x := rawInt i) rfl ?_)
  show wpAny _ _ (field (.ref e) 4 >>= _) _ _ ⟨h1, g0, d0, t0, os0⟩; refine wpAny_bind (wpAny_field e1 rfl (x := .none) rfl ?_)
  show wpAny _ _ (mkInt i >>= _) _ _ ⟨h1, g0, d0, t0, os0⟩; refine wpAny_bind (wpAny_mkInt ?_)
  show wpAny _ _ (setField (.ref e) 3 (rawInt ((i : Int) + 1)) >>= _) _ _ ⟨h1, g0, d0, t0 + 1, os0⟩
  refine wpAny_bind (wpAny_setField_rec e1 (by simp) fun h2 e2 b2 => ?_); replace b2 : Heap.SameBut e h1 h2 := b2; replace e2 : IsEnum h2 e it ((i : Int) + 1) old := e2
  show wpAny _ _ (setField (.ref e) 4 .none >>= _) _ _ ⟨h2, g0, d0, t0 + 1, os0⟩
  refine wpAny_bind (wpAny_setField_rec e2 (by simp) fun h3 e3 b3 => ?_); replace b3 : Heap.SameBut e h2 h3 := b3; replace e3 : IsEnum h3 e it ((i : Int) + 1) old := e3
  show wpAny _ _ (newTuple [.int i t0, x] >>= _) _ _ ⟨h3, g0, d0, t0 + 1, os0⟩; refine wpAny_bind (wpAny_newTuple ?_)
  have e4 : IsEnum (h3.push { cls := .type "tuple", data := .seq #[.int i t0, x] }) e it ((i : Int) + 1) old := Heap.get?_push_of_some _ e3
  generalize hh4 : h3.push { cls := .type "tuple", data := .seq #[.int i t0, x] } = h4 at e4
  have sz : h3.objs.size = h0.objs.size := by rw [b3.1, b2.1, b1.1]
  have lt : e < h0.objs.size := Heap.lt_size he
  have t4 : h4.get? h0.objs.size = some { cls := .type "tuple", data := .seq #[.int i t0, x] } := by rw [← hh4, ← sz]; exact Heap.get?_push_size _ rfl
  have s4 : h4.objs.size = h0.objs.size + 1 := by rw [← hh4, Heap.size_push, sz]
  have k4 : ∀ b o, b ≠ e → b ≠ it → h0.get? b = some o → h4.get? b = some o := fun b o q1 q2 q3 => by
    rw [← hh4]; exact Heap.get?_push_of_some _ (b3.extBut b o q1 (b2.extBut b o q1 (b1.extBut b o q2 q3)))
  have i4 : h4.IsTupleIter it l (i + 1) := by
    rw [← hh4]; obtain ⟨o, ho, r⟩ := (i1.extBut b2.extBut (Ne.symm hne)).extBut b3.extBut (Ne.symm hne); exact ⟨o, Heap.get?_push_of_some _ ho, r⟩
  show wpAny _ _ (Builtin.SmallTypes.ownedTupleIsFree (.ref e) >>= _) _ _ ⟨h4, g0, d0, t0 + 1, os0⟩; rw [sz]
  clear hh4 e3 b3 e2 b2 e1 b1 i1 sz h3 h2 h1
  refine wpAny_bind ?_; unfold Builtin.SmallTypes.ownedTupleIsFree
  refine wpAny_bind (wpAny_field e4 rfl (x := .none) rfl (wpAny_pure ?_)); simp only [if_true]
  refine wpAny_bind (wpAny_rule ?_); refine wpAny_bind (wpAny_field e4 rfl (x := old) rfl ?_)
  refine wpAny_bind (wpAny_setField_rec e4 (by simp) fun h5 e5 b5 => ?_); replace b5 : Heap.SameBut e h4 h5 := b5; replace e5 : IsEnum h5 e it ((i : Int) + 1) x := e5
  show wpAny _ _ (Builtin.SmallTypes.ownedTupleHandOut (.ref e) (.ref h0.objs.size) >>= _) _ _ ⟨h5, g0, d0, t0 + 1, os0⟩
  refine wpAny_bind ?_; unfold Builtin.SmallTypes.ownedTupleHandOut
  refine wpAny_bind (wpAny_setField_rec e5 (by simp) fun h6 e6 b6 => ?_); replace b6 : Heap.SameBut e h5 h6 := b6; replace e6 : IsEnumOut h6 e it ((i : Int) + 1) x h0.objs.size := e6
  refine wpAny_setField_rec e6 (by simp) fun h7 e7 b7 => ?_; replace b7 : Heap.SameBut e h6 h7 := b7; replace e7 : IsEnumOut h7 e it ((i : Int) + 1) x h0.objs.size := e7
  refine wpAny_bind (wpAny_letGo (wpAny_pure ⟨_, rfl, k h7 e7 (((i4.extBut b5.extBut (Ne.symm hne)).extBut b6.extBut (Ne.symm hne)).extBut b7.extBut (Ne.symm hne)) ?_ (by rw [b7.1, b6.1, b5.1, s4]) fun b o q1 q2 q3 => b7.extBut b o q1 (b6.extBut b o q1 (b5.extBut b o q1 (k4 b o q1 q2 q3)))⟩))
  exact b7.extBut _ _ (Nat.ne_of_gt lt) (b6.extBut _ _ (Nat.ne_of_gt lt) (b5.extBut _ _ (Nat.ne_of_gt lt) t4))
theorem pyNext_item {e it l : Addr} {i : Nat} {xs : Array Value} {x old : Value} {Q : Option Value → Shared → Prop}
    (he : IsEnum s.heap e it i old) (hit : s.heap.IsTupleIter it l i) (hl : s.heap.IsTuple l xs) (hx : xs[i]? = some x) (hne : e ≠ it)
    (k : ∀ h', IsEnumOut h' e it ((i : Int) + 1) x s.heap.objs.size → h'.IsTupleIter it l (i + 1) → h'.get? s.heap.objs.size = some { cls := .type "tuple", data := .seq #[.int i s.toks, x] } → h'.objs.size = s.heap.objs.size + 1 →
      (∀ b o, b ≠ e → b ≠ it → s.heap.get? b = some o → h'.get? b = some o) → Q (some (.ref s.heap.objs.size)) { s with heap := h', toks := s.toks + 1 }) :
    wpAny (model prog w) A (pyNext (.ref e)) Q E s := by
  have ty : s.TypeIs (.ref e) "enumerate" := ⟨_, he, rfl⟩
  unfold pyNext
  exact wpAny_bind (wpAny_attempt (wpAny_callSpecial?_slot (name := Str.ofString "__next__") ty F.slot_enumerate_next (wpAny_call_entry F.slot_enumerate_next ty F.entry_enumerate_next (next_tup he hit hl hx hne fun h' a b c d m => wpAny_pure (k h' a b c d m)) (F.args_enumerate_next_1 _))))
theorem pyNext_end {e it l : Addr} {i : Nat} {xs : Array Value} {old : Value} {Q : Option Value → Shared → Prop} (hh : A.handled = none)
    (he : IsEnum s.heap e it i old) (hit : s.heap.IsTupleIter it l i) (hl : s.heap.IsTuple l xs) (hx : xs[i]? = none) (k : ∀ h', Heap.ExtBut it s.heap h' → Q none { s with heap := h' }) : wpAny (model prog w) A (pyNext (.ref e)) Q E s := by
  have ty : s.TypeIs (.ref e) "enumerate" := ⟨_, he, rfl⟩
  unfold pyNext
  refine wpAny_bind (wpAny_attempt (wpAny_callSpecial?_slot (name := Str.ofString "__next__") ty F.slot_enumerate_next (wpAny_call_entry F.slot_enumerate_next ty F.entry_enumerate_next ?_ (F.args_enumerate_next_1 _))))
  show wpAny _ _ (field (.ref e) 2 >>= _) _ _ _; refine wpAny_bind (wpAny_field he rfl (x := .ref it) rfl ?_)
  refine wpAny_bind (RZ.nextOf_tuple_end hh hit hl hx fun h' x q1 q2 => ?_); obtain ⟨o, ho, hc⟩ := q2
  exact wpAny_bind (wpAny_isInstance (T := "StopIteration") (b := true) ⟨o, ho, hc⟩ isSubtype_stop (wpAny_pure (k _ q1)))
end
/-- the tuple's items, each in a new pair -/
def ItT (K : PySem.W.Frag) (a : Addr) : It :=
  ⟨fun i H => ∃ (xs : List V) (x : V), SqT K H a xs ∧ xs[i]? = some x, fun i H v H' => ∃ p x, v = .ref p ∧ H p = none ∧ H' = upd H p (.tup [.int (i : Nat), x]) ∧ ∀ xs, SqT K H a xs → xs[i]? = some x, fun i H => ∃ xs : List V, SqT K H a xs ∧ xs.length ≤ i⟩
theorem turn_tup {P : Program} {w : World} {K : PySem.W.Frag} {elts : List Expr} {kk : Nat} {tpos : Pos} (a e it : Addr) :
    Turn P w K (.Tuple elts kk tpos) (ItT K a) [e, it] e (fun i h => (∃ old, IsEnum h e it ((i : Nat) : Int) old) ∧ h.IsTupleIter it a i ∧ e ≠ it) where
  mem := List.mem_cons_self
  obj := fun i h st b hb => by
    obtain ⟨⟨old, he⟩, ⟨o, ho, hc, hd⟩, _⟩ := st
    rcases List.mem_cons.mp hb with z | z
    · exact z ▸ ⟨_, he, fun v q => nomatch q⟩
    · exact List.mem_singleton.mp z ▸ ⟨o, ho, fun v q => by rw [hd] at q; cases q⟩
  keep := fun i h h' st k => ⟨st.1.imp fun _ q => k e List.mem_cons_self _ q, st.2.1.at fun o q => k it (List.mem_cons_of_mem _ List.mem_cons_self) o q, st.2.2⟩
  item := by
    intro X hP hw hK hc i pins s σ H E I hf st hg
    cases hP; cases hw; cases hK
    obtain ⟨⟨old, he⟩, hit, hne⟩ := st
    obtain ⟨xs, x, hq, hx⟩ := hg
    obtain ⟨us, rv, p, hz⟩ := I.tuple hq
    obtain ⟨u, hu, ru⟩ := rv.get hx
    have l1 : e < s.heap.objs.size := Heap.lt_size he
    have l2 : it < s.heap.objs.size := hit.elim fun _ q => Heap.lt_size q.1
    refine pyNext_item he hit p (x := u) (by simpa using hu) hne fun h' ho i' hT hs hk => ⟨_, rfl, wpAny_letOwnedTupleGo_enum (s := { s with heap := h', toks := s.toks + 1 }) ho fun h2 e2 sb => ?_⟩
    have t2 : h2.get? s.heap.objs.size = some { cls := .type "tuple", data := .seq #[.int i s.toks, u] } := (sb.2 _ (Nat.ne_of_gt l1)).trans hT
    have nw : ObjOk X.prog X.w (upd H s.heap.objs.size (.tup [.int (i : Nat), x])) h2 s.heap.objs.size (.tup [.int (i : Nat), x]) := ⟨by show 2 ≤ sizeLine; decide, [.int i s.toks, u], .cons ⟨_, rfl⟩ (.cons ru .nil), ⟨_, t2, rfl, _, rfl⟩⟩
    have I1 : Inv X pins σ (upd H s.heap.objs.size (.tup [.int (i : Nat), x])) { s with heap := h2, toks := s.toks + 1 } :=
      I.turnedNew (ch := [e, it]) (fun b o hb q => (sb.2 b (fun z => hb (by simp [z]))).trans (hk b o (fun z => hb (by simp [z])) (fun z => hb (by simp [z])) q)) hf (Nat.le_refl _) nw
    refine ⟨.ref s.heap.objs.size, _, I1, rfl, ⟨_, x, rfl, I.hok.fresh (Nat.le_refl _), rfl, fun ys hy => by rw [I.tuple_inj hy hq]; exact hx⟩, ⟨⟨u, ?_⟩, i'.at fun o q => (sb.2 it (Ne.symm hne)).trans q, hne⟩, fun b hb => ?_⟩
    · rw [show ((i + 1 : Nat) : Int) = (i : Int) + 1 by omega]; exact e2
    · rw [upd_ne (Nat.ne_of_lt ((List.mem_cons.mp hb).elim (fun z => z ▸ l1) fun z => List.mem_singleton.mp z ▸ l2))]
      exact (hf b hb).1
  done := by
    intro X hP hw hK hc i pins s σ H E I hf st hg
    cases hP; cases hw; cases hK
    obtain ⟨⟨old, he⟩, hit, hne⟩ := st
    obtain ⟨xs, hq, hx⟩ := hg
    obtain ⟨us, rv, p, hz⟩ := I.tuple hq
    obtain ⟨f0, f1, f2, f3, f4, f5⟩ := hf it (List.mem_cons_of_mem _ List.mem_cons_self)
    have ll := rv.length
    exact pyNext_end (I.ok.hd hc) he hit p (by simp; omega) fun h' eb => ⟨rfl, I.turned (t' := s.toks) (fun b o hb q => eb b o hb q) f0 f1 f3 f4 f5⟩
  self := fun A i s Q E st h => wpAny_pyIter_enum st.1.choose_spec h
def iEnumA (K : PySem.W.Frag) (ta : TA) : TI := fun σ H R => ta σ H fun vs H1 => ∃ a, vs = [.ref a] ∧ ((∃ xs, SqL K H1 a xs ∧ R (Ite K a) H1) ∨ ∃ xs, SqT K H1 a xs ∧ R (ItT K a) H1)
theorem pi_enumA {X : Cx} {e : Expr} {ta : TA} {p pos tpos : Pos} {elts : List Expr} {kk : Nat} (hg : Gl X "enumerate") (hm : X.mg "enumerate" = none) (ha : PA X [e] ta) (hs : starEach [e] X.env = [(false, eval e X.env)] := by rfl) :
    PI X (.Tuple elts kk tpos) (.Call (.Name "enumerate" p) [e] [] pos) (iEnumA X.K ta) := by
  refine ⟨fun pins s σ H R I h => Call_ (ld_blt I hg hm boot_enumerate (PyProof.Rows.callWith_type1 (thn (ha.run pos pins s σ H _ I h) fun us s1 ⟨vs, H1, I1, r1, q1⟩ => ?_) hs rfl))⟩
  obtain ⟨a, ex, q1⟩ := q1
  cases ex
  cases r1 with
  | cons r rr =>
    cases rr; cases r
    have fp : ∀ b ∈ [s1.heap.objs.size + 1, s1.heap.objs.size], FpOk X pins H1 b := fun b hb => by
      have le : s1.heap.objs.size ≤ b := (List.mem_cons.mp hb).elim (fun z => z ▸ Nat.le_succ _) fun z => List.mem_singleton.mp z ▸ Nat.le_refl _
      exact I1.fpOk le (I1.hok.fresh le)
    rcases q1 with ⟨xs, hq, q⟩ | ⟨xs, hq, q⟩
    · obtain ⟨us, rv, pl, hz⟩ := I1.list hq
      exact call_enumerate_list pl.isList fun h' he hit hsz hk => wpAny_pyIter_enum he ⟨s1.heap.objs.size + 1, [s1.heap.objs.size + 1, s1.heap.objs.size], _, _, H1, rfl, I1.kept (t' := s1.toks) hk, turn_enum a (s1.heap.objs.size + 1) s1.heap.objs.size, ⟨⟨.none, he⟩, hit, Nat.succ_ne_self _⟩, fp, q⟩
    · obtain ⟨us, rv, pl, hz⟩ := I1.tuple hq
      exact call_enum_tup pl fun h' he hit hk => wpAny_pyIter_enum he ⟨s1.heap.objs.size + 1, [s1.heap.objs.size + 1, s1.heap.objs.size], _, _, H1, rfl, I1.kept (t' := s1.toks) hk, turn_tup a (s1.heap.objs.size + 1) s1.heap.objs.size, ⟨⟨.none, he⟩, hit, Nat.succ_ne_self _⟩, fp, q⟩
end FxE
namespace Fx
open PySem PySem.Spec PyProof.Rows L2
def enumT : Nat → List T → List T
  | _, [] => []
  | n, t :: ts => .wt [.int (n : Int), t] :: enumT (n + 1) ts
theorem enumT_length : ∀ (n : Nat) (ts : List T), (enumT n ts).length = ts.length
  | _, [] => rfl
  | n, _ :: ts => congrArg (· + 1) (enumT_length (n + 1) ts)
theorem enumT_at : ∀ {n : Nat} {ts : List T} {i : Nat} {t : T}, (enumT n ts)[i]? = some t → ∃ x, ts[i]? = some x ∧ t = .wt [.int ((n + i : Nat) : Int), x]
  | _, [], _, _, h => by simp [enumT] at h
  | n, x :: ts, 0, t, h => ⟨x, rfl, (Option.some.inj (show some (T.wt [.int (n : Int), x]) = some t from h)).symm⟩
  | n, x :: ts, i + 1, t, h => by
    obtain ⟨y, h1, h2⟩ := enumT_at (n := n + 1) (ts := ts) (i := i) (t := t) (by simpa [enumT] using h)
    exact ⟨y, by simpa using h1, by rw [h2, show n + 1 + i = n + (i + 1) by omega]⟩
def fEnum (ts : List T) (S : Sto) : R Its := match ts with
  | [.tup xs] => .ok ⟨enumT 0 xs, []⟩ S
  | [x] => match lstOf S x with
    | some xs => .ok ⟨enumT 0 xs, srcOf S x⟩ S
    | none => .bad
  | _ => .bad
section
variable {X : Cx} {E : XK}
theorem i_enum {es : List Expr} {kk : Nat} {tpos : Pos} {e : Expr} {ms : Env → Sto → R (List T)} {p pos : Pos} (hg : Gl X "enumerate") (hm : X.mg "enumerate" = none) (ha : PA X [e] (tA X.K E ms)) (hs : starEach [e] X.env = [(false, eval e X.env)] := by rfl) :
    PI X (.Tuple es kk tpos) (.Call (.Name "enumerate" p) [e] [] pos) (tI X.K E (mItN fEnum ms)) :=
  PI.of (FxE.pi_enumA hg hm ha hs) fun σ H R ⟨ρ, τ, S, s, en, q⟩ => ⟨ρ, τ, S, s, en, q.step fun ρ1 H1 ts S1 e1 s1 h1 vs rs => by
    unfold fEnum at h1
    split at h1
    · rename_i xs
      obtain ⟨v, rfl, rv⟩ := rs.one
      obtain ⟨a, us, rfl, fa, ra⟩ := rep_tup rv
      refine ⟨a, rfl, .inr ⟨us, fa.sq, h1.ok s1 _ fun ρ2 H2 S2 e2 s2 _ => ?_⟩⟩
      have r1 := ra.extw e2
      have q1 := (fa.extw e2).sq
      refine ⟨⟨us, q1, ?_⟩, fun i t ht => ?_⟩
      · show us.length ≤ (enumT 0 xs).length
        rw [enumT_length, r1.length]
        exact Nat.le_refl _
      · obtain ⟨x, hx, rfl⟩ := enumT_at ht
        obtain ⟨x', hx', rx⟩ := r1.get hx
        refine ⟨⟨us, x', q1, hx'⟩, fun v H3 q => ?_⟩
        obtain ⟨p, x2, rfl, n, rfl, z⟩ := q
        have z := z us q1
        rw [hx'] at z
        cases z
        rw [Nat.zero_add]
        exact pair_new s2 n (.int _) rx
    · rename_i x _
      split at h1
      · rename_i xs hx
        obtain ⟨v, rfl, rv⟩ := rs.one
        obtain ⟨a, rfl, us0, a0, _, ka⟩ := keep_l (src := srcOf S1 x) s1 rv hx (srcOf_mem hx)
        refine ⟨a, rfl, .inl ⟨us0, a0, h1.ok s1 _ fun ρ2 H2 S2 e2 s2 c2 => ?_⟩⟩
        obtain ⟨us, q1, r1⟩ := ka ρ2 H2 S2 e2 s2 c2
        refine ⟨⟨us, q1, ?_⟩, fun i t ht => ?_⟩
        · show us.length ≤ (enumT 0 xs).length
          rw [enumT_length, r1.length]
          exact Nat.le_refl _
        · obtain ⟨x, hx, rfl⟩ := enumT_at ht
          obtain ⟨x', hx', rx⟩ := r1.get hx
          refine ⟨⟨us, x', q1, hx'⟩, fun v H3 q => ?_⟩
          obtain ⟨p, x2, rfl, n, rfl, z⟩ := q
          have z := z us q1
          rw [hx'] at z
          cases z
          rw [Nat.zero_add]
          exact pair_new s2 n (.int _) rx
      · exact h1.elim
    · exact h1.elim⟩
/-! a test that is a value's truth -/
def truT (S : Sto) : T → Option Bool
  | .non => some false
  | .bl b => some b
  | .int i => some (i != 0)
  | .str z => if z.length ≤ 1000000 then some ((z.length : Int) != 0) else none
  | .tup ts => some (!ts.isEmpty)
  | t => (lstOf S t).map fun ts => !ts.isEmpty
def fTru (t : T) (S : Sto) : R Bool := match truT S t with
  | some b => .ok b S
  | none => .bad
def mTru (m : Env → Sto → R T) : Env → Sto → R Bool := fun τ S => (m τ S).bind fTru
theorem reps_empty {K : PySem.W.Frag} {ρ : Wd} {H : Hp} {xs : List V} {ts : List T} (r : Reps K ρ H xs ts) : xs.isEmpty = ts.isEmpty := by cases r <;> rfl
theorem tru_of {ρ : Wd} {H : Hp} {S : Sto} {v : V} {t : T} {b : Bool} (s : Sta X.K ρ H S) (r : Rep X.K ρ H v t) (h : truT S t = some b) : TruV X.K v H b := by
  cases t with
  | non => cases h; rw [rep_non r]; rfl
  | bl k => cases h; rw [rep_bl r]; rfl
  | int i => cases h; rw [rep_int r]; rfl
  | str z =>
    rw [rep_str r]
    have h : (if z.length ≤ 1000000 then some ((z.length : Int) != 0) else none) = some b := h
    split at h
    · rename_i hl
      cases h
      exact ⟨sz6 hl, rfl⟩
    · cases h
  | tup ts =>
    cases h
    obtain ⟨a, xs, rfl, fa, ra⟩ := rep_tup r
    exact .inr (.inl ⟨xs, fa.sq, by rw [reps_empty ra]⟩)
  | lst ts =>
    cases h
    obtain ⟨a, xs, rfl, hx, rx⟩ := lstOf_at s r (ts := ts) rfl
    exact .inl ⟨xs, hx, by rw [reps_empty rx]⟩
  | kst ts =>
    cases h
    obtain ⟨a, xs, rfl, hx, rx⟩ := lstOf_at s r (ts := ts) rfl
    exact .inl ⟨xs, hx, by rw [reps_empty rx]⟩
  | ref k =>
    obtain ⟨ts, ht, h⟩ := Option.map_eq_some_iff.mp (show (lstOf S (.ref k)).map (fun ts => !ts.isEmpty) = some b from h)
    cases h
    obtain ⟨a, xs, rfl, hx, rx⟩ := lstOf_at s r ht
    exact .inl ⟨xs, hx, by rw [reps_empty rx]⟩
  | _ => cases h
theorem t_tru {a : Expr} {m : Env → Sto → R T} (ha : PE X a (tM X.K E m)) (he : ∀ whole, isTrue a X.env whole = (do let v ← whole; standAt a.pos; holding [v] (truthy v)) := by intro _; rfl) : PT X a (tB X.K E (mTru m)) :=
  PT.of (pt_truth ha he) fun σ H Q ⟨ρ, τ, S, s, en, q⟩ => ⟨ρ, τ, S, s, en, q.step fun ρ1 H1 t S1 e1 s1 h1 v rv => by
    unfold fTru at h1
    split at h1
    · rename_i b hb
      exact ⟨b, tru_of s1 rv hb, h1.ok s1⟩
    · exact h1.elim⟩
theorem ts_nil : PTs X [] (tB X.K E mTrue) := ⟨fun pins s σ H Q I ⟨ρ, τ, S, st, en, q⟩ => (pts_nil (X := X)).run pins s σ H Q I (q.ok st)⟩
theorem ts_one {c : Expr} {m : Env → Sto → R Bool} (h : PT X c (tB X.K E m)) : PTs X [c] (tB X.K E m) := pts_one h
end
/-! the end of a law's row -/
def spLaw (K : PySem.W.Frag) : Sp := fun vs H Q _ => ∃ (a : Addr) (ns : List Int), vs = [.ref a] ∧ SqL K H a (ns.map V.int) ∧ ns.length ≤ 63 ∧ ∀ H', Q (.bl true) H'
theorem reps_ints {K : PySem.W.Frag} {ρ : Wd} {H : Hp} : ∀ ys : List Int, Reps K ρ H (ys.map V.int) (ys.map T.int)
  | [] => .nil
  | y :: ys => .cons (.int y) (reps_ints ys)
theorem law_ok {P : Program} {w : World} {K : PySem.W.Frag} {mg : Str → Option Value} {base : Heap} {k : Nat} {f : Addr} {fd : FuncData} {ps : List Str} {F : List T → Sto → R T} (hps : ps.length = 1) (G : FnOk P w K mg base CX0 k f fd ps (spM K 1 F))
    (h : ∀ ns : List Int, ns.length ≤ 63 → ∃ S, F [.kst (ns.map T.int)] [] = .ok (.bl true) S) : FnOk P w K mg base CX0 k f fd ps (spLaw K) :=
  G.imp fun vs H Q E ⟨a, ns, e, hS, hl, q⟩ => by
    obtain ⟨S, hF⟩ := h ns hl
    subst e
    refine ⟨⟨[], []⟩, [], [.kst (ns.map T.int)], rfl, ⟨rfl, List.nodup_nil, (fun _ h => nomatch h), fun _ _ _ h => nomatch h⟩, .cons (.kst ?_ (reps_ints ns)) .nil, ?_⟩
    · rcases hS with hS | hS
      · exact .inl ⟨hS, fun h => nomatch h⟩
      · exact .inr (.inr hS)
    · rw [hF]
      intro ρ' H' _ _ v rv
      rw [rep_bl rv]
      exact q H'
end Fx
namespace Fx
open PySem PySem.Spec PyProof.Rows L2
def strV (z : Str) : List V := z.cps.toList.map fun c => V.str ⟨#[c]⟩
theorem reps_signs {K : PySem.W.Frag} {ρ : Wd} {H : Hp} {z : Str} : Reps K ρ H (strV z) (strT z) := by
  unfold strV strT
  induction z.cps.toList with
  | nil => exact .nil
  | cons c cs ih => exact .cons (.str _) ih
def rListStr : List V → Hp → VK → Prop := fun xs H Q => ∃ z, xs = [.str z] ∧ z.length ≤ sizeLine ∧ ∀ l, H l = none → Q (.ref l) (upd H l (.lst (strV z)))
section
variable {X : Cx} {E : XK}
theorem o_listStr (hc : X.calm = true) : CallR X (.type "list") rListStr := by
  intro pins s σ H xs us Q I r ⟨z, e, hz, q⟩
  subst e
  cases r with
  | cons r rr =>
    cases rr
    obtain ⟨t, rfl⟩ := r
    refine call_list_str (I.ok.hd hc) z t (hn := hz) fun h' tk acc n k e it => ⟨.ref s.heap.objs.size, _, I.laid (t' := tk) k (Nat.le_refl _) ?_, rfl, q _ (I.hok.fresh (Nat.le_refl _))⟩
    have hl : acc.toList.length = z.cps.size := by rw [Array.length_toList]; exact it.1
    refine ⟨by unfold strV; rw [List.length_map, Array.length_toList]; exact hz, acc.toList, n, ?_, by simpa using e⟩
    refine vals_of_at (by unfold strV; rw [List.length_map, Array.length_toList, hl]) fun j x u hx hu => ?_
    obtain ⟨c, u', hc', rfl⟩ := it.2 j u (by simpa using hu)
    have hx : (z.cps.toList.map fun c => V.str ⟨#[c]⟩)[j]? = some x := hx
    rw [List.getElem?_map] at hx
    obtain ⟨c2, h2, rfl⟩ := Option.map_eq_some_iff.mp hx
    have : c2 = c := by
      rw [← Array.getElem?_toList] at hc'
      rw [h2] at hc'
      exact Option.some.inj hc'
    rw [this]
    exact ⟨_, rfl⟩
def fListA (fz : Bool) (xs : List T) (S : Sto) : R T := match xs with
  | [.str z] => if z.length ≤ 100000 then newL fz (strT z) S else .bad
  | [x] => match seqOf S x with
    | some ts => newL fz ts S
    | none => .bad
  | _ => .bad
def rListB (K : PySem.W.Frag) : List V → Hp → VK → Prop := rN1 (rListA K) rListStr
theorem o_listA (hc : X.calm = true) : CallR X (.type "list") (rListB X.K) := o_list.or (o_listStr hc)
theorem f_listA (fz : Bool) : OpN X.K E (rListB X.K) (fListA fz) := by
  intro ρ H S vs ts Q s rs h
  unfold fListA at h
  split at h
  · rename_i z
    obtain ⟨y, rfl, r⟩ := rs.one
    split at h
    · rename_i hl
      rw [rep_str r]
      exact .inr ⟨z, rfl, sz5 hl, fun l hl => new_lst s reps_signs h l hl⟩
    · exact h.elim
  · obtain ⟨y, rfl, r⟩ := rs.one
    split at h
    · rename_i us hs
      obtain ⟨a, xs, rfl, hx, rx⟩ := seqOf_at s r hs
      exact .inl ⟨a, xs, rfl, hx, fun l hl => new_lst s rx h l hl⟩
    · exact h.elim
  · exact h.elim
/-! list(range(n)) -/
def mLstRg (fz : Bool) (m : Env → Sto → R T) : Env → Sto → R T := fun τ S => (m τ S).bind fun x S1 => match x with
  | .int n => if (decide (-(2 ^ 62) ≤ n) && decide (n ≤ 100000)) = true then newL fz (rangeT 0 n.toNat) S1 else .bad
  | _ => .bad
theorem reps_range {K : PySem.W.Frag} {ρ : Wd} {H : Hp} {n : Int} : Reps K ρ H (rgV 0 n) (rangeT 0 n.toNat) := by
  unfold rgV rangeT
  rw [Int.sub_zero]
  induction List.range n.toNat with
  | nil => exact .nil
  | cons c cs ih => exact .cons (.int _) ih
theorem x_listRg (fz : Bool) {e : Expr} {m : Env → Sto → R T} {p p2 pos pos2 : Pos} (hc : X.calm = true) (hg : Gl X "list") (hm : X.mg "list" = none) (hg2 : Gl X "range") (hm2 : X.mg "range" = none) (he : PE X e (tM X.K E m)) (na : starEach [.Call (.Name "range" p2) [e] [] pos2] X.env = (false, eval (.Call (.Name "range" p2) [e] [] pos2) X.env) :: starEach [] X.env := by rfl) (na2 : starEach [e] X.env = (false, eval e X.env) :: starEach [] X.env := by rfl) :
    PE X (.Call (.Name "list" p) [.Call (.Name "range" p2) [e] [] pos2] [] pos) (tM X.K E (mLstRg fz m)) :=
  PE.of (pe_listRg hc hg hm (prg_1 hg2 hm2 he na2) na) fun σ H Q ⟨ρ, τ, S, s, en, q⟩ => ⟨ρ, τ, S, s, en, q.step fun ρ1 H1 t S1 e1 s1 h1 v rv => by
    cases t with
    | int n =>
      have h1 : Post X.K E ρ1 H1 (if (decide (-(2 ^ 62) ≤ n) && decide (n ≤ 100000)) = true then newL fz (rangeT 0 n.toNat) S1 else .bad) (QE X.K Q) := h1
      split at h1
      · rename_i hb
        rw [Bool.and_eq_true, decide_eq_true_eq, decide_eq_true_eq] at hb
        exact ⟨n, rep_int rv, ⟨by omega, by omega, by omega, by omega, by omega⟩, fun q hq => new_lst s1 reps_range h1 q hq⟩
      · exact h1.elim
    | _ => exact h1.elim⟩
/-! + and [a:b] of whatever it is -/
def fAddA (fz : Bool) (x y : T) (S : Sto) : R T := match x, y with
  | .int i, .int j => .ok (.int (i + j)) S
  | .str a, .str b => if a.length + b.length ≤ 1000000 then .ok (.str (a ++ b)) S else .bad
  | .tup xs, .tup ys => if xs.length + ys.length ≤ 100000 then .ok (.tup (xs ++ ys)) S else .bad
  | x, y => fCat fz x y S
def rAddB (K : PySem.W.Frag) : R2 := rOr (rAddA K) rCat
theorem o_addA : OpR X (binaryOp .Add) (rAddB X.K) := o_add.or op_cat
theorem f_addA (fz : Bool) : Op2 X.K E (rAddB X.K) (fAddA fz) := by
  intro ρ H S v w x y Q s rv rw' h
  unfold fAddA at h
  split at h
  · exact .inl (f_add (E := E) ρ H S v w _ _ Q s rv rw' h)
  · exact .inl (f_add (E := E) ρ H S v w _ _ Q s rv rw' h)
  · exact .inl (f_add (E := E) ρ H S v w _ _ Q s rv rw' h)
  · exact .inr (f_cat fz (E := E) ρ H S v w _ _ Q s rv rw' h)
def fSlA (fz : Bool) (x : T) (lo hi : Option Int) (S : Sto) : R T := match x with
  | .tup ts => .ok (.tup (cutT ts lo hi)) S
  | .str z => if z.length ≤ 1000000 then .ok (.str (Txt.slice z lo hi)) S else .bad
  | x => fSlL fz x lo hi S
def rSlB (K : PySem.W.Frag) : V → Option Int → Option Int → Hp → VK → Prop := sOr (rSlTX K) (rSlL K)
theorem o_slA : SlR X (rSlB X.K) := L2.SlR.or o_sl sl_list
theorem f_slA (fz : Bool) : OpS X.K E (rSlB X.K) (fSlA fz) := by
  intro ρ H S v x lo hi Q s rv h
  unfold fSlA at h
  split at h
  · exact .inl (f_sl (E := E) ρ H S v _ lo hi Q s rv h)
  · exact .inl (f_sl (E := E) ρ H S v _ lo hi Q s rv h)
  · exact .inr (f_slL fz (E := E) ρ H S v _ lo hi Q s rv h)
/-! name = [..] -/
theorem s_setLc (fz : Bool) {i : Nat} {y : Str} {py : Pos} {elt tg iter : Expr} {ifs : List Expr} {scope : Scope} {own : List (Str × Nat)} {pos spos : Pos} {m : Env → Sto → R Its} {p : Pat} {c : Env → Sto → R Bool} {b : Env → Sto → R T} (hc : X.calm = true) (hN : X.N.Nodup) (hy : X.N[i]? = some y) (hyl : X.env.scope.names.lookup y = some .local)
    (hsw : swapsWith (.ListComp elt [⟨tg, iter, ifs, 0⟩] scope pos) (some (.Name y py)) spos.line X.env = pure true) (hi : PI X tg iter (tI X.K E m)) (ok : BlkOk X.N X.env.scope scope own)
    (hsl : p.slots.all (fun j => (own.map (·.2)).contains j) = true)
    (hg : ∀ (s : Shared) (H : Hp) (C : Addr) (cl : List (Str × Addr)) (fp : List Addr), PG (X.blk s H scope (compEnvC scope cl C X.env) fp) tg (tG X.K p)) (ht : ∀ (s : Shared) (H : Hp) (C : Addr) (cl : List (Str × Addr)) (fp : List Addr), PTs (X.blk s H scope (compEnvC scope cl C X.env) fp) ifs (tB X.K E0 c))
    (he : ∀ (s : Shared) (H : Hp) (C : Addr) (cl : List (Str × Addr)) (fp : List Addr), PE (X.blk s H scope (compEnvC scope cl C X.env) fp) elt (tM X.K E0 b)) (hs : ∀ x, foldedSetIterable iter X.env x = pure x := by intro _; rfl) :
    PS X (.Assign [.Name y py] (.ListComp elt [⟨tg, iter, ifs, 0⟩] scope pos) spos) (tS X.K E (sSet i (mLc fz (own.map (·.2)) m p c b))) :=
  PS.of (ps_setLc hc hN hy hyl hsw hi ok hg ht he hs) fun D σ H ⟨ρ, τ, S, s, e, h⟩ => ⟨ρ, τ, S, s, e, by
    have h : Post X.K E ρ H ((mLc fz (own.map (·.2)) m p c b τ S).bind fun x S1 => R.ok (Fl.nx (τ.set i (some x))) S1) (QS X.K D) := h
    have h : Post X.K E ρ H (((m τ S).bind fun it S1 => (mLcGo it p c b (wipeT τ (own.map (·.2))) it.ts [] S1).bind fun acc S2 => newL fz acc S2).bind fun x S1 => R.ok (Fl.nx (τ.set i (some x))) S1) (QS X.K D) := h
    rw [R.bind_assoc] at h
    exact h.step fun ρ1 H1 it S1 e1 s1 h1 J wm D' hD => lc_fn (E := E) (fz := fz) own hsl hD s1 (e.ext e1) (Q := fun x H => D.nx (σ.set i (some x)) H) (h1.step fun ρ2 H2 x S2 e2 s2 q v rv => q.ok s2 _ (((e.ext e1).ext e2).set i rv)) wm⟩
/-! a chain of two comparisons -/
def mChain (f g : T → T → Sto → R T) (a b c : Env → Sto → R T) : Env → Sto → R T := fun τ S => (a τ S).bind fun x S1 => (b τ S1).bind fun y S2 => (f x y S2).bind fun z S3 => (toB z S3).bind fun k S4 => if k = true then (c τ S4).bind fun u S5 => g y u S5 else .ok (.bl false) S4
/-! a call without a value; a star among the items -/
def mStar (a : Env → Sto → R T) (b : Env → Sto → R (List T)) : Env → Sto → R (List T) := fun τ S => (a τ S).bind fun x S1 => match seqOf S1 x with
  | some xs => (b τ S1).bind fun ys S2 => .ok (xs ++ ys) S2
  | none => .bad
theorem a_star {e : Expr} {p : Pos} {es : List Expr} {m : Env → Sto → R T} {ms : Env → Sto → R (List T)} (he : PE X e (tM X.K E m)) (hr : PA X es (tA X.K E ms)) (hs : starEach (.Starred e p :: es) X.env = (true, eval e X.env) :: starEach es X.env := by rfl) : PA X (.Starred e p :: es) (tA X.K E (mStar m ms)) :=
  PA.of (StX.pa_star he hr hs) fun σ H Q ⟨ρ, τ, S, s, en, q⟩ => ⟨ρ, τ, S, s, en, q.step fun ρ1 H1 t S1 e1 s1 h1 v rv => by
    split at h1
    · rename_i xs hx
      obtain ⟨a, vs, rfl, hv, rx⟩ := seqOf_at s1 rv hx
      exact ⟨a, vs, rfl, hv.symm, ρ1, τ, S1, s1, en.ext e1, h1.step fun ρ2 H2 ys S2 e2 s2 h2 ws rw' => h2.ok s2 _ ((rx.ext e2).append rw')⟩
    · exact h1.elim⟩
end
end Fx
namespace Fx
open PySem PySem.Spec PyProof.Rows L2
theorem bt_len : bootBuiltins "len" = some (.builtin "len") := by decide +kernel
theorem bt_abs : bootBuiltins "abs" = some (.builtin "abs") := by decide +kernel
theorem bt_max : bootBuiltins "max" = some (.builtin "max") := by decide +kernel
theorem bt_min : bootBuiltins "min" = some (.builtin "min") := by decide +kernel
theorem bt_sum : bootBuiltins "sum" = some (.builtin "sum") := by decide +kernel
theorem bt_isinstance : bootBuiltins "isinstance" = some (.builtin "isinstance") := by decide +kernel
theorem bt_int : bootBuiltins "int" = some (.type "int") := by decide +kernel
theorem bt_str : bootBuiltins "str" = some (.type "str") := by decide +kernel
theorem bt_bool : bootBuiltins "bool" = some (.type "bool") := by decide +kernel
theorem bt_tuple : bootBuiltins "tuple" = some (.type "tuple") := by decide +kernel
theorem bt_list : bootBuiltins "list" = some (.type "list") := by decide +kernel
theorem hu65 {k : Nat} {A : Around} (hr : Room k A) : A.units + 65 < cLine := by
  have := hr.un
  omega
theorem fn_bad {P : Program} {w : World} {K : PySem.W.Frag} {mg : Str → Option Value} {base : Heap} {k : Nat} {f : Addr} {fd : FuncData} {ps : List Str} {m : Nat} : FnOk P w K mg base CX0 k f fd ps (spM K m fun _ _ => .bad) :=
  ⟨fun vs H Q E ⟨_, _, _, _, _, _, h⟩ => h.elim, fun A outer s H args us vs Q E hr he hb hv ⟨_, _, _, _, _, _, h⟩ => h.elim⟩
section
variable {X : Cx} {E : XK}
def fIpadd := fI2 fun i j => .int (i + j)
theorem f_ipadd : Op2 X.K E (ipI fun i j => i + j) fIpadd := f_i2 (X := X) (g := fun i j => .int (i + j)) fun _ _ _ _ => .int _
def fIpsub := fI2 fun i j => .int (i - j)
theorem f_ipsub : Op2 X.K E (ipI fun i j => i - j) fIpsub := f_i2 (X := X) (g := fun i j => .int (i - j)) fun _ _ _ _ => .int _
end
end Fx
namespace Fx
open PySem PySem.Spec PyProof.Rows L2
theorem frame1 {fz : Bool} {F : List T → Sto → R T} {ts : List T} {o o' : O} {t : T} {rest : Sto} (h : frame 1 fz F ts [o] = .ok t [o']) : frame 1 fz F ts (o :: rest) = .ok t (o' :: rest) := by
  unfold frame at h ⊢
  by_cases c : 1 ≤ [o].length ∧ cls 1 ts = true ∧ ([o].take 1).all (clO 1) = true
  · have c' : 1 ≤ (o :: rest).length ∧ cls 1 ts = true ∧ ((o :: rest).take 1).all (clO 1) = true := ⟨by simp, c.2⟩
    rw [ifP_t c] at h
    rw [ifP_t c']
    show (match F ts [o] with
      | .ok t S1 => _
      | _ => _) = _
    have h : (match F ts [o] with
      | .ok t S1 => ifP (1 ≤ S1.length ∧ (S1.take 1).all (clO 1) = true ∧ cl 1 (thaw 1 fz t S1) = true) (.ok (thaw 1 fz t S1) (S1.take 1 ++ [])) .bad
      | _ => .bad) = R.ok t [o'] := h
    cases hF : F ts [o] with
    | bad => rw [hF] at h; cases h
    | err x S => rw [hF] at h; cases h
    | ok t1 S1 =>
      rw [hF] at h
      have h : ifP (1 ≤ S1.length ∧ (S1.take 1).all (clO 1) = true ∧ cl 1 (thaw 1 fz t1 S1) = true) (R.ok (thaw 1 fz t1 S1) (S1.take 1 ++ [])) .bad = R.ok t [o'] := h
      show ifP (1 ≤ S1.length ∧ (S1.take 1).all (clO 1) = true ∧ cl 1 (thaw 1 fz t1 S1) = true) (R.ok (thaw 1 fz t1 S1) (S1.take 1 ++ rest)) .bad = R.ok t (o' :: rest)
      by_cases c2 : 1 ≤ S1.length ∧ (S1.take 1).all (clO 1) = true ∧ cl 1 (thaw 1 fz t1 S1) = true
      · rw [ifP_t c2] at h ⊢
        rw [List.append_nil] at h
        injection h with h1 h2
        rw [h1, h2]
        rfl
      · rw [ifP_f c2] at h
        cases h
  · rw [ifP_f c] at h
    cases h
theorem frame0 {fz : Bool} {F : List T → Sto → R T} {ts : List T} {t : T} {S : Sto} (h : frame 0 fz F ts [] = .ok t []) : frame 0 fz F ts S = .ok t S := by
  unfold frame at h ⊢
  by_cases c : 0 ≤ ([] : Sto).length ∧ cls 0 ts = true ∧ (([] : Sto).take 0).all (clO 0) = true
  · have c' : 0 ≤ S.length ∧ cls 0 ts = true ∧ (S.take 0).all (clO 0) = true := ⟨Nat.zero_le _, c.2.1, rfl⟩
    rw [ifP_t c] at h
    rw [ifP_t c']
    have h : (match F ts [] with
      | .ok t S1 => ifP (0 ≤ S1.length ∧ (S1.take 0).all (clO 0) = true ∧ cl 0 (thaw 0 fz t S1) = true) (.ok (thaw 0 fz t S1) (S1.take 0 ++ [])) .bad
      | _ => .bad) = R.ok t [] := h
    show (match F ts [] with
      | .ok t S1 => ifP (0 ≤ S1.length ∧ (S1.take 0).all (clO 0) = true ∧ cl 0 (thaw 0 fz t S1) = true) (.ok (thaw 0 fz t S1) (S1.take 0 ++ S)) .bad
      | _ => .bad) = R.ok t S
    cases hF : F ts [] with
    | bad => rw [hF] at h; cases h
    | err x S => rw [hF] at h; cases h
    | ok t1 S1 =>
      rw [hF] at h
      have h : ifP (0 ≤ S1.length ∧ (S1.take 0).all (clO 0) = true ∧ cl 0 (thaw 0 fz t1 S1) = true) (R.ok (thaw 0 fz t1 S1) (S1.take 0 ++ [])) .bad = R.ok t [] := h
      show ifP (0 ≤ S1.length ∧ (S1.take 0).all (clO 0) = true ∧ cl 0 (thaw 0 fz t1 S1) = true) (R.ok (thaw 0 fz t1 S1) (S1.take 0 ++ S)) .bad = R.ok t S
      by_cases c2 : 0 ≤ S1.length ∧ (S1.take 0).all (clO 0) = true ∧ cl 0 (thaw 0 fz t1 S1) = true
      · rw [ifP_t c2] at h ⊢
        injection h with h1 h2
        rw [h1]
        rfl
      · rw [ifP_f c2] at h
        cases h
  · rw [ifP_f c] at h
    cases h

/-! evaluating -/
section
variable {α β : Type} (τ : Fx.Env) (S : Sto)
@[simp] theorem ev_ok (a : α) (f : α → Sto → R β) : R.bind (.ok a S) f = f a S := id rfl
@[simp] theorem ev_noErr (a : α) : noErr (.ok a S) = .ok a S := id rfl
@[simp] theorem ev_C (t : T) : mC t τ S = .ok t S := id rfl
@[simp] theorem ev_V (i : Nat) : mVar i τ S = match τ[i]? with
  | some (some t) => .ok t S
  | _ => .bad := id rfl
@[simp] theorem ev_bin (f a b) : mBin f a b τ S = (a τ S).bind fun x S1 => (b τ S1).bind fun y S2 => f x y S2 := id rfl
@[simp] theorem ev_un (f a) : mUn f a τ S = (a τ S).bind fun x S1 => f x S1 := id rfl
@[simp] theorem ev_nil : mNil τ S = .ok [] S := id rfl
@[simp] theorem ev_cons (a b) : mCons a b τ S = (a τ S).bind fun x S1 => (b τ S1).bind fun y S2 => .ok (x :: y) S2 := id rfl
@[simp] theorem ev_fn (f a) : mFn f a τ S = (a τ S).bind f := id rfl
@[simp] theorem ev_ite (c a b) : mIte c a b τ S = (c τ S).bind fun k S1 => if k = true then a τ S1 else b τ S1 := id rfl
@[simp] theorem ev_tst (a) : mTst a τ S = (a τ S).bind toB := id rfl
@[simp] theorem ev_toB (b : Bool) : toB (.bl b) S = .ok b S := id rfl
@[simp] theorem ev_and (a b) : mAnd a b τ S = (a τ S).bind fun k S1 => if k = true then b τ S1 else .ok false S1 := id rfl
@[simp] theorem ev_or (a b) : mOr a b τ S = (a τ S).bind fun k S1 => if k = true then .ok true S1 else b τ S1 := id rfl
@[simp] theorem ev_not (a) : mNot a τ S = (a τ S).bind fun k S1 => .ok (!k) S1 := id rfl
@[simp] theorem ev_andV (a b) : mAndV a b τ S = (a τ S).bind fun x S1 => (toB x S1).bind fun k S2 => if k = true then b τ S2 else .ok (.bl false) S2 := id rfl
@[simp] theorem ev_orV (a b) : mOrV a b τ S = (a τ S).bind fun x S1 => (toB x S1).bind fun k S2 => if k = true then .ok (.bl true) S2 else b τ S2 := id rfl
@[simp] theorem ev_notV (a) : mNotV a τ S = (a τ S).bind fun x S1 => (toB x S1).bind fun k S2 => .ok (.bl (!k)) S2 := id rfl
@[simp] theorem ev_tup (a) : mTup a τ S = (a τ S).bind fun ts S1 => if ts.length ≤ 100000 then .ok (.tup ts) S1 else .bad := id rfl
@[simp] theorem ev_lst (fz a) : mLst fz a τ S = (a τ S).bind fun ts S1 => if ts.length ≤ 100000 then newL fz ts S1 else .bad := id rfl
@[simp] theorem ev_newT (ts) : newL true ts S = .ok (.lst ts) S := id rfl
@[simp] theorem ev_newF (ts) : newL false ts S = .ok (.ref S.length) (S ++ [.lst ts]) := id rfl
@[simp] theorem ev_meth (c f o a) : mMeth c f o a τ S = (o τ S).bind fun x S1 => if c x S1 = true then (a τ S1).bind fun ts S2 => f x ts S2 else .bad := id rfl
@[simp] theorem ev_tru (a) : mTru a τ S = (a τ S).bind fTru := id rfl
@[simp] theorem ev_true : mTrue τ S = .ok true S := id rfl
@[simp] theorem ev_it (a) : mIt a τ S = (a τ S).bind itOf := id rfl
@[simp] theorem ev_itN (f a) : mItN f a τ S = (a τ S).bind f := id rfl
@[simp] theorem ev_itOfT (ts : List T) : itOf (.tup ts) S = .ok ⟨ts, []⟩ S := id rfl
@[simp] theorem ev_itOfL (ts : List T) : itOf (.lst ts) S = .ok ⟨ts, []⟩ S := id rfl
@[simp] theorem ev_itOfK (ts : List T) : itOf (.kst ts) S = .ok ⟨ts, []⟩ S := id rfl
@[simp] theorem ev_itOfS (z : Str) : itOf (.str z) S = .ok ⟨strT z, []⟩ S := id rfl
@[simp] theorem ev_lstOfL (ts : List T) : lstOf S (.lst ts) = some ts := id rfl
@[simp] theorem ev_lstOfK (ts : List T) : lstOf S (.kst ts) = some ts := id rfl
@[simp] theorem ev_sl (f a l u) : mSl f a l u τ S = (a τ S).bind fun x S1 => (l τ S1).bind fun lo S2 => (u τ S2).bind fun hi S3 => f x lo hi S3 := id rfl
@[simp] theorem ev_O0 : mO0 τ S = .ok none S := id rfl
@[simp] theorem ev_O1 (a) : mO1 a τ S = (a τ S).bind fun x S1 => match x with
  | .int i => .ok (some i) S1
  | _ => .bad := id rfl
@[simp] theorem ev_lc (fz vs m p c b) : mLc fz vs m p c b τ S = (m τ S).bind fun it S1 => (mLcGo it p c b (wipeT τ vs) it.ts [] S1).bind fun acc S2 => newL fz acc S2 := id rfl
@[simp] theorem ev_lstRg (fz m) : mLstRg fz m τ S = (m τ S).bind fun x S1 => match x with
  | .int n => if (decide (-(2 ^ 62) ≤ n) && decide (n ≤ 100000)) = true then newL fz (rangeT 0 n.toNat) S1 else .bad
  | _ => .bad := id rfl
@[simp] theorem ev_next : sNext τ S = .ok (.nx τ) S := id rfl
@[simp] theorem ev_seq (a b) : sSeq a b τ S = (a τ S).bind fun f S1 => match f with
  | .nx τ1 => b τ1 S1
  | .rt t => .ok (.rt t) S1
  | .bk τ1 => .ok (.bk τ1) S1
  | .ct τ1 => .ok (.ct τ1) S1 := id rfl
@[simp] theorem ev_set (i a) : sSet i a τ S = (a τ S).bind fun x S1 => .ok (.nx (τ.set i (some x))) S1 := id rfl
@[simp] theorem ev_drop (a) : sDrop a τ S = (a τ S).bind fun _ S1 => .ok (.nx τ) S1 := id rfl
@[simp] theorem ev_ret (a) : sRet a τ S = (a τ S).bind fun x S1 => .ok (.rt x) S1 := id rfl
@[simp] theorem ev_retN : sRetN τ S = .ok (.rt .non) S := id rfl
@[simp] theorem ev_if (c a b) : sIf c a b τ S = (c τ S).bind fun k S1 => if k = true then a τ S1 else b τ S1 := id rfl
@[simp] theorem ev_for (m p b) : sFor m p b τ S = (m τ S).bind fun it S1 => sForGo it p b it.ts τ S1 := id rfl
@[simp] theorem ev_put (o i a) : sPut o i a τ S = (a τ S).bind fun t S1 => (o τ S1).bind fun x S2 => (i τ S2).bind fun y S3 => match x, y with
  | .ref k, .int n => match S3[k]? with
    | some (.lst us) => match ixN us.length n with
      | some j => .ok (.nx τ) (S3.set k (.lst (us.set j t)))
      | none => .bad
    | _ => .bad
  | _, _ => .bad := id rfl
@[simp] theorem ev_eqI (i j : Int) : fEq (.int i) (.int j) S = .ok (.bl (decide (i = j))) S := id rfl
@[simp] theorem ev_eqS (i j : Str) : fEq (.str i) (.str j) S = .ok (.bl (decide (i = j))) S := id rfl
@[simp] theorem ev_neI (i j : Int) : fNe (.int i) (.int j) S = .ok (.bl (!decide (i = j))) S := id rfl
@[simp] theorem ev_neS (i j : Str) : fNe (.str i) (.str j) S = .ok (.bl (!decide (i = j))) S := id rfl
@[simp] theorem ev_lt (i j : Int) : fLt (.int i) (.int j) S = .ok (.bl (decide (i < j))) S := id rfl
@[simp] theorem ev_le (i j : Int) : fLe (.int i) (.int j) S = .ok (.bl (decide (i ≤ j))) S := id rfl
@[simp] theorem ev_gt (i j : Int) : fGt (.int i) (.int j) S = .ok (.bl (decide (j < i))) S := id rfl
@[simp] theorem ev_ge (i j : Int) : fGe (.int i) (.int j) S = .ok (.bl (decide (j ≤ i))) S := id rfl
@[simp] theorem ev_sub (i j : Int) : fSub (.int i) (.int j) S = .ok (.int (i - j)) S := id rfl
@[simp] theorem ev_neg (i : Int) : fNeg (.int i) S = .ok (.int (-i)) S := id rfl
@[simp] theorem ev_addI (fz) (i j : Int) : fAddA fz (.int i) (.int j) S = .ok (.int (i + j)) S := id rfl
@[simp] theorem ev_addT (fz) (i j : List T) : fAddA fz (.tup i) (.tup j) S = if i.length + j.length ≤ 100000 then .ok (.tup (i ++ j)) S else .bad := id rfl
@[simp] theorem ev_addS (fz) (i j : Str) : fAddA fz (.str i) (.str j) S = if i.length + j.length ≤ 1000000 then .ok (.str (i ++ j)) S else .bad := id rfl
@[simp] theorem ev_addL (fz) (i j : List T) : fAddA fz (.lst i) (.lst j) S = if i.length + j.length ≤ 100000 then newL fz (i ++ j) S else .bad := id rfl
@[simp] theorem ev_int (i : Int) : fInt [.int i] S = .ok (.int i) S := id rfl
@[simp] theorem ev_abs (i : Int) : fAbs [.int i] S = .ok (.int i.natAbs) S := by
  show R.ok (T.int (if i < 0 then -i else i)) S = _
  congr 2
  split <;> omega
@[simp] theorem ev_max (i j : Int) : fMax2 [.int i, .int j] S = .ok (.int (max i j)) S := by
  show R.ok (T.int (if j > i then j else i)) S = _
  congr 2
  split <;> omega
@[simp] theorem ev_min (i j : Int) : fMin2 [.int i, .int j] S = .ok (.int (min i j)) S := by
  show R.ok (T.int (if j < i then j else i)) S = _
  congr 2
  split <;> omega
@[simp] theorem ev_lenT (ts : List T) : fLen [.tup ts] S = .ok (.int ts.length) S := id rfl
@[simp] theorem ev_lenL (ts : List T) : fLen [.lst ts] S = .ok (.int ts.length) S := id rfl
@[simp] theorem ev_lenK (ts : List T) : fLen [.kst ts] S = .ok (.int ts.length) S := id rfl
@[simp] theorem ev_lenS (z : Str) : fLen [.str z] S = if z.length ≤ 1000000 then .ok (.int z.length) S else .bad := id rfl
@[simp] theorem ev_lenR (k : Nat) : fLen [.ref k] S = match seqOf S (.ref k) with
    | some ts => .ok (.int ts.length) S
    | none => .bad := id rfl
@[simp] theorem ev_seqR (k : Nat) : seqOf S (.ref k) = match S[k]? with
    | some (.lst ts) => some ts
    | _ => none := id rfl
@[simp] theorem ev_lstR (k : Nat) : lstOf S (.ref k) = match S[k]? with
    | some (.lst ts) => some ts
    | _ => none := id rfl
@[simp] theorem ev_tupT (ts : List T) : fTuple [.tup ts] S = .ok (.tup ts) S := id rfl
@[simp] theorem ev_tupL (ts : List T) : fTuple [.lst ts] S = .ok (.tup ts) S := id rfl
@[simp] theorem ev_tupK (ts : List T) : fTuple [.kst ts] S = .ok (.tup ts) S := id rfl
@[simp] theorem ev_ixT (ts : List T) (i : Int) : fIx (.tup ts) (.int i) S = match L2.atI ts i with
        | some t => .ok t S
        | none => .bad := id rfl
@[simp] theorem ev_ixL (ts : List T) (i : Int) : fIx (.lst ts) (.int i) S = match L2.atI ts i with
        | some t => .ok t S
        | none => .bad := id rfl
@[simp] theorem ev_ixR (k : Nat) (i : Int) : fIx (.ref k) (.int i) S = match seqOf S (.ref k) with
      | some ts => match L2.atI ts i with
        | some t => .ok t S
        | none => .bad
      | none => .bad := id rfl
@[simp] theorem ev_mul {i j : Int} (h : -18446744073709551616 < j ∧ j < 18446744073709551616) : fMul (.int i) (.int j) S = .ok (.int (i * j)) S := by
  have c : cMul i j = true := by
    unfold cMul
    simp only [Bool.or_eq_true, Bool.and_eq_true, decide_eq_true_eq]
    exact .inr ⟨by omega, by omega⟩
  show (if cMul i j = true then R.ok (T.int (i * j)) S else .bad) = _
  rw [if_pos c]
@[simp] theorem ev_mod {i j : Int} (h : 0 < j) : fMod (.int i) (.int j) S = .ok (.int (i % j)) S := by
  unfold fMod fI2c
  simp [h]
@[simp] theorem ev_div {i j : Int} (h : 0 < j ∧ j < 1073741824) : fDiv (.int i) (.int j) S = .ok (.int (i / j)) S := by
  unfold fDiv fI2c
  simp [h.1, h.2]
@[simp] theorem ev_pow : fPow (.int 10) (.int 18) S = .ok (.int 1000000000000000000) S := id rfl
theorem atI_in (xs : List α) (i : Int) (h0 : 0 ≤ i) (h : i < xs.length) : L2.atI xs i = xs[i.toNat]? := by
  unfold L2.atI ixN
  rw [if_pos h0, if_pos h]
  rfl
theorem ixN_in (n : Nat) (i : Int) (h0 : 0 ≤ i) (h : i < n) : ixN n i = some i.toNat := by
  unfold ixN
  rw [if_pos h0, if_pos h]
@[simp] theorem atI_0 (x : α) (xs : List α) : L2.atI (x :: xs) 0 = some x := by rw [atI_in _ _ (by omega) (by simp)]; rfl
@[simp] theorem atI_1 (x y : α) (xs : List α) : L2.atI (x :: y :: xs) 1 = some y := by rw [atI_in _ _ (by omega) (by simp; omega)]; rfl
@[simp] theorem atI_2 (x y z : α) (xs : List α) : L2.atI (x :: y :: z :: xs) 2 = some z := by rw [atI_in _ _ (by omega) (by simp; omega)]; rfl
@[simp] theorem atI_3 (x y z u : α) (xs : List α) : L2.atI (x :: y :: z :: u :: xs) 3 = some u := by rw [atI_in _ _ (by omega) (by simp; omega)]; rfl
@[simp] theorem atI_4 (x y z u v : α) (xs : List α) : L2.atI (x :: y :: z :: u :: v :: xs) 4 = some v := by rw [atI_in _ _ (by omega) (by simp; omega)]; rfl
@[simp] theorem ixN_0 (n : Nat) : ixN (n + 1) 0 = some 0 := by rw [ixN_in _ _ (by omega) (by omega)]; rfl
@[simp] theorem ifP_true (a b : α) : ifP True a b = a := ifP_t trivial
@[simp] theorem ifP_false (a b : α) : ifP False a b = b := ifP_f id
end
section
variable (n : Nat)
@[simp] theorem cl_non : cl n .non = true := by unfold cl; rfl
@[simp] theorem cl_bl (b) : cl n (.bl b) = true := by unfold cl; rfl
@[simp] theorem cl_int (b) : cl n (.int b) = true := by unfold cl; rfl
@[simp] theorem cl_str (b) : cl n (.str b) = true := by unfold cl; rfl
@[simp] theorem cl_tup (b) : cl n (.tup b) = cls n b := by rw [cl]
@[simp] theorem cl_lst (b) : cl n (.lst b) = cls n b := by rw [cl]
@[simp] theorem cl_kst (b) : cl n (.kst b) = cls n b := by rw [cl]
@[simp] theorem cl_ref (b) : cl n (.ref b) = decide (b < n) := by rw [cl]
@[simp] theorem cls_nil : cls n [] = true := by rw [cls]
@[simp] theorem cls_cons (t ts) : cls n (t :: ts) = (cl n t && cls n ts) := by rw [cls]
@[simp] theorem clO_lst (b) : clO n (.lst b) = cls n b := rfl
theorem cls_all (ts : List T) (h : ∀ t ∈ ts, cl n t = true) : cls n ts = true := by
  induction ts with
  | nil => simp
  | cons t ts ih => simp [h t List.mem_cons_self, ih fun t m => h t (List.mem_cons_of_mem _ m)]
@[simp] theorem cls_ints (xs : List Int) : cls n (xs.map T.int) = true := cls_all n _ fun t m => by
  obtain ⟨i, _, rfl⟩ := List.mem_map.mp m
  simp
@[simp] theorem cls_strs (xs : List Str) : cls n (xs.map T.str) = true := cls_all n _ fun t m => by
  obtain ⟨i, _, rfl⟩ := List.mem_map.mp m
  simp
end
@[simp] theorem thaw_int (n fz i S) : thaw n fz (.int i) S = .int i := by unfold thaw; split <;> rfl
@[simp] theorem thaw_str (n fz i S) : thaw n fz (.str i) S = .str i := by unfold thaw; split <;> rfl
@[simp] theorem thaw_bl (n fz i S) : thaw n fz (.bl i) S = .bl i := by unfold thaw; split <;> rfl
@[simp] theorem thaw_non (n fz S) : thaw n fz .non S = .non := by unfold thaw; split <;> rfl
@[simp] theorem thaw_tup (n fz i S) : thaw n fz (.tup i) S = .tup i := by unfold thaw; split <;> rfl
@[simp] theorem thaw_lst (n fz i S) : thaw n fz (.lst i) S = .lst i := by unfold thaw; split <;> rfl
@[simp] theorem thaw_kst (n fz i S) : thaw n fz (.kst i) S = .kst i := by unfold thaw; split <;> rfl

/-! ### what comes out -/
def Ok {α : Type} (r : R α) (Q : α → Sto → Prop) : Prop := match r with
  | .ok a S => Q a S
  | _ => False
section
variable {α β : Type}
@[simp] theorem Ok_ok (a : α) (S : Sto) (Q : α → Sto → Prop) : Ok (.ok a S) Q = Q a S := id rfl
@[simp] theorem Ok_bad (Q : α → Sto → Prop) : Ok (.bad) Q = False := id rfl
theorem Ok_bind (r : R α) (f : α → Sto → R β) (Q : β → Sto → Prop) : Ok (r.bind f) Q = Ok r fun a S => Ok (f a S) Q := by cases r <;> rfl
theorem Ok_noErr (r : R α) (Q : α → Sto → Prop) : Ok (noErr r) Q = Ok r Q := by cases r <;> rfl
theorem Ok_if (c : Prop) [Decidable c] (a b : R α) (Q : α → Sto → Prop) : Ok (if c then a else b) Q = if c then Ok a Q else Ok b Q := by split <;> rfl
theorem Ok.mono {r : R α} {Q Q' : α → Sto → Prop} (h : Ok r Q) (i : ∀ a S, Q a S → Q' a S) : Ok r Q' := by
  cases r with
  | ok a S => exact i a S h
  | err x S => exact h
  | bad => exact h
theorem Ok.get {r : R α} {Q : α → Sto → Prop} (h : Ok r Q) : ∃ a S, r = .ok a S ∧ Q a S := by
  cases r with
  | ok a S => exact ⟨a, S, rfl, h⟩
  | err x S => exact h.elim
  | bad => exact h.elim
theorem Ok.of {r : R α} {Q : α → Sto → Prop} {a : α} {S : Sto} (e : r = .ok a S) (h : Q a S) : Ok r Q := by rw [e]; exact h
end
def endQ (Q : T → Sto → Prop) : Fl → Sto → Prop := fun f S => match f with
  | .nx _ => Q .non S
  | .rt t => Q t S
  | _ => False
theorem ok_run {N : Nat} {b : Env → Sto → R Fl} {ts : List T} {S : Sto} {Q : T → Sto → Prop} (h : Ok (b (ts.map some ++ List.replicate (N - ts.length) none) S) (endQ Q)) : Ok (runF N b ts S) Q := by
  unfold runF
  rw [Ok_bind, Ok_noErr]
  refine h.mono fun f S1 q => ?_
  cases f with
  | nx τ => exact q
  | rt t => exact q
  | bk τ => exact q
  | ct τ => exact q
theorem ok_frame0 {F : List T → Sto → R T} {ts : List T} {S : Sto} {Q : T → Sto → Prop} (hc : cls 0 ts = true) (h : Ok (F ts []) fun t S1 => cl 0 (thaw 0 true t S1) = true ∧ Q (thaw 0 true t S1) S) : Ok (frame 0 true F ts S) Q := by
  unfold frame
  rw [ifP_t ⟨Nat.zero_le _, hc, rfl⟩]
  obtain ⟨t, S1, e, q1, q2⟩ := h.get
  have e : F ts (S.take 0) = .ok t S1 := e
  rw [e]
  show Ok (ifP (0 ≤ S1.length ∧ (S1.take 0).all (clO 0) = true ∧ cl 0 (thaw 0 true t S1) = true) (.ok (thaw 0 true t S1) (S1.take 0 ++ S.drop 0)) .bad) Q
  rw [ifP_t ⟨Nat.zero_le _, rfl, q1⟩]
  exact q2
theorem ok_frame1 {F : List T → Sto → R T} {ts : List T} {o : O} {rest : Sto} {Q : T → Sto → Prop} (hc : cls 1 ts = true) (ho : clO 1 o = true) (h : Ok (F ts [o]) fun t S1 => ∃ o' g, S1 = o' :: g ∧ clO 1 o' = true ∧ cl 1 (thaw 1 true t S1) = true ∧ Q (thaw 1 true t S1) (o' :: rest)) : Ok (frame 1 true F ts (o :: rest)) Q := by
  unfold frame
  rw [ifP_t ⟨by simp, hc, by simpa using ho⟩]
  obtain ⟨t, S1, e, o', g, rfl, q0, q1, q2⟩ := h.get
  have e : F ts ((o :: rest).take 1) = .ok t (o' :: g) := e
  rw [e]
  show Ok (ifP (1 ≤ (o' :: g).length ∧ ((o' :: g).take 1).all (clO 1) = true ∧ cl 1 (thaw 1 true t (o' :: g)) = true) (.ok (thaw 1 true t (o' :: g)) ((o' :: g).take 1 ++ (o :: rest).drop 1)) .bad) Q
  rw [ifP_t ⟨by simp, by simpa using q0, q1⟩]
  exact q2
/-! ### loops -/
def forQ (I : Env → Sto → Prop) (Q : Fl → Sto → Prop) : Fl → Sto → Prop := fun f S => match f with
  | .nx τ => I τ S
  | .ct τ => I τ S
  | .bk τ => Q (.nx τ) S
  | .rt t => Q (.rt t) S
theorem ok_forGo {it : Its} {p : Pat} {b : Env → Sto → R Fl} {Q : Fl → Sto → Prop} (I : Nat → Env → Sto → Prop) (hchk : ∀ k τ S, I k τ S → it.chk S) : ∀ (ts : List T) (k : Nat) (τ : Env) (S : Sto),
    (∀ i t τ S, ts[i]? = some t → I (k + i) τ S → ∃ τ1, bindP p t τ = some τ1 ∧ Ok (b τ1 S) (forQ (I (k + i + 1)) Q)) → (∀ τ S, I (k + ts.length) τ S → Q (.nx τ) S) → I k τ S → Ok (sForGo it p b ts τ S) Q
  | [], k, τ, S, _, hq, h => by
    rw [sForGo, ifP_t (hchk _ _ _ h)]
    exact hq τ S h
  | t :: ts, k, τ, S, hs, hq, h => by
    obtain ⟨τ1, h1, h2⟩ := hs 0 t τ S rfl h
    rw [sForGo, ifP_t (hchk _ _ _ h), bound, h1]
    dsimp only
    rw [Ok_bind]
    have go : ∀ τ2 S2, I (k + 0 + 1) τ2 S2 → Ok (sForGo it p b ts τ2 S2) Q := fun τ2 S2 q => ok_forGo I hchk ts (k + 1) τ2 S2 (fun i t τ S e q => by
      have := hs (i + 1) t τ S (by simpa using e) (by rw [show k + (i + 1) = k + 1 + i by omega]; exact q)
      rw [show k + (i + 1) = k + 1 + i by omega] at this
      exact this) (fun τ S q => hq τ S (by rw [List.length_cons, show k + (ts.length + 1) = k + 1 + ts.length by omega]; exact q)) q
    refine h2.mono fun f S2 q => ?_
    cases f with
    | nx τ2 => exact go τ2 S2 q
    | ct τ2 => exact go τ2 S2 q
    | bk τ2 => exact q
    | rt t2 => exact q
/-- a for over what no one changes -/
theorem ok_for {ts : List T} {p : Pat} {b : Env → Sto → R Fl} {Q : Fl → Sto → Prop} {τ : Env} {S : Sto} (I : Nat → Env → Sto → Prop) (h0 : I 0 τ S)
    (hs : ∀ i t τ S, ts[i]? = some t → I i τ S → ∃ τ1, bindP p t τ = some τ1 ∧ Ok (b τ1 S) (forQ (I (i + 1)) Q)) (hq : ∀ τ S, I ts.length τ S → Q (.nx τ) S) : Ok (sForGo ⟨ts, []⟩ p b ts τ S) Q :=
  ok_forGo I (fun _ _ S _ => chk_nil ts S) ts 0 τ S (fun i t τ S e q => by rw [Nat.zero_add] at q ⊢; exact hs i t τ S e q) (fun τ S q => hq τ S (by rw [Nat.zero_add] at q; exact q)) h0
theorem ok_lcGo {it : Its} {p : Pat} {c : Env → Sto → R Bool} {b : Env → Sto → R T} {τ : Env} {Q : List T → Sto → Prop} (I : Nat → List T → Sto → Prop) (hchk : ∀ k acc S, I k acc S → it.chk S) : ∀ (ts : List T) (k : Nat) (acc : List T) (S : Sto),
    (∀ i t acc S, ts[i]? = some t → I (k + i) acc S → ∃ τ1, bindP p t τ = some τ1 ∧ Ok (c τ1 S) fun r S1 => if r = true then Ok (b τ1 S1) fun y S2 => acc.length < 100000 ∧ I (k + i + 1) (acc ++ [y]) S2 else I (k + i + 1) acc S1) →
    (∀ acc S, I (k + ts.length) acc S → Q acc S) → I k acc S → Ok (mLcGo it p c b τ ts acc S) Q
  | [], k, acc, S, _, hq, h => by
    rw [mLcGo, ifP_t (hchk _ _ _ h)]
    exact hq acc S h
  | t :: ts, k, acc, S, hs, hq, h => by
    obtain ⟨τ1, h1, h2⟩ := hs 0 t acc S rfl h
    rw [mLcGo, ifP_t (hchk _ _ _ h), bound, h1]
    dsimp only
    rw [Ok_bind, Ok_noErr]
    have go : ∀ acc2 S2, I (k + 0 + 1) acc2 S2 → Ok (mLcGo it p c b τ ts acc2 S2) Q := fun acc2 S2 q => ok_lcGo I hchk ts (k + 1) acc2 S2 (fun i t acc S e q => by
      have := hs (i + 1) t acc S (by simpa using e) (by rw [show k + (i + 1) = k + 1 + i by omega]; exact q)
      rw [show k + (i + 1) = k + 1 + i by omega] at this
      exact this) (fun acc S q => hq acc S (by rw [List.length_cons, show k + (ts.length + 1) = k + 1 + ts.length by omega]; exact q)) q
    refine h2.mono fun r S2 q => ?_
    cases r with
    | false =>
      rw [if_neg Bool.false_ne_true] at q ⊢
      exact go acc S2 q
    | true =>
      rw [if_pos rfl] at q ⊢
      rw [Ok_bind, Ok_noErr]
      refine q.mono fun y S3 q3 => ?_
      rw [if_pos q3.1]
      exact go _ S3 q3.2
theorem ok_lc {ts : List T} {p : Pat} {c : Env → Sto → R Bool} {b : Env → Sto → R T} {τ : Env} {S : Sto} {Q : List T → Sto → Prop} (I : Nat → List T → Sto → Prop) (h0 : I 0 [] S)
    (hs : ∀ i t acc S, ts[i]? = some t → I i acc S → ∃ τ1, bindP p t τ = some τ1 ∧ Ok (c τ1 S) fun r S1 => if r = true then Ok (b τ1 S1) fun y S2 => acc.length < 100000 ∧ I (i + 1) (acc ++ [y]) S2 else I (i + 1) acc S1)
    (hq : ∀ acc S, I ts.length acc S → Q acc S) : Ok (mLcGo ⟨ts, []⟩ p c b τ ts [] S) Q :=
  ok_lcGo I (fun _ _ S _ => chk_nil ts S) ts 0 [] S (fun i t acc S e q => by rw [Nat.zero_add] at q ⊢; exact hs i t acc S e q) (fun acc S q => hq acc S (by rw [Nat.zero_add] at q; exact q)) h0
/-- tests that hold of some items, an element that is a function of the item -/
theorem lc_pure {ts0 : List T} {p : Pat} {c : Env → Sto → R Bool} {b : Env → Sto → R T} {τ : Env} {S : Sto} (f : T → Bool) (g : T → T) : ∀ (ts acc : List T), acc.length + ts.length ≤ 100000 →
    (∀ t ∈ ts, ∃ τ1, bindP p t τ = some τ1 ∧ c τ1 S = .ok (f t) S ∧ (f t = true → b τ1 S = .ok (g t) S)) → mLcGo ⟨ts0, []⟩ p c b τ ts acc S = .ok (acc ++ (ts.filter f).map g) S
  | [], acc, _, _ => by rw [mLcGo, ifP_t (chk_nil _ _)]; simp
  | t :: ts, acc, hl, hs => by
    obtain ⟨τ1, h1, h2, h3⟩ := hs t List.mem_cons_self
    rw [List.length_cons] at hl
    rw [mLcGo, ifP_t (chk_nil _ _), bound, h1]
    dsimp only
    rw [h2, ev_noErr, ev_ok]
    cases hf : f t with
    | true =>
      rw [if_pos rfl, h3 hf, ev_noErr, ev_ok, if_pos (by omega), lc_pure f g ts (acc ++ [g t]) (by simp; omega) fun t m => hs t (List.mem_cons_of_mem _ m)]
      simp [hf]
    | false =>
      rw [if_neg Bool.false_ne_true, lc_pure f g ts acc (by omega) fun t m => hs t (List.mem_cons_of_mem _ m)]
      simp [hf]
theorem lc_map {ts0 : List T} {p : Pat} {b : Env → Sto → R T} {τ : Env} {S : Sto} (g : T → T) (ts : List T) (hl : ts.length ≤ 100000)
    (hs : ∀ t ∈ ts, ∃ τ1, bindP p t τ = some τ1 ∧ b τ1 S = .ok (g t) S) : mLcGo ⟨ts0, []⟩ p mTrue b τ ts [] S = .ok (ts.map g) S := by
  rw [lc_pure (fun _ => true) g ts [] (by simpa using hl) fun t m => by
    obtain ⟨τ1, h1, h2⟩ := hs t m
    exact ⟨τ1, h1, rfl, fun _ => h2⟩]
  rw [List.filter_eq_self.mpr (fun _ _ => rfl), List.nil_append]
theorem rangeT_at {lo : Int} {n i : Nat} {t : T} (h : (rangeT lo n)[i]? = some t) : i < n ∧ t = .int (lo + i) := by
  unfold rangeT at h
  rw [List.getElem?_map] at h
  obtain ⟨c, hc, rfl⟩ := Option.map_eq_some_iff.mp h
  obtain ⟨hi, hci⟩ := List.getElem?_eq_some_iff.mp hc
  rw [List.getElem_range] at hci
  rw [List.length_range] at hi
  exact ⟨hi, by rw [hci]⟩
@[simp] theorem rangeT_length (lo : Int) (n : Nat) : (rangeT lo n).length = n := by simp [rangeT]
@[simp] theorem bindP_nm (i : Nat) (t : T) (τ : Env) : bindP (.nm i) t τ = some (τ.set i (some t)) := by rw [bindP]
theorem range1_ev (j : Int) (S : Sto) (h : -4611686018427387904 ≤ j ∧ j < 4611686018427387904) : fRange1 [.int j] S = .ok ⟨rangeT 0 j.toNat, []⟩ S := by
  show (if (decide (-(2 ^ 62) ≤ j) && decide (j < 2 ^ 62)) = true then R.ok (⟨rangeT 0 j.toNat, []⟩ : Its) S else .bad) = _
  rw [if_pos (by simp only [Bool.and_eq_true, decide_eq_true_eq]; omega)]
end Fx
namespace Fx
open PySem PySem.Spec PyProof.Rows L2
/-! ### two fors in one comprehension -/
noncomputable def mLc2Go (it : Its) (p : Pat) (c : Env → Sto → R Bool) (m1 : Env → Sto → R Its) (p1 : Pat) (c1 : Env → Sto → R Bool) (b : Env → Sto → R T) (vs1 : List Nat) (τ : Env) : List T → List T → Sto → R (List T)
  | [], acc, S => ifP (it.chk S) (.ok acc S) .bad
  | t :: ts, acc, S => ifP (it.chk S) (bound p t τ fun τ1 => (noErr (c τ1 S)).bind fun k S1 => if k = true then (noErr (m1 τ1 S1)).bind fun it1 S2 => (mLcGo it1 p1 c1 b (wipeT τ1 vs1) it1.ts acc S2).bind fun acc2 S3 => mLc2Go it p c m1 p1 c1 b vs1 τ ts acc2 S3 else mLc2Go it p c m1 p1 c1 b vs1 τ ts acc S1) .bad
noncomputable def mLc2 (fz : Bool) (vs vs1 : List Nat) (m : Env → Sto → R Its) (p : Pat) (c : Env → Sto → R Bool) (m1 : Env → Sto → R Its) (p1 : Pat) (c1 : Env → Sto → R Bool) (b : Env → Sto → R T) : Env → Sto → R T := fun τ S => (m τ S).bind fun it S1 => (mLc2Go it p c m1 p1 c1 b vs1 (wipeT τ vs) it.ts [] S1).bind fun acc S2 => newL fz acc S2
theorem ExtW.set {K : PySem.W.Frag} {ρ ρ' : Wd} {H H' : Hp} {D : Addr} {o : HO} (e : ExtW ρ H ρ' H') (hD : D ∈ ρ.av) : ExtW ρ H ρ' (upd H' D o) := ⟨e.pre, e.fresh, fun a u h n => by
  rw [upd_ne (show a ≠ D from fun z => n (by rw [z]; exact hD))]
  exact e.keep a u h n⟩
theorem REnv.grow {K : PySem.W.Frag} {ρ : Wd} {H : Hp} {σ : L2.St} {τ : Env} {D : Addr} {o : HO} (h : REnv K ρ H σ τ) (hD : D ∈ ρ.out) : REnv K ρ (upd H D o) σ τ := ⟨h.len, fun i t q => by
  obtain ⟨v, h1, h2⟩ := h.at_ i t q
  exact ⟨v, h1, h2.grow hD⟩⟩
theorem lc2_fn {K : PySem.W.Frag} {E : XK} {fz : Bool} {σ : L2.St} {ρ1 : Wd} {H1 : Hp} {S1 : Sto} {τ : Env} {it : Its} {J : It} {D : Addr} {Q : VK} {p p1 : Pat} {c c1 : Env → Sto → R Bool} {m1 : Env → Sto → R Its} {b : Env → Sto → R T} (own : List (Str × Nat)) (vs1 : List Nat) (hsl : p.slots.all (fun j => (own.map (·.2)).contains j) = true) (hsl1 : p1.slots.all (fun j => vs1.contains j) = true) (hD : H1 D = none) (s1 : Sta K ρ1 H1 S1) (e1 : REnv K ρ1 H1 σ τ)
    (h : Post K E ρ1 H1 ((mLc2Go it p c m1 p1 c1 b vs1 (wipeT τ (own.map (·.2))) it.ts [] S1).bind fun acc S2 => newL fz acc S2) (QE K Q)) (wm : WalkM K J ρ1 H1 it) :
    ∃ W : Nat → Nat → Hp → Prop, (∃ m, W 0 m (upd H1 D (.lst []))) ∧ ∀ i m H, W i m H →
      (J.stop i H ∧ Q (.ref D) H) ∨ (J.go i H ∧ ∃ Nx : Hp → Prop, (∀ H', Nx H' → ∃ m', m' < m ∧ W (i + 1) m' H') ∧ ∀ x H', J.yld i H x H' → tG K p x (L2.wipe σ (own.map (·.2))) H' fun σ2 H2 => L2.wipe σ2 (own.map (·.2)) = L2.wipe σ (own.map (·.2)) ∧ tB K E0 c σ2 H2 fun k H3 =>
        if k = true then tI K E0 m1 σ2 H3 fun J1 H4 => ∃ W1 : Nat → Nat → Hp → Prop, (∃ m, W1 0 m H4) ∧ ∀ j k H, W1 j k H →
          (J1.stop j H ∧ Nx H) ∨ (J1.go j H ∧ ∃ Nx1 : Hp → Prop, (∀ H', Nx1 H' → ∃ k', k' < k ∧ W1 (j + 1) k' H') ∧ ∀ x H', J1.yld j H x H' → tG K p1 x (L2.wipe σ2 vs1) H' fun σ3 H5 => L2.wipe σ3 vs1 = L2.wipe σ2 vs1 ∧ tB K E0 c1 σ3 H5 fun b1 H6 =>
            if b1 = true then tM K E0 b σ3 H6 fun y H7 => ∃ acc, H7 D = some (.lst acc) ∧ acc.length < sizeLine ∧ Nx1 (upd H7 D (.lst (acc ++ [y]))) else Nx1 H6)
        else Nx H3) := by
  generalize hvs : own.map (·.2) = vs at *
  have hn1 := s1.new hD
  refine ⟨fun i n H => ∃ ρ S rest acc us, Ext ρ1 H1 ρ H ∧ Sta K ρ H S ∧ D ∈ ρ.out ∧ H D = some (.lst us) ∧ Reps K ρ H us acc ∧ i ≤ it.ts.length ∧ it.ts.drop i = rest ∧ n = rest.length ∧ Post K E ρ1 H1 ((mLc2Go it p c m1 p1 c1 b vs1 (wipeT τ vs) rest acc S).bind fun acc S2 => newL fz acc S2) (QE K Q),
    ⟨_, ρ1.plus D, S1, _, [], [], Ext.plus hD hn1, s1.plus hD, List.mem_cons_self, upd_same, .nil, Nat.zero_le _, rfl, rfl, h⟩, fun i n H hW => ?_⟩
  obtain ⟨ρ, S, rest, acc, us, x1, s, hm, hd, ra, hil, hr, hn, q⟩ := hW
  cases rest with
  | nil =>
    unfold mLc2Go at q
    have q' : it.chk S ∧ Post K E ρ1 H1 (newL fz acc S) (QE K Q) := by
      by_cases ck : it.chk S
      · rw [ifP_t ck] at q; exact ⟨ck, q⟩
      · rw [ifP_f ck] at q; exact q.elim
    obtain ⟨w1, _⟩ := wm ρ H S x1.w s q'.1
    have ei : i = it.ts.length := Nat.le_antisymm hil (List.drop_eq_nil_iff.mp hr)
    rw [ei]
    exact .inl ⟨w1, give_lst hD hn1 hd x1 s hm ra q'.2⟩
  | cons t ts =>
    unfold mLc2Go at q
    by_cases ck : it.chk S
    case neg => rw [ifP_f ck] at q; exact q.elim
    rw [ifP_t ck] at q
    obtain ⟨_, w2⟩ := wm ρ H S x1.w s ck
    have hlt : i < it.ts.length := by
      refine Nat.lt_of_not_le fun z => ?_
      rw [List.drop_eq_nil_of_le z] at hr
      cases hr
    have hcons := List.drop_eq_getElem_cons hlt
    rw [hr] at hcons
    injection hcons with ht hts
    obtain ⟨go, yld⟩ := w2 i t (by rw [List.getElem?_eq_getElem hlt, ht])
    unfold Fx.bound at q
    split at q
    case h_2 => exact q.elim
    rename_i τ1 hb1
    refine .inr ⟨go, fun H' => ∃ ρ S acc us, Ext ρ1 H1 ρ H' ∧ Sta K ρ H' S ∧ D ∈ ρ.out ∧ H' D = some (.lst us) ∧ Reps K ρ H' us acc ∧ Post K E ρ1 H1 ((mLc2Go it p c m1 p1 c1 b vs1 (wipeT τ vs) ts acc S).bind fun acc S2 => newL fz acc S2) (QE K Q), fun H' hN => ?_, fun v H2 hy => ?_⟩
    · obtain ⟨ρ', S', acc', us', a1, a2, a3, a4, a5, a6⟩ := hN
      exact ⟨ts.length, by rw [hn]; exact Nat.lt_succ_self _, ρ', S', ts, acc', us', a1, a2, a3, a4, a5, hlt, hts.symm, rfl, a6⟩
    · obtain ⟨y1, y2, y3⟩ := yld v H2 hy
      have hoff : ∀ {ρ : Wd} {H : Hp} {S : Sto}, Sta K ρ H S → D ∈ ρ.out → D ∉ ρ.at_ := fun s m => s.off m
      have ew : REnv K ρ H2 (L2.wipe σ vs) (wipeT τ vs) := ((e1.ext x1).ext y1).wipe vs
      refine ⟨ρ, wipeT τ vs, t, τ1, ew, y3, hb1, fun σ3 e3 nr => ⟨near_wipe nr hsl, ρ, τ1, S, y2, e3, ?_⟩⟩
      refine Post.at0 (K := K) (E := E) (ρ := ρ1) (H := H1) (f := fun k S1 => (if k = true then (noErr (m1 τ1 S1)).bind fun it1 S2 => (mLcGo it1 p1 c1 b (wipeT τ1 vs1) it1.ts acc S2).bind fun acc2 S3 => mLc2Go it p c m1 p1 c1 b vs1 (wipeT τ vs) ts acc2 S3 else mLc2Go it p c m1 p1 c1 b vs1 (wipeT τ vs) ts acc S1).bind fun acc S2 => newL fz acc S2) (Q := QE K Q) ?_ (x1.trans y1) fun ρ4 H4 k S4 x4 s4 q4 => ?_
      · rw [← R.bind_assoc]; exact q
      · have d4 : H4 D = some (.lst us) := x4.keep _ _ (y1.keep _ _ hd (s.off hm)) (y2.off hm)
        have m4 : D ∈ ρ4.out := x4.out _ hm
        have xx := (x1.trans y1).trans x4
        cases k with
        | false => exact ⟨ρ4, S4, acc, us, xx, s4, m4, d4, (ra.ext y1).ext x4, q4⟩
        | true =>
          refine ⟨ρ4, τ1, S4, s4, e3.ext x4, ?_⟩
          refine Post.at0 (K := K) (E := E) (ρ := ρ1) (H := H1) (f := fun it1 S2 => ((mLcGo it1 p1 c1 b (wipeT τ1 vs1) it1.ts acc S2).bind fun acc2 S3 => mLc2Go it p c m1 p1 c1 b vs1 (wipeT τ vs) ts acc2 S3).bind fun acc S2 => newL fz acc S2) (Q := QE K Q) ?_ xx fun ρ5 H5 it1 S5 x5 s5 q5 J1 wm1 => ?_
          · rw [← R.bind_assoc]; exact q4
          have d5 : H5 D = some (.lst us) := x5.keep _ _ d4 (s4.off m4)
          have m5 : D ∈ ρ5.out := x5.out _ m4
          have r5 := ((ra.ext y1).ext x4).ext x5
          have xx5 := xx.trans x5
          have e5 : REnv K ρ5 H5 σ3 τ1 := (e3.ext x4).ext x5
          -- the second loop
          refine ⟨fun j n H => ∃ ρ S rest acc us, Ext ρ1 H1 ρ H ∧ ExtW ρ5 H5 ρ H ∧ REnv K ρ H σ3 τ1 ∧ Sta K ρ H S ∧ D ∈ ρ.out ∧ H D = some (.lst us) ∧ Reps K ρ H us acc ∧ j ≤ it1.ts.length ∧ it1.ts.drop j = rest ∧ n = rest.length ∧ Post K E ρ1 H1 (((mLcGo it1 p1 c1 b (wipeT τ1 vs1) rest acc S).bind fun acc2 S3 => mLc2Go it p c m1 p1 c1 b vs1 (wipeT τ vs) ts acc2 S3).bind fun acc S2 => newL fz acc S2) (QE K Q),
            ⟨_, ρ5, S5, _, acc, us, xx5, ExtW.refl _ _, e5, s5, m5, d5, r5, Nat.zero_le _, rfl, rfl, q5⟩, fun j n H hW => ?_⟩
          obtain ⟨ρ, S, rest, acc, us, x1, xw, er, s, hm, hd, ra, hil, hr, hn, q⟩ := hW
          cases rest with
          | nil =>
            unfold mLcGo at q
            by_cases ck : it1.chk S
            case neg => rw [ifP_f ck] at q; exact q.elim
            rw [ifP_t ck] at q
            obtain ⟨w1, _⟩ := wm1 ρ H S xw s ck
            have ei : j = it1.ts.length := Nat.le_antisymm hil (List.drop_eq_nil_iff.mp hr)
            rw [ei]
            exact .inl ⟨w1, ρ, S, acc, us, x1, s, hm, hd, ra, q⟩
          | cons t1 ts1 =>
            unfold mLcGo at q
            by_cases ck : it1.chk S
            case neg => rw [ifP_f ck] at q; exact q.elim
            rw [ifP_t ck] at q
            obtain ⟨_, w2⟩ := wm1 ρ H S xw s ck
            have hlt1 : j < it1.ts.length := by
              refine Nat.lt_of_not_le fun z => ?_
              rw [List.drop_eq_nil_of_le z] at hr
              cases hr
            have hcons := List.drop_eq_getElem_cons hlt1
            rw [hr] at hcons
            injection hcons with ht1 hts1
            obtain ⟨go1, yld1⟩ := w2 j t1 (by rw [List.getElem?_eq_getElem hlt1, ht1])
            unfold Fx.bound at q
            split at q
            case h_2 => exact q.elim
            rename_i τ2 hb2
            refine .inr ⟨go1, fun H' => ∃ ρ S acc us, Ext ρ1 H1 ρ H' ∧ ExtW ρ5 H5 ρ H' ∧ REnv K ρ H' σ3 τ1 ∧ Sta K ρ H' S ∧ D ∈ ρ.out ∧ H' D = some (.lst us) ∧ Reps K ρ H' us acc ∧ Post K E ρ1 H1 (((mLcGo it1 p1 c1 b (wipeT τ1 vs1) ts1 acc S).bind fun acc2 S3 => mLc2Go it p c m1 p1 c1 b vs1 (wipeT τ vs) ts acc2 S3).bind fun acc S2 => newL fz acc S2) (QE K Q), fun H' hN => ?_, fun v H6 hy => ?_⟩
            · obtain ⟨ρ', S', acc', us', a1, a2, a3, a4, a5, a6, a7, a8⟩ := hN
              exact ⟨ts1.length, by rw [hn]; exact Nat.lt_succ_self _, ρ', S', ts1, acc', us', a1, a2, a3, a4, a5, a6, a7, hlt1, hts1.symm, rfl, a8⟩
            · obtain ⟨y1, y2, y3⟩ := yld1 v H6 hy
              have ew : REnv K ρ H6 (L2.wipe σ3 vs1) (wipeT τ1 vs1) := (er.ext y1).wipe vs1
              refine ⟨ρ, wipeT τ1 vs1, t1, τ2, ew, y3, hb2, fun σ4 e4 nr => ⟨near_wipe nr hsl1, ρ, τ2, S, y2, e4, ?_⟩⟩
              refine Post.at0 (K := K) (E := E) (ρ := ρ1) (H := H1) (f := fun k S1 => ((if k = true then (noErr (b τ2 S1)).bind fun y S2 => if acc.length < 100000 then mLcGo it1 p1 c1 b (wipeT τ1 vs1) ts1 (acc ++ [y]) S2 else .bad else mLcGo it1 p1 c1 b (wipeT τ1 vs1) ts1 acc S1).bind fun acc2 S3 => mLc2Go it p c m1 p1 c1 b vs1 (wipeT τ vs) ts acc2 S3).bind fun acc S2 => newL fz acc S2) (Q := QE K Q) ?_ (x1.trans y1) fun ρ7 H7 k S7 x7 s7 q7 => ?_
              · rw [← R.bind_assoc, ← R.bind_assoc]; exact q
              · have d7 : H7 D = some (.lst us) := x7.keep _ _ (y1.keep _ _ hd (s.off hm)) (y2.off hm)
                have m7 : D ∈ ρ7.out := x7.out _ hm
                have xx7 := (x1.trans y1).trans x7
                have xw7 := xw.trans (y1.trans x7).w
                cases k with
                | false => exact ⟨ρ7, S7, acc, us, xx7, xw7, (er.ext y1).ext x7, s7, m7, d7, (ra.ext y1).ext x7, q7⟩
                | true =>
                  refine ⟨ρ7, τ2, S7, s7, e4.ext x7, ?_⟩
                  refine Post.at0 (K := K) (E := E) (ρ := ρ1) (H := H1) (f := fun y S2 => ((if acc.length < 100000 then mLcGo it1 p1 c1 b (wipeT τ1 vs1) ts1 (acc ++ [y]) S2 else .bad).bind fun acc2 S3 => mLc2Go it p c m1 p1 c1 b vs1 (wipeT τ vs) ts acc2 S3).bind fun acc S2 => newL fz acc S2) (Q := QE K Q) ?_ xx7 fun ρ8 H8 y S8 x8 s8 q8 w rw' => ?_
                  · rw [← R.bind_assoc, ← R.bind_assoc]; exact q7
                  · have d8 : H8 D = some (.lst us) := x8.keep _ _ d7 (s7.off m7)
                    have m8 : D ∈ ρ8.out := x8.out _ m7
                    have r8 := ((ra.ext y1).ext x7).ext x8
                    by_cases hl : acc.length < 100000
                    · rw [if_pos hl] at q8
                      exact ⟨us, d8, by rw [ra.length]; exact sz_lt5 hl, ρ8, S8, acc ++ [y], us ++ [w], (xx7.trans x8).grow hD, (xw7.trans x8.w).set (K := K) (List.mem_append_right _ m5), (((er.ext y1).ext x7).ext x8).grow m8, s8.grow m8, m8, upd_same, (r8.append (.cons rw' .nil)).grow m8, q8⟩
                    · rw [if_neg hl] at q8
                      exact q8.elim
section
variable {X : Cx} {E : XK}
theorem x_lc2 (fz : Bool) {elt tg iter tg1 iter1 : Expr} {ifs ifs1 : List Expr} {scope : Scope} {own : List (Str × Nat)} {vs1 : List Nat} {pos : Pos} {m m1 : Env → Sto → R Its} {p p1 : Pat} {c c1 : Env → Sto → R Bool} {b : Env → Sto → R T} (hc : X.calm = true) (hN : X.N.Nodup) (hi : PI X tg iter (tI X.K E m)) (ok : BlkOk X.N X.env.scope scope own) (hv : ∀ i ∈ vs1, i ∈ own.map (·.2))
    (hsl : p.slots.all (fun j => (own.map (·.2)).contains j) = true) (hsl1 : p1.slots.all (fun j => vs1.contains j) = true)
    (hg : ∀ (s : Shared) (H : Hp) (C : Addr) (cl : List (Str × Addr)) (fp : List Addr), PG (X.blk s H scope (compEnvC scope cl C X.env) fp) tg (tG X.K p)) (ht : ∀ (s : Shared) (H : Hp) (C : Addr) (cl : List (Str × Addr)) (fp : List Addr), PTs (X.blk s H scope (compEnvC scope cl C X.env) fp) ifs (tB X.K E0 c))
    (hi1 : ∀ (s : Shared) (H : Hp) (C : Addr) (cl : List (Str × Addr)) (fp : List Addr), PI (X.blk s H scope (compEnvC scope cl C X.env) fp) tg1 iter1 (tI X.K E0 m1))
    (hg1 : ∀ (s : Shared) (H : Hp) (C : Addr) (cl : List (Str × Addr)) (fp : List Addr), PG (X.blk s H scope (compEnvC scope cl C X.env) fp) tg1 (tG X.K p1)) (ht1 : ∀ (s : Shared) (H : Hp) (C : Addr) (cl : List (Str × Addr)) (fp : List Addr), PTs (X.blk s H scope (compEnvC scope cl C X.env) fp) ifs1 (tB X.K E0 c1))
    (he : ∀ (s : Shared) (H : Hp) (C : Addr) (cl : List (Str × Addr)) (fp : List Addr), PE (X.blk s H scope (compEnvC scope cl C X.env) fp) elt (tM X.K E0 b)) (hs : ∀ x, foldedSetIterable iter X.env x = pure x := by intro _; rfl) (hs1 : ∀ env x, foldedSetIterable iter1 env x = pure x := by intro _ _; rfl) :
    PE X (.ListComp elt [⟨tg, iter, ifs, 0⟩, ⟨tg1, iter1, ifs1, 0⟩] scope pos) (tM X.K E (mLc2 fz (own.map (·.2)) vs1 m p c m1 p1 c1 b)) :=
  PE.of (pe_lc2 hc hN hi ok hv hg ht hi1 hg1 ht1 he hs hs1) fun σ H Q ⟨ρ, τ, S, s, e, h⟩ => ⟨ρ, τ, S, s, e, h.step fun ρ1 H1 it S1 e1 s1 h1 J wm D hD => lc2_fn own vs1 hsl hsl1 hD s1 (e.ext e1) h1 wm⟩
theorem s_setLc2 (fz : Bool) {i : Nat} {y : Str} {py : Pos} {elt tg iter tg1 iter1 : Expr} {ifs ifs1 : List Expr} {scope : Scope} {own : List (Str × Nat)} {vs1 : List Nat} {pos spos : Pos} {m m1 : Env → Sto → R Its} {p p1 : Pat} {c c1 : Env → Sto → R Bool} {b : Env → Sto → R T} (hc : X.calm = true) (hN : X.N.Nodup) (hy : X.N[i]? = some y) (hyl : X.env.scope.names.lookup y = some .local)
    (hsw : swapsWith (.ListComp elt [⟨tg, iter, ifs, 0⟩, ⟨tg1, iter1, ifs1, 0⟩] scope pos) (some (.Name y py)) spos.line X.env = pure true) (hi : PI X tg iter (tI X.K E m)) (ok : BlkOk X.N X.env.scope scope own) (hv : ∀ i ∈ vs1, i ∈ own.map (·.2))
    (hsl : p.slots.all (fun j => (own.map (·.2)).contains j) = true) (hsl1 : p1.slots.all (fun j => vs1.contains j) = true)
    (hg : ∀ (s : Shared) (H : Hp) (C : Addr) (cl : List (Str × Addr)) (fp : List Addr), PG (X.blk s H scope (compEnvC scope cl C X.env) fp) tg (tG X.K p)) (ht : ∀ (s : Shared) (H : Hp) (C : Addr) (cl : List (Str × Addr)) (fp : List Addr), PTs (X.blk s H scope (compEnvC scope cl C X.env) fp) ifs (tB X.K E0 c))
    (hi1 : ∀ (s : Shared) (H : Hp) (C : Addr) (cl : List (Str × Addr)) (fp : List Addr), PI (X.blk s H scope (compEnvC scope cl C X.env) fp) tg1 iter1 (tI X.K E0 m1))
    (hg1 : ∀ (s : Shared) (H : Hp) (C : Addr) (cl : List (Str × Addr)) (fp : List Addr), PG (X.blk s H scope (compEnvC scope cl C X.env) fp) tg1 (tG X.K p1)) (ht1 : ∀ (s : Shared) (H : Hp) (C : Addr) (cl : List (Str × Addr)) (fp : List Addr), PTs (X.blk s H scope (compEnvC scope cl C X.env) fp) ifs1 (tB X.K E0 c1))
    (he : ∀ (s : Shared) (H : Hp) (C : Addr) (cl : List (Str × Addr)) (fp : List Addr), PE (X.blk s H scope (compEnvC scope cl C X.env) fp) elt (tM X.K E0 b)) (hs : ∀ x, foldedSetIterable iter X.env x = pure x := by intro _; rfl) (hs1 : ∀ env x, foldedSetIterable iter1 env x = pure x := by intro _ _; rfl) :
    PS X (.Assign [.Name y py] (.ListComp elt [⟨tg, iter, ifs, 0⟩, ⟨tg1, iter1, ifs1, 0⟩] scope pos) spos) (tS X.K E (sSet i (mLc2 fz (own.map (·.2)) vs1 m p c m1 p1 c1 b))) :=
  PS.of (ps_setLc2 hc hN hy hyl hsw hi ok hv hg ht hi1 hg1 ht1 he hs hs1) fun D σ H ⟨ρ, τ, S, s, e, h⟩ => ⟨ρ, τ, S, s, e, by
    have h : Post X.K E ρ H ((mLc2 fz (own.map (·.2)) vs1 m p c m1 p1 c1 b τ S).bind fun x S1 => R.ok (Fl.nx (τ.set i (some x))) S1) (QS X.K D) := h
    have h : Post X.K E ρ H (((m τ S).bind fun it S1 => (mLc2Go it p c m1 p1 c1 b vs1 (wipeT τ (own.map (·.2))) it.ts [] S1).bind fun acc S2 => newL fz acc S2).bind fun x S1 => R.ok (Fl.nx (τ.set i (some x))) S1) (QS X.K D) := h
    rw [R.bind_assoc] at h
    exact h.step fun ρ1 H1 it S1 e1 s1 h1 J wm D' hD => lc2_fn (E := E) (fz := fz) own vs1 hsl hsl1 hD s1 (e.ext e1) (Q := fun x H => D.nx (σ.set i (some x)) H) (h1.step fun ρ2 H2 x S2 e2 s2 q v rv => q.ok s2 _ (((e.ext e1).ext e2).set i rv)) wm⟩
end
@[simp] theorem ev_lc2 (fz vs vs1 m p c m1 p1 c1 b) (τ : Env) (S : Sto) : mLc2 fz vs vs1 m p c m1 p1 c1 b τ S = (m τ S).bind fun it S1 => (mLc2Go it p c m1 p1 c1 b vs1 (wipeT τ vs) it.ts [] S1).bind fun acc S2 => newL fz acc S2 := id rfl
end Fx
namespace Fx
open PySem PySem.Spec PyProof.Rows L2
/-! ### a module's constants -/
/-- what a constant stands for, wherever it is read -/
def GC (K : PySem.W.Frag) (mg : Str → Option Value) (x : Str) (t : T) : Prop := ∃ (v : V) (u : Value), mg x = some u ∧ RelV v u ∧ ∀ ρ H, Rep K ρ H v t
section
variable {X : Cx} {E : XK}
theorem x_glob {x : Str} {t : T} {pos : Pos} (hg : Gl X x) (h : GC X.K X.mg x t) (hd : (x == ("__debug__" : Str)) = false := by decide) : PE X (.Name x pos) (tM X.K E (mC t)) := by
  obtain ⟨v, u, hm, r, rp⟩ := h
  exact x_con rp (pe_glob hg hm r hd)
end
section
variable {K : PySem.W.Frag} {h : Heap} {mg : Str → Option Value}
theorem gc_str {x z : Str} {k} (X : K.In h) (G : h.Ns mainGlobals mg) (e : PySem.W.nsIn K mainGlobals x = some (some (.str z k))) : GC K mg x (.str z) := ⟨.str z, _, PySem.W.mg_of X G e, ⟨_, rfl⟩, fun _ _ => .str z⟩
theorem gc_int {x : Str} {i : Int} {k} (X : K.In h) (G : h.Ns mainGlobals mg) (e : PySem.W.nsIn K mainGlobals x = some (some (.int i k))) : GC K mg x (.int i) := ⟨.int i, _, PySem.W.mg_of X G e, ⟨_, rfl⟩, fun _ _ => .int i⟩
/-- a value of the text alone: numbers, texts -/
def flatR : Value → T → Bool
  | .none, .non => true
  | .bool b, .bl c => b == c
  | .int i _, .int j => decide (i = j)
  | .str x _, .str y => decide (x = y)
  | _, _ => false
def vOf : T → V
  | .bl b => .bl b
  | .int i => .int i
  | .str x => .str x
  | _ => .non
theorem flatR_ok {u : Value} {t : T} (h : flatR u t = true) : RelV (vOf t) u ∧ ∀ ρ H, Rep K ρ H (vOf t) t := by
  unfold flatR at h
  split at h
  · exact ⟨rfl, fun _ _ => .non⟩
  · rw [beq_iff_eq] at h
    exact ⟨congrArg _ h, fun _ _ => .bl _⟩
  · exact ⟨⟨_, congrArg (Value.int · _) (of_decide_eq_true h)⟩, fun _ _ => .int _⟩
  · exact ⟨⟨_, congrArg (Value.str · _) (of_decide_eq_true h)⟩, fun _ _ => .str _⟩
  · cases h
def flatRs : List Value → List T → Bool
  | [], [] => true
  | u :: us, t :: ts => flatR u t && flatRs us ts
  | _, _ => false
theorem flatRs_ok : ∀ {us : List Value} {ts : List T}, flatRs us ts = true → Vals (ts.map vOf) us ∧ ∀ ρ H, Reps K ρ H (ts.map vOf) ts
  | [], [], _ => ⟨.nil, fun _ _ => .nil⟩
  | u :: us, t :: ts, h => by
    unfold flatRs at h
    rw [Bool.and_eq_true] at h
    obtain ⟨a, b⟩ := flatR_ok (K := K) h.1
    obtain ⟨c, d⟩ := flatRs_ok h.2
    exact ⟨.cons a c, fun ρ H => .cons (b ρ H) (d ρ H)⟩
theorem gc_tup {x : Str} {f : Addr} {its : Array Value} {n : Nat} {sl : Array (Option Value)} {ts : List T} (X : K.In h) (G : h.Ns mainGlobals mg) (e : PySem.W.nsIn K mainGlobals x = some (some (.ref f))) (l : K.lookup f = some ⟨.type "tuple", none, .seq its n, sl⟩)
    (c : (decide (its.size ≤ 100000) && flatRs its.toList ts) = true) : GC K mg x (.tup ts) := by
  rw [Bool.and_eq_true] at c
  obtain ⟨r, p⟩ := flatRs_ok (K := K) c.2
  refine ⟨.ref f, _, PySem.W.mg_of X G e, rfl, fun ρ H => .tup (.inr ⟨_, its, n, l, ⟨rfl, rfl⟩, rfl, ?_, r⟩) (p ρ H)⟩
  exact Nat.le_trans (of_decide_eq_true c.1) (by decide)
end
/-! ### tuple(reversed(x)) of a list -/
def fTupRev (t : T) (S : Sto) : R T := match lstOf S t with
  | some ts => .ok (.tup ts.reverse) S
  | none => .bad
theorem x_tupRev {X : Cx} {E : XK} {e : Expr} {m : Env → Sto → R T} {p p2 pos pos2 : Pos} (hc : X.calm = true) (hg : Gl X "tuple") (hm : X.mg "tuple" = none) (hg2 : Gl X "reversed") (hm2 : X.mg "reversed" = none) (he : PE X e (tM X.K E m))
    (hs : starEach [e] X.env = (false, eval e X.env) :: starEach [] X.env := by rfl)
    (hs2 : starEach [.Call (.Name "reversed" p2) [e] [] pos2] X.env = (false, eval (.Call (.Name "reversed" p2) [e] [] pos2) X.env) :: starEach [] X.env := by rfl) :
    PE X (.Call (.Name "tuple" p) [.Call (.Name "reversed" p2) [e] [] pos2] [] pos) (tM X.K E (mUn fTupRev m)) :=
  PE.of (pe_tupRevN hc hg hm hg2 hm2 he hs hs2) fun σ H Q ⟨ρ, τ, S, s, en, q⟩ => ⟨ρ, τ, S, s, en, q.step fun ρ1 H1 t S1 e1 s1 h1 v rv => by
    unfold fTupRev at h1
    split at h1
    · rename_i ts hts
      obtain ⟨a, xs, rfl, hx, rx⟩ := lstOf_at s1 rv hts
      exact ⟨a, xs, rfl, hx, new_tup s1 rx.reverse h1⟩
    · exact h1.elim⟩
@[simp] theorem ev_tupRev (ts : List T) (S : Sto) : fTupRev (.lst ts) S = .ok (.tup ts.reverse) S := id rfl
/-! ### a text again and again -/
def strRep (x : Str) (n : Nat) : Str := ⟨(List.replicate n x.cps).foldl (· ++ ·) #[]⟩
theorem foldl_reps (a : Array Nat) : ∀ (n : Nat) (acc : Array Nat), (List.replicate n a).foldl (· ++ ·) acc = acc ++ (List.replicate n a.toList).flatten.toArray
  | 0, acc => by simp
  | n + 1, acc => by
    rw [List.replicate_succ, List.foldl_cons, foldl_reps a n, List.replicate_succ, List.flatten_cons]
    apply Array.ext'
    simp
theorem strRep_cps (x : Str) (n : Nat) : (strRep x n).cps.toList = (List.replicate n x.cps.toList).flatten := by
  unfold strRep
  rw [foldl_reps]
  simp
theorem strRep_len (x : Str) (n : Nat) : (strRep x n).length = n * x.length := by
  show (strRep x n).cps.size = n * x.cps.size
  rw [← Array.length_toList, strRep_cps]
  simp
theorem str_ext {a b : Str} (h : a.cps.toList = b.cps.toList) : a = b := by
  cases a
  cases b
  congr 1
  exact Array.ext' h
def fMulS (x y : T) (S : Sto) : R T := match x, y with
  | .str a, .int n => if 0 ≤ n ∧ n ≤ 1000000 ∧ a.length * n.toNat ≤ 1000000 then .ok (.str (strRep a n.toNat)) S else .bad
  | x, y => fMul x y S
def rMulS : R2 := fun x y H Q => ∃ a n, x = .str a ∧ y = .int n ∧ (0 ≤ n ∧ n ≤ 1000000 ∧ a.length * n.toNat ≤ 1000000) ∧ Q (.str (strRep a n.toNat)) H
theorem op_mulStr {X : Cx} : OpR X (binaryOp .Mult) rMulS := by
  intro pins s σ H x y v u Q I rx ry h
  obtain ⟨a, n, rfl, rfl, ⟨h0, h1, h2⟩, q⟩ := h
  obtain ⟨t, rfl⟩ := rx
  obtain ⟨t', rfl⟩ := ry
  refine PySem.P.mul_str ?_ ?_ ?_ ?_
  · rw [decide_eq_false (by omega), decide_eq_false (by omega)]
    rfl
  · intro h3 _ h4
    have e2 : (1000000 : Int) ≤ (2 ^ 63 - 1) / n := by
      have : n * 1000000 ≤ 2 ^ 63 - 1 := by omega
      exact (Int.le_ediv_iff_mul_le (by omega)).mpr (by omega)
    have e3 : a.length ≤ 1000000 := by
      have : a.length * 1 ≤ a.length * n.toNat := Nat.mul_le_mul_left _ (by omega)
      omega
    omega
  · intro _ _
    unfold Builtin.Str.tooLong
    exact decide_eq_false (by
      have : sizeLine = 16777216 := by decide
      omega)
  · split
    · rename_i c
      have : n.toNat = 0 := by omega
      rw [this] at q
      exact ⟨by decide, .str Str.empty, H, I.tok _, ⟨_, rfl⟩, q⟩
    · split
      · rename_i c
        refine ⟨.str a, H, I, ⟨_, rfl⟩, ?_⟩
        have e : strRep a n.toNat = a := by
          apply str_ext
          rw [strRep_cps]
          rw [Bool.or_eq_true, beq_iff_eq, beq_iff_eq] at c
          rcases c with rfl | c
          · simp
          · have : a.cps.toList = [] := by
              apply List.eq_nil_of_length_eq_zero
              rw [Array.length_toList]
              exact c
            rw [this]
            simp
        rw [e] at q
        exact q
      · refine ⟨?_, .str (strRep a n.toNat), H, I.tok _, ⟨_, rfl⟩, q⟩
        have := strRep_len a n.toNat
        unfold strRep at this
        rw [this, Nat.mul_comm]
        exact Nat.le_trans h2 (by decide)
theorem f_mulS {X : Cx} {E : XK} : Op2 X.K E (rOr rMulS (rI CMul fun i j => .int (i * j))) fMulS := by
  intro ρ H S v w x y Q s rv rw' h
  unfold fMulS at h
  split at h
  · rename_i a n
    split at h
    · rename_i hc
      exact .inl ⟨a, n, rep_str rv, rep_int rw', hc, h.ok s _ (.str _)⟩
    · exact h.elim
  · exact .inr (f_mul ρ H S v w _ _ Q s rv rw' h)
theorem o_mulS {X : Cx} : OpR X (binaryOp .Mult) (rOr rMulS (rI CMul fun i j => .int (i * j))) := op_mulStr.or op_mul
theorem ev_mulS (a : Str) (n : Int) (S : Sto) : fMulS (.str a) (.int n) S = if 0 ≤ n ∧ n ≤ 1000000 ∧ a.length * n.toNat ≤ 1000000 then .ok (.str (strRep a n.toNat)) S else .bad := id rfl
/-! ### signs -/
def fTxtB (f : Str → Bool) (x : T) (ts : List T) (S : Sto) : R T := match x, ts with
  | .str a, [] => .ok (.bl (f a)) S
  | _, _ => .bad
theorem f_txtB (f : Str → Bool) {X : Cx} {E : XK} : OpM X.K E (fun x xs H Q => ∃ a, x = .str a ∧ xs = [] ∧ True ∧ Q (.bl (f a)) H) (fTxtB f) := by
  intro ρ H S v x vs ts Q s rv rs h
  unfold fTxtB at h
  split at h
  · exact ⟨_, rep_str rv, rs.none, trivial, h.ok s _ (.bl _)⟩
  · exact h.elim
def fIsalpha := fTxtB Txt.isalpha
def fIsdigit := fTxtB Txt.isdigit
theorem f_isalpha {X : Cx} {E : XK} : OpM X.K E (fun x xs H Q => ∃ a, x = .str a ∧ xs = [] ∧ True ∧ Q (.bl (Txt.isalpha a)) H) fIsalpha := f_txtB _
theorem f_isdigit {X : Cx} {E : XK} : OpM X.K E (fun x xs H Q => ∃ a, x = .str a ∧ xs = [] ∧ True ∧ Q (.bl (Txt.isdigit a)) H) fIsdigit := f_txtB _
theorem ev_isalpha (a : Str) (S : Sto) : fIsalpha (.str a) [] S = .ok (.bl (Txt.isalpha a)) S := id rfl
theorem ev_isdigit (a : Str) (S : Sto) : fIsdigit (.str a) [] S = .ok (.bl (Txt.isdigit a)) S := id rfl
end Fx
namespace Fx
open PySem PySem.Spec PyProof.Rows L2
/-! ### what a def hands back, lists within lists too -/
mutual
def thawD (n : Nat) (S : Sto) : Nat → T → T
  | 0, t => t
  | d + 1, .ref i => match S[i]? with
    | some (.lst us) => if n ≤ i then .lst (us.map (thawD n S d)) else .ref i
    | _ => .ref i
  | d + 1, .lst us => .lst (us.map (thawD n S d))
  | d + 1, .tup us => .tup (us.map (thawD n S d))
  | _ + 1, t => t
end
noncomputable def frameD (n : Nat) (F : List T → Sto → R T) (ts : List T) (S : Sto) : R T :=
  ifP (n ≤ S.length ∧ cls n ts = true ∧ (S.take n).all (clO n) = true) (match F ts (S.take n) with
    | .ok t S1 => ifP (n ≤ S1.length ∧ (S1.take n).all (clO n) = true ∧ cl n (thawD n S1 4 t) = true) (.ok (thawD n S1 4 t) (S1.take n ++ S.drop n)) .bad
    | _ => .bad) .bad
section
variable {K : PySem.W.Frag} {ρ ρ' : Wd} {H H' : Hp} {S S1 : Sto} {n : Nat}
theorem FT.toB (B : ∀ a, a ∉ ρ'.av → a ∉ ρ.av) {a : Addr} {xs : List V} (h : FT K ρ' H a xs) : FT K ρ H a xs := by
  rcases h with ⟨h, q⟩ | h
  · exact .inl ⟨h, B a q⟩
  · exact .inr h
theorem cls_mem {ts : List T} (h : cls n ts = true) : ∀ t ∈ ts, cl n t = true := by
  induction ts with
  | nil => intro t m; cases m
  | cons t ts ih =>
    rw [cls_cons, Bool.and_eq_true] at h
    intro u m
    rcases List.mem_cons.mp m with rfl | m
    · exact h.1
    · exact ih h.2 u m
theorem Reps.mapT {g : T → T} : ∀ {vs : List V} {ts : List T}, Reps K ρ' H' vs ts → (∀ v t, t ∈ ts → Rep K ρ' H' v t → Rep K ρ H' v (g t)) → Reps K ρ H' vs (ts.map g)
  | _, _, .nil, _ => .nil
  | _, _, .cons r rs, h => .cons (h _ _ List.mem_cons_self r) (Reps.mapT rs fun v t m r => h v t (List.mem_cons_of_mem _ m) r)
theorem thawD_rep (s : Sta K ρ H S) (e : Ext (ρ.part n) H ρ' H') (hn : n ≤ S.length) (s' : Sta K ρ' H' S1) (B : ∀ a, a ∉ ρ'.av → a ∉ ρ.av) (A : ∀ (i : Nat) (a : Addr), i < n → ρ'.at_[i]? = some a → ρ.at_[i]? = some a) : ∀ (d : Nat) {v : V} {t : T}, cl n (thawD n S1 d t) = true → Rep K ρ' H' v t → Rep K ρ H' v (thawD n S1 d t)
  | 0, v, t, c, r => by
    unfold thawD at c ⊢
    exact r.toC A B c
  | d + 1, v, t, c, r => by
    have go : ∀ (us : List T) {xs : List V}, cls n (us.map (thawD n S1 d)) = true → Reps K ρ' H' xs us → Reps K ρ H' xs (us.map (thawD n S1 d)) := fun us xs cc rs => rs.mapT fun v t m r => thawD_rep s e hn s' B A d (cls_mem cc _ (List.mem_map_of_mem m)) r
    cases t with
    | ref i =>
      unfold thawD at c ⊢
      split at c
      · rename_i us hu
        by_cases hi : n ≤ i
        · rw [if_pos hi] at c ⊢
          obtain ⟨a, xs, rfl, ha, hx, rx⟩ := lstD_ref s' r hu
          rw [cl_lst] at c
          refine .lst hx (fun q => ?_) (go us c rx)
          have hm : a ∈ ρ'.at_ := List.mem_of_getElem? ha
          have q := e.old a hm (by rw [part_av]; exact q)
          obtain ⟨j, hj⟩ := List.mem_iff_getElem?.mp q
          obtain ⟨hjn, _⟩ := take_at (show (ρ.at_.take n)[j]? = some a from hj)
          have := nd_at (List.nodup_append.mp s'.nd).1 (e.get hj) ha
          omega
        · rw [if_neg hi] at c ⊢
          exact r.toC A B c
      · exact r.toC A B c
    | lst us =>
      unfold thawD at c ⊢
      rw [cl_lst] at c
      cases r with
      | lst h na rs => exact .lst h (B _ na) (go us c rs)
    | tup us =>
      unfold thawD at c ⊢
      rw [cl_tup] at c
      cases r with
      | tup h rs => exact .tup (h.toB B) (go us c rs)
    | _ =>
      unfold thawD at c ⊢
      exact r.toC A B c
theorem frameD_sp {m : Nat} {F : List T → Sto → R T} {vs : List V} {Q : VK} {E : XK} (h : spM K m (frameD n F) vs H Q E) : spM K m F vs H Q E := by
  obtain ⟨ρ, S, ts, l, s, r, h⟩ := h
  unfold frameD at h
  obtain ⟨⟨h1, h2, h3⟩, h⟩ := h.ifP
  refine ⟨ρ.part n, S.take n, ts, l, s.part h1 h3, r.toC (fun i a hi q => ?_) (fun b q => by rw [part_av]; exact q) h2, ?_⟩
  · show (ρ.at_.take n)[i]? = some a
    rw [List.getElem?_take, if_pos hi]
    exact q
  · cases hF : F ts (S.take n) with
    | bad => rw [hF] at h; exact h.elim
    | err x S1 => rw [hF] at h; exact h.elim
    | ok t S1 =>
      rw [hF] at h
      obtain ⟨⟨q1, q2, q3⟩, h⟩ := Post.ifP h
      intro ρ' H' e s' v rv
      obtain ⟨A, B, C, s2⟩ := part_back s h1 e s' q1 q2
      exact h ρ H' C s2 v (thawD_rep s e h1 s' B A 4 q3 rv)
end
theorem FnOk.framedD {P : Program} {w : World} {K : PySem.W.Frag} {mg : Str → Option Value} {base : Heap} {k : Nat} {f : Addr} {fd : FuncData} {ps : List Str} {m : Nat} {F : List T → Sto → R T} (G : FnOk P w K mg base CX0 k f fd ps (spM K m F)) (n : Nat) : FnOk P w K mg base CX0 k f fd ps (spM K m (frameD n F)) :=
  G.imp fun _ _ _ _ h => frameD_sp h
theorem ok_frameD0 {F : List T → Sto → R T} {ts : List T} {S : Sto} {Q : T → Sto → Prop} (hc : cls 0 ts = true) (h : Ok (F ts []) fun t S1 => cl 0 (thawD 0 S1 4 t) = true ∧ Q (thawD 0 S1 4 t) S) : Ok (frameD 0 F ts S) Q := by
  unfold frameD
  rw [ifP_t ⟨Nat.zero_le _, hc, rfl⟩]
  obtain ⟨t, S1, e, q1, q2⟩ := h.get
  have e : F ts (S.take 0) = .ok t S1 := e
  rw [e]
  show Ok (ifP (0 ≤ S1.length ∧ (S1.take 0).all (clO 0) = true ∧ cl 0 (thawD 0 S1 4 t) = true) (.ok (thawD 0 S1 4 t) (S1.take 0 ++ S.drop 0)) .bad) Q
  rw [ifP_t ⟨Nat.zero_le _, rfl, q1⟩]
  exact q2
/-! ### a list again and again -/
def fRepA (fz : Bool) (x y : T) (S : Sto) : R T := match lstD S x, y with
  | some xs, .int n => if 0 ≤ n ∧ n ≤ 100000 ∧ xs.length * n.toNat ≤ 100000 then newL fz (List.replicate n.toNat xs).flatten S else .bad
  | _, _ => .bad
theorem Reps.rep {K : PySem.W.Frag} {ρ : Wd} {H : Hp} {vs : List V} {ts : List T} (r : Reps K ρ H vs ts) : ∀ n : Nat, Reps K ρ H (List.replicate n vs).flatten (List.replicate n ts).flatten
  | 0 => by simpa using Reps.nil
  | n + 1 => by
    rw [List.replicate_succ, List.replicate_succ, List.flatten_cons, List.flatten_cons]
    exact r.append (r.rep n)
theorem lstD_at' {K : PySem.W.Frag} {ρ : Wd} {H : Hp} {S : Sto} {v : V} {t : T} {ts : List T} (s : Sta K ρ H S) (r : Rep K ρ H v t) (h : lstD S t = some ts) : ∃ a xs, v = .ref a ∧ H a = some (.lst xs) ∧ Reps K ρ H xs ts := by
  cases t with
  | lst us =>
    cases h
    cases r with
    | lst h na rs => exact ⟨_, _, rfl, h, rs⟩
  | ref i =>
    have h : (match S[i]? with
    | some (.lst ts) => some ts
    | _ => none) = some ts := h
    split at h
    · rename_i us hu
      cases h
      obtain ⟨a, xs, e, _, hx, rx⟩ := lstD_ref s r hu
      exact ⟨a, xs, e, hx, rx⟩
    · cases h
  | _ => cases h
theorem f_repA (fz : Bool) {X : Cx} {E : XK} : Op2 X.K E rRep (fRepA fz) := by
  intro ρ H S v w x y Q s rv rw' h
  unfold fRepA at h
  split at h
  · rename_i xs n hx
    split at h
    · rename_i hc
      obtain ⟨a, us, rfl, ha, ru⟩ := lstD_at' s rv hx
      refine ⟨a, n, us, rfl, rep_int rw', ha, by omega, by omega, ?_, fun p hp => new_lst s (ru.rep n.toNat) h p hp⟩
      rw [ru.length]
      exact Nat.le_trans hc.2.2 (by decide)
    · exact h.elim
  · exact h.elim
theorem ev_repA (fz : Bool) (xs : List T) (n : Int) (S : Sto) : fRepA fz (.lst xs) (.int n) S = if 0 ≤ n ∧ n ≤ 100000 ∧ xs.length * n.toNat ≤ 100000 then newL fz (List.replicate n.toNat xs).flatten S else .bad := id rfl
/-! ### a tuple of texts: where one stands first -/
def isTup (x : T) (_ : Sto) : Bool := match x with
  | .tup _ => true
  | _ => false
def fIndexT (x : T) (ts : List T) (S : Sto) : R T := match x, ts with
  | .tup us, [.str z] => match strsOf us with
    | some ys => match ys.findIdx? (fun y => decide (y = z)) with
      | some j => .ok (.int (j : Int)) S
      | none => .bad
    | none => .bad
  | _, _ => .bad
theorem f_indexT {X : Cx} {E : XK} : OpM X.K E (fun x xs H Q => ∃ p, ∃ ys : List Str, ∃ z j, x = .ref p ∧ xs = [.str z] ∧ SqT X.K H p (ys.map V.str) ∧ ys[j]? = some z ∧ (∀ m, m < j → ys[m]? ≠ some z) ∧ Q (.int (j : Nat)) H) fIndexT := by
  intro ρ H S v x vs ts Q s rv rs h
  unfold fIndexT at h
  split at h
  · rename_i us z
    obtain ⟨y, rfl, ry⟩ := rs.one
    split at h
    · rename_i ys hy
      split at h
      · rename_i j hj
        obtain ⟨a, xs, rfl, fa, ra⟩ := rep_tup rv
        have e := strs_of ra hy
        subst e
        obtain ⟨hjl, hj1, hj2⟩ := List.findIdx?_eq_some_iff_getElem.mp hj
        refine ⟨a, ys, z, j, rfl, by rw [rep_str ry], fa.sq, ?_, fun m hm q => ?_, h.ok s _ (.int _)⟩
        · rw [List.getElem?_eq_getElem hjl, of_decide_eq_true hj1]
        · obtain ⟨hml, q⟩ := List.getElem?_eq_some_iff.mp q
          exact hj2 m hm (decide_eq_true q)
      · exact h.elim
    · exact h.elim
  · exact h.elim
theorem x_methT {X : Cx} {E : XK} {o e : Expr} {es : List Expr} {mo : Env → Sto → R T} {ms : Env → Sto → R (List T)} {name : Str} {apos cpos : Pos} {id : String} {r : V → List V → Hp → VK → Prop} {f : T → List T → Sto → R T} (slot : Slot "tuple" name id) (hty : typeOf (.builtin id) = pure (.type "method_descriptor")) (hm : MtR X id r) (hs : OpM X.K E r f) (ho : PE X o (tM X.K E mo)) (ha : PA X (e :: es) (tA X.K E ms))
    (hbase : attributeBase o name X.env (eval o X.env) = eval o X.env := by rfl)
    (hfew : ((backTo cpos (starEach (e :: es) X.env)).all (fun x => !x.1) && (backToKw cpos (keywordEach [] X.env)).all (fun x => x.1.isSome) && decide ((e :: es).length + ([] : List Keyword).length + (if ([] : List Keyword).isEmpty then 0 else 1) < 30)) = true := by rfl)
    (hline : (apos.endLine == cpos.line) = true := by rfl) (he : starEach (e :: es) X.env = (false, eval e X.env) :: starEach es X.env := by rfl) (hpl : (backTo cpos (starEach es X.env)).any (·.1) = false := by rfl) :
    PE X (.Call (.Attribute o name apos) (e :: es) [] cpos) (tM X.K E (mMeth isTup f mo ms)) :=
  PE.of (pe_bmN slot hty hm ho ha hbase hfew hline he hpl) fun σ H Q ⟨ρ, τ, S, s, e, h⟩ => ⟨ρ, τ, S, s, e, h.step fun ρ1 H1 x S1 e1 s1 h1 v rv => by
    by_cases hx : isTup x S1 = true
    · rw [if_pos hx] at h1
      refine ⟨?_, ρ1, τ, S1, s1, e.ext e1, h1.step fun ρ2 H2 ts S2 e2 s2 h2 vs rs => hs ρ2 H2 S2 v x vs ts Q s2 (rv.ext e2) rs h2⟩
      unfold isTup at hx
      split at hx
      · obtain ⟨a, xs, rfl, fa, _⟩ := rep_tup rv
        exact ⟨a, rfl, fa.bare⟩
      · cases hx
    · rw [if_neg hx] at h1
      exact h1.elim⟩
@[simp] theorem ev_isTup (ts : List T) (S : Sto) : isTup (.tup ts) S = true := rfl
theorem ev_indexT (us : List T) (z : Str) (S : Sto) : fIndexT (.tup us) [.str z] S = match strsOf us with
    | some ys => match ys.findIdx? (fun y => decide (y = z)) with
      | some j => .ok (.int (j : Int)) S
      | none => .bad
    | none => .bad := id rfl
end Fx
namespace Fx
open PySem PySem.Spec PyProof.Rows L2
/-! ### a < b < c -/
theorem x_chain {X : Cx} {E : XK} {a b c : Expr} {pos : Pos} {ma mb mc : Env → Sto → R T} {op op' : CmpOp} {r r' : R2} {f g : T → T → Sto → R T} (ho : OpR X (compareOp op) r) (ho' : OpR X (compareOp op') r') (hs : Op2 X.K E r f) (hs' : Op2 X.K E r' g) (ha : PE X a (tM X.K E ma)) (hb : PE X b (tM X.K E mb)) (hc : PE X c (tM X.K E mc))
    (hm : lastMarks [op, op'] [b, c] = false := by with_unfolding_all rfl) : PE X (.Compare a [op, op'] [b, c] pos) (tM X.K E (mChain f g ma mb mc)) :=
  PE.of (pe_chain ho ho' ha hb hc hm) fun σ H Q ⟨ρ, τ, S, s, e, h⟩ => ⟨ρ, τ, S, s, e, h.step fun ρ1 H1 x S1 e1 s1 h1 v rv => ⟨ρ1, τ, S1, s1, e.ext e1, h1.step fun ρ2 H2 y S2 e2 s2 h2 w rw' => hs ρ2 H2 S2 v w x y _ s2 (rv.ext e2) rw' (h2.step fun ρ3 H3 k S3 e3 s3 h3 u ru => by
    obtain ⟨b, ev, h4⟩ := bl_step ru h3
    refine ⟨b, ev, ?_⟩
    cases b with
    | true => exact ⟨ρ3, τ, S3, s3, ((e.ext e1).ext e2).ext e3, h4.step fun ρ5 H5 z S5 e5 s5 h5 q rq => hs' ρ5 H5 S5 w q y z Q s5 ((rw'.ext e3).ext e5) rq h5⟩
    | false => exact Post.ok (K := X.K) (E := E) (ρ := ρ3) (S := S3) h4 s3 (.bl false) (.bl false))⟩⟩
theorem ev_chain (f g a b c) (τ : Env) (S : Sto) : mChain f g a b c τ S = (a τ S).bind fun x S1 => (b τ S1).bind fun y S2 => (f x y S2).bind fun k S3 => (toB k S3).bind fun k S4 => if k = true then (c τ S4).bind fun z S5 => g y z S5 else .ok (.bl false) S4 := id rfl
/-! ### what is never reached -/
def sBad : Env → Sto → R Fl := fun _ _ => .bad
theorem s_bad {X : Cx} {E : XK} {st : Stmt} : PS X st (tS X.K E sBad) := PS.of ps_never fun D σ H ⟨ρ, τ, S, s, e, h⟩ => h.elim
theorem ev_bad (τ : Env) (S : Sto) : sBad τ S = .bad := id rfl
end Fx
set_option maxHeartbeats 2000000
namespace Fx
open PySem PySem.Spec PyProof.Rows L2 L2H

/-! ### defs that are called while an error is handled -/
structure FnHot (P : Program) (w : World) (K : PySem.W.Frag) (mg : Str → Option Value) (base : Heap) (k : Nat) (f : Addr) (fd : FuncData) (ps : List Str) (sp : Sp) : Prop where
  len : ∀ vs H Q E, sp vs H Q E → vs.length = ps.length
  run : ∀ (A : Around) (outer : List PySem.Env) (s : Shared) (H : Hp) (args : Args) (us : List Value) (vs : List V) (Q : VK) (E : XK), RoomH k A → Env0 P w K mg base A outer s H → BindsTo s fd args (ps.zip us) → Vals vs us → sp vs H Q E →
    codeAny (model P w) A (.call (.ref f) args) (CR CX0 outer P w H s Q E) s
/-- its body's context -/
def cxHot (P : Program) (w : World) (K : PySem.W.Frag) (mg : Str → Option Value) (base : Heap) (N : List Str) (qual : Str) (scope : Scope) (f : Addr) (cd : Value) (A : Around) (outer : List PySem.Env) (s : Shared) (H : Hp) (E : XK) : Cx :=
  { (cxOf CX0 P w K mg base N qual scope f cd A outer s H E).nox with calm := false }
def cool (A : Around) : Around := { A with handled := none }
section
variable {P : Program} {w : World} {K : PySem.W.Frag} {mg : Str → Option Value} {base : Heap}
theorem inv_hot {N : List Str} {qual : Str} {scope : Scope} {f : Addr} {cd : Value} {A : Around} {outer : List PySem.Env} {s s1 : Shared} {H : Hp} {E : XK} {σ : L2.St}
    (I : Inv (cxOf CX0 P w K mg base N qual scope f cd (cool A) outer s H E) [] σ H s1) (hf : A.frames = some outer) : Inv (cxHot P w K mg base N qual scope f cd A outer s H E) [] σ H s1 :=
  have ok := I.ok
  ⟨⟨ok.mod, ok.kind, ok.glob, ok.blt, ok.above, ok.inj, ok.has, ok.cab, (fun z => absurd (show false = true from z) Bool.false_ne_true), Around.frames_deeper hf, ok.stk, ok.exf, ok.bs, ok.bsz, ok.noex, ok.exfs, ok.funs, ok.frf⟩,
    I.os, I.bare, I.base, I.loc, I.cell, I.free, I.freeC, I.pin, I.hok, I.len⟩
theorem fn_hot {x qual : Str} {st : Stmt} {f : Addr} {fd : FuncData} {N ps : List Str} {k : Nat} {b : Env → Sto → R Fl} (F : L2.Fun K x qual st f fd) (S : FnScope N ps (defScope st))
    (hb : ∀ (cdv : Value) (A : Around) (outer : List PySem.Env) (s : Shared) (H : Hp) (E : XK), RoomH k (A.deeper (envOfC qual (defScope st) s.heap.objs.size f cdv)) → PSs (cxHot P w K mg base N qual (defScope st) f cdv A outer s H E) (defBody st) (tS K E0 b)) :
    FnHot P w K mg base (k + 1) f fd ps (spM K ps.length (runF N.length b)) := by
  obtain ⟨oc, od, kV, doc, pm, an, cdv, ct, osl, rfl, lk, hcd⟩ := F.ex
  refine ⟨fun vs H Q E ⟨ρ, S, ts, l, s, r, h⟩ => by rw [r.length, l], fun A outer s H args us vs Q E hr e0 hbi r hsp => ?_⟩
  obtain ⟨ρ, S0, ts, l, st0, rts, h⟩ := hsp
  have hl : vs.length = ps.length := by rw [rts.length, l]
  have KX : K.In s.heap := e0.mod.kin.keeps fun b o e => (e0.bs b o e).1
  have lim : s.heap.NoLimit := e0.mod.nolimit.keeps fun b o e => (e0.bs b o e).1
  have hkind : ∀ y ∈ ps.zip us, (defScope st).names.lookup y.1 = some .local ∨ ((defScope st).names.lookup y.1 = some .cell ∧ ((cellsFrom (s.heap.objs.size + 1) (defScope st).names []).lookup y.1).isSome = true) := fun ⟨n, v⟩ hy => by
    rcases S.par n (List.of_mem_zip hy).1 with q | q
    · exact .inl q
    · exact .inr ⟨q, PySem.W.cellsFrom_some _ _ _ (.inl q)⟩
  refine codeAny_call_function hr.depth (KX _ _ lk) rfl S.co S.gen rfl (PySem.W.codeRec_of KX hcd) (hbi _ _ _ _ ?_)
  refine wpAny_newFunctionEnv_cells S.kind hkind fun env he s1 y => ?_
  subst he
  refine ⟨lim.keeps y.toInCall.keep, codeAny_func ?_⟩
  have e1 : Env0 P w K mg base (cool A) outer s H := ⟨e0.frames, e0.mod, e0.bs, e0.bsz, e0.funs, e0.frf, e0.hok, e0.bare⟩
  have I := inv_hot (inv_start (CX := CX0) (E := E) S (rfl : (cool A).handled = none) e1 hl r y) e0.frames
  have hq : tS K E0 b { nx := fun _ H' => Q .non H', rt := Q } (start N vs) H := by
    refine ⟨ρ, _, S0, st0, reps_env rts, ?_⟩
    unfold runF at h
    refine h.at0 (Ext.refl _ _) fun ρ2 H2 f S2 x2 s2 q => ?_
    cases f with
    | nx τ => exact fun σ e => q ρ2 H2 x2 s2 _ .non
    | rt t => exact fun v rv => q ρ2 H2 x2 s2 v rv
    | bk τ => exact q.elim
    | ct τ => exact q.elim
  refine wpAny_mono ((hb cdv A outer s H E (hr.deeper _)).run [] s1 (start N vs) H _ I hq) (fun fl s' hs => ?_) fun e s' hs => False.elim hs
  have fin : ∀ {σ' : L2.St} {H' : Hp} {v : V} {u : Value}, Inv (cxHot P w K mg base N qual (defScope st) f cdv A outer s H E) [] σ' H' s' → RelV v u → Q v H' → CE outer P w H s Q u s' :=
    fun {σ' H' v u} J rv q => ⟨v, H', J.os, J.bare, J.base, J.hok, rv, q⟩
  cases fl with
  | ret u =>
    obtain ⟨v, σ', H', J, rv, q⟩ := hs
    exact fin J rv q
  | next =>
    obtain ⟨σ', H', J, q⟩ := hs
    exact fin (v := V.non) (u := Value.none) J rfl q
  | brk =>
    obtain ⟨_, _, _, q⟩ := hs
    exact False.elim q
  | cont =>
    obtain ⟨_, _, _, q⟩ := hs
    exact False.elim q
theorem FnHot.imp {k : Nat} {f : Addr} {fd : FuncData} {ps : List Str} {sp sp' : Sp} (F : FnHot P w K mg base k f fd ps sp) (h : ∀ vs H Q E, sp' vs H Q E → sp vs H Q E) : FnHot P w K mg base k f fd ps sp' :=
  ⟨fun vs H Q E q => F.len vs H Q E (h _ _ _ _ q), fun A outer s H args us vs Q E hr he hb hv hs => F.run A outer s H args us vs Q E hr he hb hv (h _ _ _ _ hs)⟩
theorem FnHot.framed {k : Nat} {f : Addr} {fd : FuncData} {ps : List Str} {m : Nat} {F : List T → Sto → R T} (G : FnHot P w K mg base k f fd ps (spM K m F)) (n : Nat) (fz : Bool) : FnHot P w K mg base k f fd ps (spM K m (frame n fz F)) :=
  G.imp fun _ _ _ _ h => frame_sp h
end
section
variable {X : Cx} {E : XK} {k n : Nat} {f : Addr} {fd : FuncData} {ps : List Str} {F : List T → Sto → R T} {x : Str} {p pos : Pos} {e : Expr} {es : List Expr} {ms : Env → Sto → R (List T)}
theorem run_hot {sp : Sp} {pins : List (Addr × Obj)} {σ : L2.St} {H : Hp} {s : Shared} {Q : VK} {us : List Value} {vs : List V} (F : FnHot X.prog X.w X.K X.mg X.base k f fd ps sp) (hr : RoomH k X.A) (hb : Binds X.K fd ps [])
    (I : Inv X pins σ H s) (r : Vals vs us) (h : sp vs H Q E) : wpAny (model X.prog X.w) X.A (call (.ref f) us) (EP X pins σ Q) X.xe s := by
  have hl : us.length = ps.length := by rw [← r.length]; exact F.len _ _ _ _ h
  have b := hb s us I.kIn (by rw [List.append_nil]; exact hl)
  rw [List.append_nil] at b
  refine wpAny_call (codeAny_mono (F.run X.A X.stack s H ⟨us, []⟩ us vs Q E hr I.env0 b r h) fun r s' hq => ?_)
  cases r with
  | error e => exact False.elim hq
  | ok fl =>
    cases fl with
    | ret u => exact I.after hq
    | next => exact False.elim hq
    | brk => exact False.elim hq
    | cont => exact False.elim hq
/-- a call within an except suite, or within such a def -/
theorem x_callH (G : FnHot X.prog X.w X.K X.mg X.base k f fd ps (spM X.K n F)) (hr : RoomH k X.A) (hg : Gl X x) (hm : X.mg x = some (.ref f)) (hk : PySem.W.keepIn X.K (.ref f) = true) (hb : Binds X.K fd ps [])
    (ha : PA X (e :: es) (tA X.K E ms)) (hn : (e :: es).length = n := by rfl) (hdb : (x == ("__debug__" : Str)) = false := by decide) (he : starEach (e :: es) X.env = (false, eval e X.env) :: starEach es X.env := by rfl) (hpl : (backTo pos (starEach es X.env)).any (·.1) = false := by rfl) :
    PE X (.Call (.Name x p) (e :: es) [] pos) (tM X.K E (mFn (fun ts S => if ts.length = n then F ts S else .bad) ms)) := by
  refine ⟨fun pins s σ H Q I h => ?_⟩
  refine wpAny_Call_Name_kw (ld_glob I hg hm ?_ hdb)
  obtain ⟨ρ, τ, S, st, en, h⟩ := h
  refine PySem.W.callWith_K (h₀ := X.base) I.ok.mod.kin hk (thn (ha.run pos pins s σ H (fun vs H1 => ∃ ρ1 S1 ts, ts.length = n ∧ Sta X.K ρ1 H1 S1 ∧ Reps X.K ρ1 H1 vs ts ∧ Post X.K E ρ1 H1 (F ts S1) (QE X.K Q)) I ⟨ρ, τ, S, st, en, h.step fun ρ1 H1 ts S1 e1 s1 h1 vs rs => by
    split at h1
    · rename_i hl
      exact ⟨ρ1, S1, ts, hl, s1, rs, h1⟩
    · exact h1.elim⟩) fun us s1 ⟨vs, H1, I1, r, q⟩ => ⟨I1.kIn, ?_⟩) he hpl
  exact run_hot (E := E) G hr hb I1 r q
end
end Fx
set_option maxHeartbeats 2000000
namespace Fx
open PySem PySem.Spec PyProof.Rows L2 L2H

/-! ### caught errors: isinstance(e, D), e.f -/
/-- what the written part says of an error class at C -/
def excB (K : PySem.W.Frag) (C : Addr) : Bool :=
  (PySem.W.clsIn K C).isSome && (decide (PySem.W.findIn K (.ref C) "__getattribute__" = some (some (.builtin "BaseException.__getattribute__"))) && (decide (PySem.W.findIn K (.ref C) "__getattr__" = some none) &&
  (decide (PySem.W.subIn K (.ref C) (.type "BaseException") = some true) && (decide (PySem.W.findIn K (.ref C) "__class__" = some (some (.builtin "object.__class__"))) && (decide (PySem.W.specialIn K (.builtin "object.__class__") "__get__" = some (some (.builtin "getset_descriptor.__get__"))) &&
  (decide (PySem.W.takesIn K (.builtin "object.__class__") = some true) && (decide (PySem.W.mroIn K C (.type "object") = some true) && PySem.W.hasDictIn K C)))))))
structure ExcD (K : PySem.W.Frag) (C : Addr) : Prop where
  cl : (PySem.W.clsIn K C).isSome = true
  hg : PySem.W.findIn K (.ref C) "__getattribute__" = some (some (.builtin "BaseException.__getattribute__"))
  hk : PySem.W.findIn K (.ref C) "__getattr__" = some none
  hs : PySem.W.subIn K (.ref C) (.type "BaseException") = some true
  ha : PySem.W.findIn K (.ref C) "__class__" = some (some (.builtin "object.__class__"))
  hn : PySem.W.specialIn K (.builtin "object.__class__") "__get__" = some (some (.builtin "getset_descriptor.__get__"))
  ht : PySem.W.takesIn K (.builtin "object.__class__") = some true
  hm : PySem.W.mroIn K C (.type "object") = some true
  hd : PySem.W.hasDictIn K C = true
theorem excB_ok {K : PySem.W.Frag} {C : Addr} (h : excB K C = true) : ExcD K C := by
  unfold excB at h
  simp only [Bool.and_eq_true, decide_eq_true_eq] at h
  exact ⟨h.1, h.2.1, h.2.2.1, h.2.2.2.1, h.2.2.2.2.1, h.2.2.2.2.2.1, h.2.2.2.2.2.2.1, h.2.2.2.2.2.2.2.1, h.2.2.2.2.2.2.2.2⟩
/-- isinstance(e, D) of an error of the class named c: D's value is cD -/
def KitT (K : PySem.W.Frag) (c : Str) (cD : V) (b : Bool) : Prop := ∀ C, gaK K c = some C → ExcD K C ∧ ∃ cv : Value, (∀ u, RelV cD u → u = cv) ∧ PySem.W.kitOne K (.ref C) cv = some b
theorem kitT_ref {K : PySem.W.Frag} {c : Str} {C D : Addr} {b : Bool} (g : gaK K c = some C) (x : excB K C = true) (h : PySem.W.kitOne K (.ref C) (.ref D) = some b) : KitT K c (.ref D) b := fun C' g' => by
  rw [g] at g'
  cases g'
  exact ⟨excB_ok x, .ref D, fun u r => r, h⟩
theorem kitT_ty {K : PySem.W.Frag} {c : Str} {C : Addr} {n : String} {b : Bool} (g : gaK K c = some C) (x : excB K C = true) (h : PySem.W.kitOne K (.ref C) (.type n) = some b) : KitT K c (.ty n) b := fun C' g' => by
  rw [g] at g'
  cases g'
  exact ⟨excB_ok x, .type n, fun u r => r, h⟩
def fIsX (tab : Str → Option Bool) (t : T) (S : Sto) : R T := match t with
  | .exn c _ _ _ => match tab c with
    | some b => .ok (.bl b) S
    | none => .bad
  | _ => .bad
def fAtt (tab : Str → Bool) (n : Str) (t : T) (S : Sto) : R T := match t with
  | .exn c _ ns ts => if tab c = true then match (ns.zip ts).lookup n with
    | some y => .ok y S
    | none => .bad else .bad
  | _ => .bad
theorem exh_at {P : Program} {w : World} {H : Hp} {h : Heap} {a C : Addr} {d : Option Addr} (hok : HOk P w H h) (he : H a = some (exh a C d)) : ∃ (oe : Obj) (vs : Array Value), h.get? a = some oe ∧ Zc (.ref C) d oe ∧ oe.data = .fields vs := by
  have x : ObjOk P w H h a (.ext fun h => ∃ (oe : Obj) (vs : Array Value), h.get? a = some oe ∧ Zc (.ref C) d oe ∧ oe.data = .fields vs) := hok a _ he
  exact x.1
section
variable {X : Cx} {E : XK} {e : Expr} {m : Env → Sto → R T}
theorem exh_inst {pins : List (Addr × Obj)} {σ : L2.St} {H : Hp} {s : Shared} {ρ : Wd} {a C : Addr} {d : Option Addr} {own : Bool} {ns : List Str} {xs : List V} (I : Inv X pins σ H s) (he : H a = some (exh a C d)) (hx : XD ρ H d own ns xs) :
    ∃ oe od, PySem.W.InstAt s.heap a oe C od ∧ ∀ n v, (ns.zip xs).lookup n = some v → ∃ od' u, od = some od' ∧ PySem.W.lookIn n od' = some (some u) ∧ RelV v u := by
  obtain ⟨oe, vs, h1, ⟨h2, h3⟩, h4⟩ := exh_at I.hok he
  cases d with
  | none =>
    obtain ⟨_, rfl, rfl⟩ := hx
    exact ⟨oe, none, ⟨h1, h2, by unfold PySem.W.notCls; rw [h4] <;> rfl, by rw [h3] <;> trivial⟩, fun n v z => by cases z⟩
  | some dd =>
    obtain ⟨_, hd, _, _⟩ := hx
    obtain ⟨mA, hns, hr⟩ := (I.hok dd _ hd : ObjOk X.prog X.w H s.heap dd (.xd (ns.zip xs)))
    obtain ⟨od, ho, hl⟩ := lookIn_ns hns
    refine ⟨oe, some od, ⟨h1, h2, by unfold PySem.W.notCls; rw [h4] <;> rfl, by rw [h3]; exact ho⟩, fun n v z => ?_⟩
    obtain ⟨u, hu, ru⟩ := RelO.some_of (v := v) (o := mA n) (by rw [← z]; exact hr n)
    exact ⟨od, u, rfl, by rw [hl, hu], ru⟩
def rIsX (K : PySem.W.Frag) : List V → Hp → VK → Prop := fun xs H Q => ∃ (a C : Addr) (d : Option Addr) (ρ : Wd) (own : Bool) (ns : List Str) (ys : List V) (c : V) (cv : Value) (b : Bool), xs = [.ref a, c] ∧ H a = some (exh a C d) ∧ XD ρ H d own ns ys ∧ ExcD K C ∧ (∀ u, RelV c u → u = cv) ∧ PySem.W.kitOne K (.ref C) cv = some b ∧ Q (.bl b) H
theorem call_isX : CallR X (.builtin "isinstance") (rIsX X.K) := by
  intro pins s σ H xs us Q I r h
  obtain ⟨a, C, d, ρ, own, ns, ys, c, cv, b, rfl, hx, hd, T, hcv, e, q⟩ := h
  obtain ⟨u, w', rfl, ru, rw'⟩ := vals2 r
  obtain rfl : u = Value.ref a := ru
  have ec := hcv _ rw'
  subst ec
  obtain ⟨oe, od, J, _⟩ := exh_inst I hx hd
  exact PySem.W.kia_one (PySem.W.kitx_exc T.cl T.hg T.hk T.hs T.ha T.hn T.ht T.hm) I.kIn J e (fun z => nomatch z) fun tk => ⟨.bl b, H, I.kept (t' := tk) fun _ _ z => z, rfl, q⟩
theorem x_isX {tab : Str → Option Bool} {dn : Expr} {cD : V} {p pos : Pos} (hg : Gl X "isinstance") (hm : X.mg "isinstance" = none) (hv : bootBuiltins "isinstance" = some (.builtin "isinstance")) (he : PE X e (tM X.K E m)) (hD : PE X dn (tC cD)) (ht : ∀ c b, tab c = some b → KitT X.K c cD b)
    (h1 : starEach [e, dn] X.env = (false, eval e X.env) :: starEach [dn] X.env := by rfl) (h2 : starEach [dn] X.env = (false, eval dn X.env) :: starEach [] X.env := by rfl) (hpl : (backTo pos (starEach [dn] X.env)).any (·.1) = false := by rfl) :
    PE X (.Call (.Name "isinstance" p) [e, dn] [] pos) (tM X.K E (mUn (fIsX tab) m)) :=
  PE.of (pe_callB call_isX hg hm hv (pa_cons he (pa_cons hD pa_nil h2) h1) (by decide) (by decide) h1 hpl) fun σ H Q ⟨ρ, τ, S, s, en, q⟩ => ⟨ρ, τ, S, s, en, q.step fun ρ1 H1 t S1 e1 s1 q1 v rv => by
    unfold fIsX at q1
    split at q1
    · rename_i c own ns ts
      split at q1
      · rename_i b hb
        cases rv with
        | exn g h n x r =>
          obtain ⟨T, cv, z1, z2⟩ := ht c b hb _ g
          exact ⟨_, _, _, ρ1, own, ns, _, _, cv, b, rfl, h, x, T, z1, z2, q1.ok s1 _ (.bl b)⟩
      · exact q1.elim
    · exact q1.elim⟩
theorem zip_get {K : PySem.W.Frag} {ρ : Wd} {H : Hp} {n : Str} : ∀ {ns : List Str} {xs : List V} {ts : List T} {y : T}, Reps K ρ H xs ts → (ns.zip ts).lookup n = some y → ∃ v, (ns.zip xs).lookup n = some v ∧ Rep K ρ H v y
  | [], _, _, _, _, h => by simp at h
  | _ :: _, _, _, _, .nil, h => by simp at h
  | c :: ns, v :: vs, t :: ts, y, .cons r rs, h => by
    rw [List.zip_cons_cons, List.lookup_cons] at h ⊢
    split at h
    · cases h
      exact ⟨v, rfl, r⟩
    · exact zip_get rs h
theorem x_att {tab : Str → Bool} {n : Str} {pos : Pos} (he : PE X e (tM X.K E m)) (ht : ∀ c, tab c = true → ∀ C, gaK X.K c = some C → ExcD X.K C ∧ PySem.W.findIn X.K (.ref C) n = some none) (hb : attributeBase e n X.env (eval e X.env) = eval e X.env := by rfl) :
    PE X (.Attribute e n pos) (tM X.K E (mUn (fAtt tab n) m)) := by
  refine ⟨fun pins s σ H Q I h => ?_⟩
  obtain ⟨ρ, τ, S, st, en, q⟩ := h
  refine attr_of hb (thn (he.run pins s σ H (fun v H1 => ∃ (a C : Addr) (d : Option Addr) (ρ1 : Wd) (own : Bool) (ns : List Str) (xs : List V) (y : V), v = .ref a ∧ H1 a = some (exh a C d) ∧ XD ρ1 H1 d own ns xs ∧ (ExcD X.K C ∧ PySem.W.findIn X.K (.ref C) n = some none) ∧ (ns.zip xs).lookup n = some y ∧ Q y H1) I ⟨ρ, τ, S, st, en, q.step fun ρ1 H1 t S1 e1 s1 q1 v rv => by
    unfold fAtt at q1
    split at q1
    · rename_i c own ns ts
      split at q1
      · rename_i hc
        split at q1
        · rename_i y hy
          cases rv with
          | exn g h z x r =>
            obtain ⟨y', hy', ry⟩ := zip_get r hy
            exact ⟨_, _, _, ρ1, own, ns, _, y', rfl, h, x, ht c hc _ g, hy', q1.ok s1 _ ry⟩
        · exact q1.elim
      · exact q1.elim
    · exact q1.elim⟩) fun u s1 hh => ?_)
  obtain ⟨v, H1, I1, rv, a, C, d, ρ1, own, ns, xs, y, rfl, hx, hd, ⟨T, hno⟩, hy, q⟩ := hh
  obtain rfl : u = Value.ref a := rv
  obtain ⟨oe, od, J, hl⟩ := exh_inst I1 hx hd
  obtain ⟨od', u', rfl, hl, ru⟩ := hl n y hy
  exact HandSPX.exc_get I1.kIn J T.hg T.hk T.hs (PySem.W.findObj_own T.hd hno rfl hl) (handed_of ru) ⟨y, H1, I1.tok _, ru, q⟩
end
end Fx
set_option maxHeartbeats 2000000
namespace Fx
open PySem PySem.Spec PyProof.Rows L2 L2H

/-! ### own errors are made: __init__ keeps one field, or two -/
def spI1 (K : PySem.W.Frag) (f : Str) : Sp := fun vs H Q E => ∃ (a C : Addr) (v : V), vs = [.ref a, v] ∧ OexC K C ∧ PySem.W.findIn K (.ref C) f = some none ∧ H a = some (exo a C none) ∧
  ∀ dx, H dx = none → dx ≠ a → Q .non (upd (upd H dx (exd dx [(f, v)])) a (exo a C (some dx)))
def spI2 (K : PySem.W.Frag) (f g : Str) : Sp := fun vs H Q E => ∃ (a C : Addr) (v w : V), vs = [.ref a, v, w] ∧ OexC K C ∧ PySem.W.findIn K (.ref C) f = some none ∧ PySem.W.findIn K (.ref C) g = some none ∧ H a = some (exo a C none) ∧
  ∀ dx, H dx = none → dx ≠ a → Q .non (upd (upd (upd H dx (exd dx [(f, v)])) a (exo a C (some dx))) dx (exd dx [(g, w), (f, v)]))
theorem Ends.eta (D : Ends) : D = { nx := D.nx, rt := D.rt, bk := D.bk, ct := D.ct } := by cases D; rfl
section
variable {P : Program} {w : World} {K : PySem.W.Frag} {mg : Str → Option Value} {base : Heap} {CX : CXT}
theorem init1 {qual f : Str} {st : Stmt} {fa : Addr} {fd : FuncData} {p1 p2 p3 p4 : Pos} (F : L2.Fun K "__init__" qual st fa fd) (S : FnScope ["self", f] ["self", f] (defScope st)) (hb : defBody st = [.Assign [.Attribute (.Name "self" p1) f p2] (.Name f p3) p4])
    (h1 : Vis (defScope st) "self") (h2 : Vis (defScope st) f) (d1 : (f == ("__debug__" : Str)) = false) (d2 : (f == ("__classdict__" : Str)) = false) : FnOk P w K mg base CX0 1 fa fd ["self", f] (spI1 K f) :=
  F.ok S (fun vs H Q E ⟨a, C, v, e, _⟩ => by rw [e]; rfl) fun cdv A outer s H vs Q E hr ⟨a, C, v, e, T, hn, ha, q⟩ => by
    refine ⟨tOst K f (tVar 0) (tVar 1), ?_, ?_⟩
    · rw [hb]
      exact pss_one (ps_ost (pe_var (i := 0) rfl h1) (pe_var (i := 1) rfl h2 d1 d2))
    · subst e
      exact ⟨v, rfl, .ref a, rfl, a, C, rfl, T, hn, .inl ⟨ha, q⟩⟩
theorem init2 {qual f g : Str} {st : Stmt} {fa : Addr} {fd : FuncData} {p1 p2 p3 p4 p5 p6 p7 p8 : Pos} (F : L2.Fun K "__init__" qual st fa fd) (S : FnScope ["self", f, g] ["self", f, g] (defScope st))
    (hb : defBody st = [.Assign [.Attribute (.Name "self" p1) f p2] (.Name f p3) p4, .Assign [.Attribute (.Name "self" p5) g p6] (.Name g p7) p8])
    (h1 : Vis (defScope st) "self") (h2 : Vis (defScope st) f) (h3 : Vis (defScope st) g) (d1 : (f == ("__debug__" : Str)) = false) (d2 : (f == ("__classdict__" : Str)) = false) (d3 : (g == ("__debug__" : Str)) = false) (d4 : (g == ("__classdict__" : Str)) = false) : FnOk P w K mg base CX0 1 fa fd ["self", f, g] (spI2 K f g) :=
  F.ok S (fun vs H Q E ⟨a, C, v, z, e, _⟩ => by rw [e]; rfl) fun cdv A outer s H vs Q E hr ⟨a, C, v, z, e, T, hn, hn2, ha, q⟩ => by
    refine ⟨tSeq (tOst K f (tVar 0) (tVar 1)) (tOst K g (tVar 0) (tVar 2)), ?_, ?_⟩
    · rw [hb]
      exact pss_cons (ps_ost (pe_var (i := 0) rfl h1) (pe_var (i := 1) rfl h2 d1 d2)) (pss_one (ps_ost (pe_var (i := 0) rfl h1) (pe_var (i := 2) rfl h3 d3 d4)))
    · subst e
      refine ⟨v, rfl, .ref a, rfl, a, C, rfl, T, hn, .inl ⟨ha, fun dx n ne => ?_⟩⟩
      exact ⟨z, rfl, .ref a, rfl, a, C, rfl, T, hn2, .inr ⟨dx, [(f, v)], upd_same, by rw [upd_ne ne]; exact upd_same, (by show 1 ≤ 900; decide), q dx n ne⟩⟩
end

/-! ### raise C(e, ..) -/
theorem two_of {α : Type} : ∀ {l : List α}, l.length = 2 → ∃ x y, l = [x, y]
  | [x, y], _ => ⟨x, y, rfl⟩
def mRaise (c : Str) (ns : List Str) (ms : Env → Sto → R (List T)) : Env → Sto → R Fl := fun τ S => (ms τ S).bind fun ts S1 => if ts.length = ns.length ∧ ts.length ≤ 900 then .err ⟨c, true, ns, ts.reverse⟩ S1 else .bad
theorem made_heap {H1 : Hp} {a d : Addr} {x y z : HO} {w : HO} (n : H1 a = none) (ne : d ≠ a) : upd (del (upd (upd (upd H1 a x) d y) a z) a) d w = upd H1 d w := by
  funext b
  by_cases hb : b = d
  · rw [hb, upd_same, upd_same]
  · rw [upd_ne hb, upd_ne hb]
    by_cases hc : b = a
    · rw [hc, del_same, n]
    · rw [del_ne hc, upd_ne hc, upd_ne hb, upd_ne hc]
theorem made_heap2 {H1 : Hp} {a d : Addr} {x y z y2 : HO} {w : HO} (n : H1 a = none) (ne : d ≠ a) : upd (del (upd (upd (upd (upd H1 a x) d y) a z) d y2) a) d w = upd H1 d w := by
  funext b
  by_cases hb : b = d
  · rw [hb, upd_same, upd_same]
  · rw [upd_ne hb, upd_ne hb]
    by_cases hc : b = a
    · rw [hc, del_same, n]
    · rw [del_ne hc, upd_ne hb, upd_ne hc, upd_ne hb, upd_ne hc]
section
variable {X : Cx} {E : XK} {c : Str} {C fI : Addr} {fd : FuncData} {k : Nat} {p pos pos' : Pos} {e : Expr} {es : List Expr} {ms : Env → Sto → R (List T)}
/-- what is asked of an error's class that is made with arguments -/
structure MkC (K : PySem.W.Frag) (mg : Str → Option Value) (c : Str) (C fI : Addr) : Prop where
  T : OexC K C
  iC : PySem.W.findIn K (.ref C) "__init__" = some (some (.ref fI))
  tI : PySem.W.typeIn K (.ref fI) = some (.type "function")
  hm : mg c = some (.ref C)
  ga : gaK K c = some C
theorem s_raise1 {f : Str} (M : MkC X.K X.mg c C fI) (hf : PySem.W.findIn X.K (.ref C) f = some none) (F1 : FnOk X.prog X.w X.K X.mg X.base CX0 k fI fd ["self", f] (spI1 X.K f)) (hr : Room (k + 1) X.A) (hb : Binds X.K fd ["self", f] []) (hc : X.calm = true) (tk : Takes X (fun cls d _ H => E cls d H))
    (hg : Gl X c) (ha : PA X (e :: es) (tA X.K E ms)) (hdb : (c == ("__debug__" : Str)) = false := by decide) (he : starEach (e :: es) X.env = (false, eval e X.env) :: starEach es X.env := by rfl) (hpl : (backTo pos (starEach es X.env)).any (·.1) = false := by rfl) :
    PS X (.Raise (some (.Call (.Name c p) (e :: es) [] pos)) none pos') (tS X.K E (mRaise c [f] ms)) :=
  PS.of (ps_raise hc tk (pmk_oex M.T M.iC M.tI F1 hr hb .nil (passA (E := fun _ _ _ => False)) hg M.hm ha hdb he hpl)) fun D σ H ⟨ρ, τ, S, s, en, h⟩ => ⟨ρ, τ, S, s, en, h.step fun ρ1 H1 ts S1 e1 s1 h1 vs rs => by
    split at h1
    · rename_i hl
      obtain ⟨t, rfl⟩ : ∃ t, ts = [t] := List.length_eq_one_iff.mp hl.1
      have lv := rs.length
      obtain ⟨v, rfl⟩ : ∃ v, vs = [v] := List.length_eq_one_iff.mp lv
      refine ⟨(by show 1 ≤ 1000; decide), fun a n => ⟨a, C, v, rfl, M.T, hf, upd_same, fun dx nd ne => ?_⟩⟩
      rw [upd_ne ne] at nd
      refine ⟨rfl, dx, [(f, v)], upd_same, by rw [upd_ne ne]; exact upd_same, nd, ?_⟩
      rw [made_heap n ne]
      exact h1 ρ1 _ C (some dx) [v] (Ext.push nd (s1.new nd)) (s1.push nd) M.ga ⟨rfl, upd_same, s1.new nd, rfl⟩ (rs.ext (Ext.push nd (s1.new nd)))
    · exact h1.elim⟩
theorem s_raise2 {f g : Str} (M : MkC X.K X.mg c C fI) (hf : PySem.W.findIn X.K (.ref C) f = some none) (hf2 : PySem.W.findIn X.K (.ref C) g = some none) (F1 : FnOk X.prog X.w X.K X.mg X.base CX0 k fI fd ["self", f, g] (spI2 X.K f g)) (hr : Room (k + 1) X.A) (hb : Binds X.K fd ["self", f, g] []) (hc : X.calm = true) (tk : Takes X (fun cls d _ H => E cls d H))
    (hg : Gl X c) (ha : PA X (e :: es) (tA X.K E ms)) (hdb : (c == ("__debug__" : Str)) = false := by decide) (he : starEach (e :: es) X.env = (false, eval e X.env) :: starEach es X.env := by rfl) (hpl : (backTo pos (starEach es X.env)).any (·.1) = false := by rfl) :
    PS X (.Raise (some (.Call (.Name c p) (e :: es) [] pos)) none pos') (tS X.K E (mRaise c [g, f] ms)) :=
  PS.of (ps_raise hc tk (pmk_oex M.T M.iC M.tI F1 hr hb .nil (passA (E := fun _ _ _ => False)) hg M.hm ha hdb he hpl)) fun D σ H ⟨ρ, τ, S, s, en, h⟩ => ⟨ρ, τ, S, s, en, h.step fun ρ1 H1 ts S1 e1 s1 h1 vs rs => by
    split at h1
    · rename_i hl
      obtain ⟨t, u, rfl⟩ : ∃ t u, ts = [t, u] := two_of hl.1
      have lv := rs.length
      obtain ⟨v, z, rfl⟩ : ∃ v z, vs = [v, z] := two_of lv
      refine ⟨(by show 2 ≤ 1000; decide), fun a n => ⟨a, C, v, z, rfl, M.T, hf, hf2, upd_same, fun dx nd ne => ?_⟩⟩
      rw [upd_ne ne] at nd
      refine ⟨rfl, dx, [(g, z), (f, v)], by rw [upd_ne (Ne.symm ne)]; exact upd_same, upd_same, nd, ?_⟩
      rw [made_heap2 n ne]
      exact h1 ρ1 _ C (some dx) [z, v] (Ext.push nd (s1.new nd)) (s1.push nd) M.ga ⟨rfl, upd_same, s1.new nd, rfl⟩ (rs.reverse.ext (Ext.push nd (s1.new nd)))
    · exact h1.elim⟩
end

/-! ### defs that raise, called -/
def runFX (N : Nat) (b : Env → Sto → R Fl) (ts : List T) (S : Sto) : R T := (b (ts.map some ++ List.replicate (N - ts.length) none) S).bind fun f S1 => match f with
  | .nx _ => .ok .non S1
  | .rt t => .ok t S1
  | _ => .bad
section
variable {P : Program} {w : World} {K : PySem.W.Frag} {mg : Str → Option Value} {base : Heap}
theorem fn_okX {x qual : Str} {st : Stmt} {f : Addr} {fd : FuncData} {N ps : List Str} {k : Nat} {b : Env → Sto → R Fl} (F : L2.Fun K x qual st f fd) (S : FnScope N ps (defScope st))
    (hb : ∀ (cdv : Value) (A : Around) (outer : List PySem.Env) (s : Shared) (H : Hp) (E : XK), Room k (A.deeper (envOfC qual (defScope st) s.heap.objs.size f cdv)) →
      Takes (cxOf (L2.CX P w) P w K mg base N qual (defScope st) f cdv A outer s H E) (fun cls d _ H => E cls d H) →
      PassesOwn (model P w) (cxOf (L2.CX P w) P w K mg base N qual (defScope st) f cdv A outer s H E).A (cxOf (L2.CX P w) P w K mg base N qual (defScope st) f cdv A outer s H E).env (cxOf (L2.CX P w) P w K mg base N qual (defScope st) f cdv A outer s H E).xe →
      PSs (cxOf (L2.CX P w) P w K mg base N qual (defScope st) f cdv A outer s H E) (defBody st) (tS K E b)) :
    FnOk P w K mg base (L2.CX P w) (k + 1) f fd ps (spM K ps.length (runFX N.length b)) :=
  F.okX S (fun vs H Q E ⟨ρ, S, ts, l, s, r, h⟩ => by rw [r.length, l]) fun cdv A outer s H vs Q E hr ⟨ρ, S, ts, l, st, r, h⟩ => ⟨_, hb cdv A outer s H E hr (takes_of rfl rfl rfl rfl) (passes_of rfl), ρ, _, S, st, reps_env r, by
    unfold runFX at h
    refine h.step fun ρ2 H2 f S2 x2 s2 q => ?_
    cases f with
    | nx τ => exact fun σ e => q.ok s2 _ .non
    | rt t => exact fun v rv => q.ok s2 v rv
    | bk τ => exact q.elim
    | ct τ => exact q.elim⟩
end
section
variable {X : Cx} {E : XK} {k n : Nat} {f : Addr} {fd : FuncData} {ps : List Str} {F : List T → Sto → R T} {x : Str} {p pos : Pos} {e : Expr} {es : List Expr} {ms : Env → Sto → R (List T)}
theorem x_callX (G : FnOk X.prog X.w X.K X.mg X.base (L2.CX X.prog X.w) k f fd ps (spM X.K n F)) (tk : Takes X (fun cls d _ H => E cls d H)) (hr : Room k X.A) (hg : Gl X x) (hm : X.mg x = some (.ref f)) (hk : PySem.W.keepIn X.K (.ref f) = true) (hb : Binds X.K fd ps [])
    (ha : PA X (e :: es) (tA X.K E ms)) (hn : (e :: es).length = n := by rfl) (hdb : (x == ("__debug__" : Str)) = false := by decide) (he : starEach (e :: es) X.env = (false, eval e X.env) :: starEach es X.env := by rfl) (hpl : (backTo pos (starEach es X.env)).any (·.1) = false := by rfl) :
    PE X (.Call (.Name x p) (e :: es) [] pos) (tM X.K E (mFn (fun ts S => if ts.length = n then F ts S else .bad) ms)) :=
  PE.of (pe_call G hr hg hm hk hb .nil (passes_call tk fun _ _ _ _ h => h) ha hdb he hpl) fun σ H Q ⟨ρ, τ, S, s, e, h⟩ => ⟨ρ, τ, S, s, e, h.step fun ρ1 H1 ts S1 e1 s1 h1 vs rs => by
    split at h1
    · rename_i hl
      exact ⟨ρ1, S1, ts, hl, s1, by rw [List.append_nil]; exact rs, h1⟩
    · exact h1.elim⟩
/-- as an expression whose wish looks at the slots: within a try -/
theorem x_callW {W : WX} (G : FnOk X.prog X.w X.K X.mg X.base (L2.CX X.prog X.w) k f fd ps (spM X.K n F)) (tk : Takes X W) (hr : Room k X.A) (hg : Gl X x) (hm : X.mg x = some (.ref f)) (hk : PySem.W.keepIn X.K (.ref f) = true) (hb : Binds X.K fd ps [])
    (ha : ∀ E, PA X (e :: es) (tA X.K E ms)) (hn : (e :: es).length = n := by rfl) (hdb : (x == ("__debug__" : Str)) = false := by decide) (he : starEach (e :: es) X.env = (false, eval e X.env) :: starEach es X.env := by rfl) (hpl : (backTo pos (starEach es X.env)).any (·.1) = false := by rfl) :
    PE X (.Call (.Name x p) (e :: es) [] pos) (fun σ H Q => tM X.K (WE W σ) (mFn (fun ts S => if ts.length = n then F ts S else .bad) ms) σ H Q) :=
  PE.of (pe_callS (E := WE W) (t := fun σ H Q => tA X.K (WE W σ) ms σ H Q) G hr hg hm hk hb (fun σ => passAt tk σ) ⟨fun pos pins s σ H Q I h => (ha (WE W σ)).run pos pins s σ H Q I h⟩ hdb he hpl) fun σ H Q ⟨ρ, τ, S, s, e, h⟩ => ⟨ρ, τ, S, s, e, h.step fun ρ1 H1 ts S1 e1 s1 h1 vs rs => by
    split at h1
    · rename_i hl
      exact ⟨ρ1, S1, ts, hl, s1, rs, h1⟩
    · exact h1.elim⟩
end

/-! ### a def that raises and looks at the first things of the store alone -/
noncomputable def frameX (n : Nat) (fz : Bool) (F : List T → Sto → R T) (ts : List T) (S : Sto) : R T :=
  ifP (n ≤ S.length ∧ cls n ts = true ∧ (S.take n).all (clO n) = true) (match F ts (S.take n) with
    | .ok t S1 => ifP (n ≤ S1.length ∧ (S1.take n).all (clO n) = true ∧ cl n (thaw n fz t S1) = true) (.ok (thaw n fz t S1) (S1.take n ++ S.drop n)) .bad
    | .err x S1 => ifP (n ≤ S1.length ∧ (S1.take n).all (clO n) = true ∧ cls n x.ts = true) (.err x (S1.take n ++ S.drop n)) .bad
    | .bad => .bad) .bad
section
variable {K : PySem.W.Frag} {n : Nat}
theorem frameX_sp {m : Nat} {fz : Bool} {F : List T → Sto → R T} {vs : List V} {H : Hp} {Q : VK} {E : XK} (h : spM K m (frameX n fz F) vs H Q E) : spM K m F vs H Q E := by
  obtain ⟨ρ, S, ts, l, s, r, h⟩ := h
  unfold frameX at h
  obtain ⟨⟨h1, h2, h3⟩, h⟩ := h.ifP
  refine ⟨ρ.part n, S.take n, ts, l, s.part h1 h3, r.toC (fun i a hi q => ?_) (fun b q => by rw [part_av]; exact q) h2, ?_⟩
  · show (ρ.at_.take n)[i]? = some a
    rw [List.getElem?_take, if_pos hi]
    exact q
  · cases hF : F ts (S.take n) with
    | bad => rw [hF] at h; exact h.elim
    | err x S1 =>
      rw [hF] at h
      obtain ⟨⟨q1, q2, q3⟩, h⟩ := Post.ifP h
      intro ρ' H' C d ws e s' g xd rs
      obtain ⟨A, B, C', s2⟩ := part_back s h1 e s' q1 q2
      exact h ρ H' C d ws C' s2 g (xd.mono fun b o z q => ⟨z, B _ q⟩) (rs.toC A B q3)
    | ok t S1 =>
      rw [hF] at h
      obtain ⟨⟨q1, q2, q3⟩, h⟩ := Post.ifP h
      intro ρ' H' e s' v rv
      obtain ⟨A, B, C, s2⟩ := part_back s h1 e s' q1 q2
      exact h ρ H' C s2 v (thaw_rep s e h1 s' B A q3 rv)
end
theorem FnOk.framedX {P : Program} {w : World} {K : PySem.W.Frag} {mg : Str → Option Value} {base : Heap} {CX : CXT} {k : Nat} {f : Addr} {fd : FuncData} {ps : List Str} {m : Nat} {F : List T → Sto → R T} (G : FnOk P w K mg base CX k f fd ps (spM K m F)) (n : Nat) (fz : Bool) : FnOk P w K mg base CX k f fd ps (spM K m (frameX n fz F)) :=
  G.imp fun _ _ _ _ h => frameX_sp h
end Fx
set_option maxHeartbeats 2000000
namespace Fx
open PySem PySem.Spec PyProof.Rows L2 L2H

/-! ### a caught error is told of from here on -/
theorem exh_ok {P : Program} {w : World} {H : Hp} {h : Heap} {a C : Addr} {d : Option Addr} {oe : Obj} {vs : Array Value} (e : h.get? a = some oe) (z : Zc (.ref C) d oe) (hd : oe.data = .fields vs) : ObjOk P w H h a (exh a C d) :=
  ⟨⟨oe, vs, e, z, hd⟩, ⟨oe, e⟩, fun _ _ ⟨o, v, q, r⟩ k => ⟨o, v, k o q, r⟩⟩
section
variable {X : Cx} {pins : List (Addr × Obj)} {σ : L2.St} {H : Hp} {s : Shared}
theorem inv_tell {a C : Addr} {d : Option Addr} {oe : Obj} {vs : Array Value} (I : Inv X pins σ H s) (na : H a = none) (he : s.heap.get? a = some oe) (hz : Zc (.ref C) d oe) (hd : oe.data = .fields vs) (n0 : X.s_0.heap.get? a = none) (nL : a ≠ X.env.locals) (np : ∀ p ∈ X.pn ++ pins, p.1 ≠ a) :
    Inv X pins σ (upd H a (exh a C d)) s where
  ok := I.ok
  os := I.os
  bare := I.bare
  base := ⟨I.base.keep, I.base.slot, fun b o e n hx => by rw [upd_ne (fun z => by rw [z, n0] at e; cases e)]; exact I.base.free b o e n hx, I.base.there,
    fun b xs e => by rw [upd_ne (ne_of_none (I.base.tups b xs e) na)]; exact I.base.tups b xs e, fun b o u e => by rw [upd_ne (ne_of_none (I.base.frzs b o u e) na)]; exact I.base.frzs b o u e,
    fun b ps e => by
      obtain ⟨m, q⟩ := I.base.tbls b ps e
      exact ⟨m, by rw [upd_ne (ne_of_none q na)]; exact q⟩⟩
  loc := I.loc
  cell := I.cell
  free := by rw [upd_ne (Ne.symm nL)]; exact I.free
  freeC := fun x c e => by
    rw [upd_ne (fun z => by
      obtain ⟨v, o, q1, q2⟩ := I.cell x c e
      rw [z, he] at q1
      cases q1
      rw [hd] at q2
      cases q2)]
    exact I.freeC x c e
  pin := fun p hp => by
    obtain ⟨q1, q2, q3⟩ := I.pin p hp
    exact ⟨q1, by rw [upd_ne (np p hp)]; exact q2, q3⟩
  hok := L2.HOk.laidN I.hok (fun _ _ z => z) na (exh_ok he hz hd)
  len := I.len
/-- the context of a suite that handles the error at a -/
theorem inv_suite0 (I : Inv X pins σ H s) (a : Addr) : Inv (X.suite a (X.pn ++ pins)) [] σ H s :=
  ⟨I.ok.suite _ _, I.os, I.bare, I.base, I.loc, I.cell, I.free, I.freeC, fun p hp => I.pin p (by rw [List.append_nil] at hp; exact hp), I.hok, I.len⟩
theorem inv_unsuite0 {a : Addr} {pn' : List (Addr × Obj)} (I : Inv (X.suite a (X.pn ++ pins)) pn' σ H s) (ok : X.Ok) : Inv X pins σ H s :=
  ⟨ok, I.os, I.bare, I.base, I.loc, I.cell, I.free, I.freeC, fun p hp => I.pin p (List.mem_append_left _ hp), I.hok, I.len⟩
end
/-- what the clause 'except x as n' wishes of an error of the body -/
def wAsT (K : PySem.W.Frag) (c : Value) (i : Nat) (ts : TS) (Wout : WX) (D : Ends) : WX := fun cls d σ H =>
  ∃ b, PySem.W.exmOne K cls c = some b ∧ (b = true → ∃ C, cls = .ref C ∧ ∀ a, H a = none → ts { nx := fun σ' H' => D.nx (σ'.set i none) H', rt := D.rt, bk := fun σ' H' => D.bk (σ'.set i none) H', ct := fun σ' H' => D.ct (σ'.set i none) H' } (σ.set i (some (.ref a))) (upd H a (exh a C d))) ∧
    (b = false → Wout cls d σ H)
section
variable {X : Cx} {x n : Str} {c : Value} {i : Nat} {body suite : List Stmt} {b₀ : Stmt} {np pos pos' : Pos} {tb : WX → TS} {ts : TS} {Wout : WX}
theorem ps_try_tell (hs : X.stack = X.env :: X.outer) (hf : X.env.frame = some X.env.locals) (hex : X.ex = []) (hN : X.N.Nodup) (hi : X.N[i]? = some n) (hln : X.env.kindOf n = some .local) (hc : Names X x c) (tk : Takes X Wout)
    (hb : ∀ (W : WX) (pn : List (Addr × Obj)) (xe : Value → Shared → Prop), Takes (X.tr pn xe) W → PassesOwn (model X.prog X.w) X.A X.env xe → PSs (X.tr pn xe) body (tb W))
    (hsu : ∀ (a : Addr) (pn : List (Addr × Obj)), PSs (X.suite a pn) (b₀ :: suite) ts) :
    PS X (.Try body [.ExceptHandler (some (.Name x np)) (some n) (b₀ :: suite) pos'] [] [] pos) (fun D σ H => tb (wAsT X.K c i ts Wout D) D σ H) := by
  refine ⟨fun pins s σ H D I h => ?_⟩
  have ok := I.ok
  have hfr : X.A.frames = some (X.env :: X.outer) := by rw [ok.frames, hs]
  have hloc : Loc X.env.scope n := .inl hln
  refine wpAny_Try_except ?_
  refine wpAny_mono ((hb (wAsT X.K c i ts Wout D) (X.pn ++ pins) (fun e s₁ => wpAny (model X.prog X.w) X.A (noteFrame e X.env) (fun _ s₂ => wpAny (model X.prog X.w) X.A (setFlight e none) (fun _ s₃ =>
    wpAny (model X.prog X.w) X.A (handleBy e X.env [.ExceptHandler (some (.Name x np)) (some n) (b₀ :: suite) pos']) (SP X pins D) X.xe s₃) X.xe s₂) X.xe s₁) (fun u s' xx => ?_) PassesOwn.looking).run [] s σ H D (I.toTry _) h) (fun f s1 hsp => ?_) (fun e s1 he => he)
  · obtain ⟨a, B, sI, pins', σ', H', cls, d, rfl, J', nb, up, sky, na, os, ag, b, hb1, hyes, hno⟩ := xx
    have J : Inv X pins σ' H' sI := J'.ofTry ok
    have sky' : Sky B (X.env :: X.outer) a (Zc cls d) X.env.locals s'.heap := by rw [← hs]; exact sky
    show wpAny (model X.prog X.w) X.A (noteFrame (.ref a) X.env) _ _ _
    refine Sky.land Zc.steady hfr hf sky' fun h3 fl3 up3 => ?_
    have J3 : Inv X pins σ' H' { s' with heap := h3 } := J.landed nb fl3.1 (up.trans up3) os ag
    obtain ⟨oe3, vs3, he3, hz3, hd3⟩ := fl3.there
    have nfr : a ∉ frs (X.env :: X.outer) := fun hm => by
      obtain ⟨_, o', e', hnf⟩ := fl3.2.2.1.mem hm
      rw [he3] at e'; cases e'
      exact hnf _ hd3
    have nL : a ≠ X.env.locals := fun z => nfr (List.mem_filterMap.mpr ⟨X.env, List.mem_cons_self, by rw [hf, z]⟩)
    have nF : a ∉ X.fs := fun hm => by
      obtain ⟨e, he, q⟩ := List.mem_filterMap.mp hm
      exact nfr (List.mem_filterMap.mpr ⟨e, List.mem_cons_of_mem _ he, q⟩)
    have nfr' : a ∉ frs X.stack := by rw [hs]; exact nfr
    have hBa : B.get? a = none := fl3.2.1
    have nI : sI.heap.get? a = none := by
      cases q : sI.heap.get? a with
      | none => rfl
      | some o => rw [nb a o q nfr'] at hBa; cases hBa
    have n0 : X.s_0.heap.get? a = none := by
      cases q : X.s_0.heap.get? a with
      | none => rfl
      | some o =>
        obtain ⟨o', q'⟩ := J.base.there a o q (by rw [hex]; exact fun z => nomatch z)
        rw [nI] at q'; cases q'
    have npr : ∀ p ∈ X.pn ++ pins, p.1 ≠ a := fun p hp z => by
      have q := (J.pin p hp).1
      rw [z, nI] at q; cases q
    have S3 := J3.suite he3 hd3 na nL nF
    refine wpAny_handleBy_cons (codeAny_handlers_test ?_) (by intro q; cases q)
    have LT : PySem.W.Looks (model X.prog X.w) h3 (typeOf (.ref a)) cls := fun A Q E s k q => wpAny_typeOf_ref (k _ _ he3) (by rw [hz3.1]; exact q)
    have LM := PySem.W.exm_one (M := model X.prog X.w) (J3.kIn) LT hb1
    have test : ∀ {Q : Value → Shared → Prop} {E : Value → Shared → Prop}, Q c { s' with heap := h3 } → wpAny (model X.prog X.w) (X.A.mark (some (.ref a))) (eval (.Name x np) X.env) Q E { s' with heap := h3 } := fun {Q E} q => by
      obtain ⟨hg, hdbg, hm | ⟨hm, hv, hnn⟩⟩ := hc
      · exact ld_glob (X := X.suite a ((a, oe3) :: (X.pn ++ pins))) S3 hg hm q hdbg
      · exact ld_blt (X := X.suite a ((a, oe3) :: (X.pn ++ pins))) S3 hg hm hv q hnn hdbg
    refine test (LM.here ?_)
    cases b with
    | true =>
      refine codeAny_handlers_suite_as ?_
      refine HandSPX.lands_againZ fl3 fun h4 fl4 up4 => ?_
      have J4 : Inv X pins σ' H' { s' with heap := h4 } := J.landed nb fl4.1 ((up.trans up3).trans up4) os ag
      obtain ⟨oe4, vs4, he4, hz4, hd4⟩ := fl4.there
      obtain ⟨C, rfl, hy⟩ := hyes rfl
      have S4 := inv_suite0 (inv_tell J4 na he4 hz4 hd4 n0 nL npr) a
      refine store_ok (X := X.suite a (X.pn ++ pins)) (v := .ref a) S4 hN hi hloc rfl (fun s5 S5 => ?_) (.inr hln)
      refine wpAny_mono ((hsu a (X.pn ++ pins)).run [] s5 _ _ _ S5 (hy a na)) (fun f s6 hsp => ?_) (fun _ _ z => False.elim z)
      have end_ : ∀ {σ6 : L2.St} {H6 : Hp} {Q : Shared → Prop}, Inv (X.suite a (X.pn ++ pins)) [] σ6 H6 s6 → (∀ s7, Inv X pins (σ6.set i none) H6 s7 → Q s7) →
          wpAny (model X.prog X.w) X.A (do bindName X.env n .none; unbindBehindTheSuite X.env n pos') (fun _ s7 => Q s7) X.xe s6 := fun {σ6 H6 Q} S6 hq => gone_ok (inv_unsuite0 S6 ok) hN hi hln hq
      cases f with
      | next =>
        obtain ⟨σ6, H6, S6, q6⟩ := hsp
        exact end_ S6 fun s7 J7 => ⟨_, _, J7, q6⟩
      | brk =>
        obtain ⟨σ6, H6, S6, q6⟩ := hsp
        exact end_ S6 fun s7 J7 => ⟨_, _, J7, q6⟩
      | cont =>
        obtain ⟨σ6, H6, S6, q6⟩ := hsp
        exact end_ S6 fun s7 J7 => ⟨_, _, J7, q6⟩
      | ret u =>
        obtain ⟨v6, σ6, H6, S6, r6, q6⟩ := hsp
        exact end_ S6 fun s7 J7 => ⟨_, _, _, J7, r6, q6⟩
    | false =>
      show wpAny _ X.A (handleBy (.ref a) X.env []) _ _ _
      refine wpAny_handleBy_nil ?_
      obtain ⟨k1, k2, k3, oe, vs, T, oT, ts', he, hz, hd, h1, hr⟩ := id fl3
      unfold PySem.passOn
      refine wpAny_bind (wpAny_field he hd h1 ?_)
      rw [if_neg (show ¬ ((Value.ref T == Value.none) = true) from by simp)]
      have fin : wpAny (model X.prog X.w) X.A (setFlight (.ref a) X.env.frame) (fun _ s4 => wpAny (model X.prog X.w) X.A (throw (.ref a) : Sem Flow) (SP X pins D) X.xe s4) X.xe { s' with heap := h3 } := by
        rw [hf]
        refine HandSPX.setFlight_upZ fl3 fun h4 hh4 up4 => wpAny_throw (tk _ _ ?_)
        exact ⟨a, B, sI, pins, σ', H', cls, d, rfl, J, nb, (up.trans up3).trans up4, .inr (.inr (by rw [hs]; exact hh4)), na, os, ag, hno rfl⟩
      first
        | exact wpAny_bind (wpAny_pure (wpAny_bind fin))
        | exact wpAny_bind fin
  · cases f with
    | next =>
      obtain ⟨σ', H', J', q⟩ := hsp
      exact wpAny_execs_nil ⟨σ', H', J'.ofTry ok, q⟩
    | brk =>
      obtain ⟨σ', H', J', q⟩ := hsp
      exact ⟨σ', H', J'.ofTry ok, q⟩
    | cont =>
      obtain ⟨σ', H', J', q⟩ := hsp
      exact ⟨σ', H', J'.ofTry ok, q⟩
    | ret u =>
      obtain ⟨v, σ', H', J', r, q⟩ := hsp
      exact ⟨v, σ', H', J'.ofTry ok, r, q⟩
end

/-! ### try: return e / except D as n: suite -/
def wipeFl (i : Nat) (f : Fl) : Fl := match f with
  | .nx τ => .nx (τ.set i none)
  | .bk τ => .bk (τ.set i none)
  | .ct τ => .ct (τ.set i none)
  | .rt t => .rt t
def sTryRet (tab : Str → Option Bool) (i : Nat) (m : Env → Sto → R T) (ms : Env → Sto → R Fl) : Env → Sto → R Fl := fun τ S => match m τ S with
  | .ok t S1 => .ok (.rt t) S1
  | .err x S1 => match tab x.cls with
    | some true => (noErr (ms (τ.set i (some (.exn x.cls x.own x.ns x.ts))) S1)).bind fun f S2 => .ok (wipeFl i f) S2
    | some false => .err x S1
    | none => .bad
  | .bad => .bad
/-- 'except D' of an error of the class named c -/
def ExmT (K : PySem.W.Frag) (c : Str) (D : Value) (b : Bool) : Prop := ∀ C, gaK K c = some C → PySem.W.exmOne K (.ref C) D = some b
theorem REnv.wipe1 {K : PySem.W.Frag} {ρ : Wd} {H : Hp} {σ : L2.St} {τ : Env} (e : REnv K ρ H σ τ) (i : Nat) : REnv K ρ H (σ.set i none) (τ.set i none) := ⟨by rw [List.length_set, List.length_set, e.len], fun j t h => by
  rw [List.getElem?_set] at h ⊢
  split at h
  · split at h <;> cases h
  · rename_i q
    rw [if_neg q]
    exact e.at_ j t h⟩
section
variable {X : Cx} {E : XK} {x n : Str} {c : Value} {i : Nat} {suite : List Stmt} {b₀ : Stmt} {e : Expr} {np pos pos' posr : Pos} {tab : Str → Option Bool} {m : Env → Sto → R T} {ms : Env → Sto → R Fl}
theorem s_tryRet (hs : X.stack = X.env :: X.outer) (hf : X.env.frame = some X.env.locals) (hex : X.ex = []) (hN : X.N.Nodup) (hi : X.N[i]? = some n) (hln : X.env.kindOf n = some .local) (hc : Names X x c) (tk : Takes X (fun cls d _ H => E cls d H))
    (ht : ∀ cn b, tab cn = some b → ExmT X.K cn c b)
    (hb : ∀ (W : WX) (pn : List (Addr × Obj)) (xe : Value → Shared → Prop), Takes (X.tr pn xe) W → PE (X.tr pn xe) e (fun σ H Q => tM X.K (WE W σ) m σ H Q))
    (hsu : ∀ (a : Addr) (pn : List (Addr × Obj)), PSs (X.suite a pn) (b₀ :: suite) (tS X.K E0 ms)) :
    PS X (.Try [.Return (some e) posr] [.ExceptHandler (some (.Name x np)) (some n) (b₀ :: suite) pos'] [] [] pos) (tS X.K E (sTryRet tab i m ms)) :=
  PS.of (ps_try_tell (tb := fun W D σ H => tM X.K (WE W σ) m σ H D.rt) hs hf hex hN hi hln hc tk (fun W pn xe t _ => pss_one (ps_ret (hb W pn xe t))) hsu) fun D σ H ⟨ρ, τ, S, s, en, h⟩ => ⟨ρ, τ, S, s, en, by
    unfold sTryRet at h
    cases hm : m τ S with
    | bad => rw [hm] at h; exact h.elim
    | ok t S1 =>
      rw [hm] at h
      exact fun ρ1 H1 e1 s1 v rv => h ρ1 H1 e1 s1 v rv
    | err y S1 =>
      rw [hm] at h
      intro ρ1 H1 C d vs e1 s1 g xd rs
      have h : Post X.K E ρ H (match tab y.cls with
        | some true => (noErr (ms (τ.set i (some (.exn y.cls y.own y.ns y.ts))) S1)).bind fun f S2 => .ok (wipeFl i f) S2
        | some false => .err y S1
        | none => .bad) (QS X.K D) := h
      cases hy : tab y.cls with
      | none => rw [hy] at h; exact h.elim
      | some b =>
      rw [hy] at h
      cases b with
      | true =>
        refine ⟨true, ht _ _ hy C g, fun _ => ⟨C, rfl, fun a na => ?_⟩, fun z => absurd z.symm Bool.false_ne_true⟩
        have e2 := Ext.push (o := exh a C d) na (s1.new na)
        have r : Rep X.K ρ1 (upd H1 a (exh a C d)) (.ref a) (.exn y.cls y.own y.ns y.ts) := .exn g upd_same (s1.new na) (xd.mono fun b o z q => ⟨e2.keep b o z (Wd.at_av q), q⟩) (rs.ext e2)
        refine ⟨ρ1, _, S1, s1.push na, ((en.ext e1).ext e2).set i r, ?_⟩
        refine h.at0 (e1.trans e2) fun ρ3 H3 f S3 e3 s3 q => ?_
        have q : QS X.K D ρ3 H3 (wipeFl i f) S3 := q ρ3 H3 ((e1.trans e2).trans e3) s3
        cases f with
        | nx τ' => exact fun σ' z => q (σ'.set i none) (z.wipe1 i)
        | bk τ' => exact fun σ' z => q (σ'.set i none) (z.wipe1 i)
        | ct τ' => exact fun σ' z => q (σ'.set i none) (z.wipe1 i)
        | rt t => exact fun v rv => q v rv
      | false => exact ⟨false, ht _ _ hy C g, fun z => absurd z Bool.false_ne_true, fun _ => h ρ1 H1 C d vs e1 s1 g xd rs⟩⟩
end
end Fx
namespace Fx
open PySem PySem.Spec PyProof.Rows L2 L2H
/-! ### for gen.py -/
def clsBody (s : Stmt) (i : Nat) : Stmt := match s with
  | .ClassDef _ _ _ b .. => b.getD i (.Pass ⟨0, 0, 0, 0⟩)
  | _ => .Pass ⟨0, 0, 0, 0⟩
theorem roomS {k : Nat} {A : Around} (r : Room k A) (v : Option Value) : RoomH k (A.mark v) := ⟨r.dp, r.un⟩
theorem _root_.L2H.RoomH.units {k : Nat} {A : Around} (r : RoomH k A) : A.units + 64 < cLine := by have := r.un; omega
theorem hu65H {k : Nat} {A : Around} (hr : RoomH k A) : A.units + 65 < cLine := by have := hr.un; omega
theorem takesE {X : Cx} : Takes X (fun cls d _ H => E0 cls d H) := fun _ _ x => by
  obtain ⟨_, _, _, _, _, _, _, _, _, _, _, _, _, _, _, _, z⟩ := x
  exact z.elim
/-- what the written part says of an error class over ValueError that has its own __init__ -/
def oexB (K : PySem.W.Frag) (C : Addr) : Bool := (match K.lookup C with
  | some ⟨.type "type", _, .cls cd, sl⟩ => (match cd.mro, sl.toList with
    | .ref C' :: bm, [_, _, _, _, some (.builtin n), _] => C' == C && (n == "ValueError.__new__" && (!cd.hasDel && (cd.hasDict && PySem.HandSPX.refsVE bm)))
    | _, _ => false)
  | _ => false) && (decide (PySem.W.findIn K (.ref C) "__setattr__" = some (some (.builtin "object.__setattr__"))) && (decide (PySem.W.subIn K (.ref C) (.type "BaseException") = some true) && (decide (PySem.W.typeIn K (.ref C) = some (.type "type")) && PySem.W.keepIn K (.ref C))))
theorem oexB_ok {K : PySem.W.Frag} {C : Addr} (h : oexB K C = true) : OexC K C := by
  unfold oexB at h
  rw [Bool.and_eq_true] at h
  obtain ⟨q, h⟩ := h
  simp only [Bool.and_eq_true, decide_eq_true_eq] at h
  refine ⟨?_, h.1, h.2.1, h.2.2.1, h.2.2.2⟩
  split at q
  · rename_i dd cd sl ho
    split at q
    · rename_i C' bm k0 k1 k2 k3 n k5 hm hs
      simp only [Bool.and_eq_true, beq_iff_eq, Bool.not_eq_true'] at q
      obtain ⟨rfl, rfl, hdel, hdict, hr⟩ := q
      obtain ⟨nm, bs, mro, ns, qn, hd, sn, sub, ab, col, del⟩ := cd
      dsimp only at hm hdel hdict
      subst hm hdel hdict
      have hsl : sl = #[k0, k1, k2, k3, some (.builtin "ValueError.__new__"), k5] := by
        obtain ⟨l⟩ := sl
        simp only at hs
        rw [hs]
      subst hsl
      exact ⟨nm, qn, ns, bs, bm, sn, sub, ab, col, dd, k0, k1, k2, k3, k5, ho, hr⟩
    · cases q
  · cases q
theorem gaK_of {K : PySem.W.Frag} {c : Str} {f : Addr} (h : PySem.W.nsIn K mainGlobals c = some (some (.ref f))) : gaK K c = some f := by unfold gaK; rw [h]
theorem exmT_of {K : PySem.W.Frag} {c : Str} {C : Addr} {D : Value} {b : Bool} (g : gaK K c = some C) (h : PySem.W.exmOne K (.ref C) D = some b) : ExmT K c D b := fun C' g' => by
  rw [g] at g'
  cases g'
  exact h
theorem bt_ValueError : bootBuiltins "ValueError" = some (.type "ValueError") := PyProof.Rows.Boot.«ValueError»
end Fx
set_option maxHeartbeats 2000000
namespace Fx
open PySem PySem.Spec PyProof.Rows L2 RT
/-! ### list(reversed(x)) of a list -/
section
variable {prog : Program} {w : World} {A : Around} {E : Value → Shared → Prop} {s : Shared}
theorem extend_rev {R : Result → Shared → Prop} {it l : Addr} {items : Array Value} (hh : A.handled = none) (hit : s.heap.IsRevIter it l ((items.size : Int) - 1)) (hl : s.heap.IsList l items) (hne : l ≠ it) (hn : items.size ≤ sizeLine)
    (S : Addr) (res : Value) (c₀ : Nat) (hS : s.heap.get? S = some { cls := .type "list", data := .seq #[] c₀ }) (hSi : S ≠ it) (hSl : S ≠ l)
    (hR : ∀ h' tk acc' c', (∀ b o, b ≠ S → b ≠ it → s.heap.get? b = some o → h'.get? b = some o) → h'.get? S = some { cls := .type "list", dict := none, data := .seq acc' c', slots := #[] } →
      ItemsOf (fun i v => items[items.size - 1 - i]? = some v) acc' items.size → R (.ok (.ret res)) { s with heap := h', toks := tk }) :
    wpAny (model prog w) A.in1 (Builtin.List.listExtendWith (.ref S) (.ref it) res)
      (fun fin s' => match fin with | .done f => R (.ok f) s' | .again c' => c'.quiet = true ∧ codeAny (model prog w) A c' R s') (fun e s' => R (.error e) s') s := by
  have W := (Walks.listRev (prog := prog) (w := w) (A := A.in1) hh it l hne items).toS
  have hSf : S ∉ [it, l] := by simp only [List.mem_cons, List.not_mem_nil, or_false, not_or]; exact ⟨hSi, hSl⟩
  have hT : s.TypeIs (.ref it) "list_reverseiterator" := hit.typeIs
  have h1 : Builtin.List.listSameRef (.ref S) (.ref it) = false := by simp [Builtin.List.listSameRef, hSi]
  unfold Builtin.List.listExtendWith
  refine wpAny_bind (wpAny_typeOf hT ?_)
  rw [if_neg (by rw [h1]; decide)]
  refine wpAny_bind (wpAny_pyIter_revIter hit ?_)
  refine wpAny_bind (wpAny_holding ?_)
  unfold Builtin.List.listLengthHint
  refine wpAny_bind (wpAny_specialOf hT nolen_lri ?_)
  show wpAny _ A.in1 (specialOf (Value.ref it) (Str.ofString "__length_hint__") >>= _) _ _ _
  refine wpAny_bind (wpAny_specialOf hT hint_lri ?_)
  generalize hid : ("list_reverseiterator.__length_hint__" : String) = id0
  wp_delta
  rw [show splitId id0 = some ("list_reverseiterator", "__length_hint__") from by subst hid; decide +kernel]
  subst hid
  refine wpAny_bind (wpAny_isInstance (b := true) hT (by rw [isSubtype_type]; kernel_rfl) ?_)
  refine wpAny_pure ?_
  rw [if_neg (by decide)]
  have e0 : ((items.size : Nat) : Int) - 1 - ((0 : Nat) : Int) = (items.size : Int) - 1 := by omega
  refine wpAny_pure ⟨plainId_quiet F.plain_extend_loop _, codeAny_extend_loopS W hn _ hSf _ items.size 0 _ _ _ rfl (Nat.zero_le _) ⟨Nat.zero_le _, by rw [e0]; exact hit, hl⟩ hS (ItemsOf.nil _) fun s' acc' c' hm hS' hacc => ?_⟩
  rw [Moved.eq_with hm]
  refine hR s'.heap s'.toks acc' c' (fun b o hb hb2 e => hm.heap b o (fun hmem => ?_) e) hS' hacc
  rcases List.mem_cons.mp hmem with e' | hmem
  · exact hb e'
  · exact hb2 (List.mem_singleton.mp hmem)
theorem init_rev {R : Result → Shared → Prop} {it l : Addr} {items : Array Value} (hh : A.handled = none) (hit : s.heap.IsRevIter it l ((items.size : Int) - 1)) (hl : s.heap.IsList l items) (hne : l ≠ it) (hn : items.size ≤ sizeLine)
    (S : Addr) (hS : s.heap.get? S = some { cls := .type "list", data := .seq #[] }) (hSi : S ≠ it) (hSl : S ≠ l)
    (hR : ∀ h' tk acc' c', (∀ b o, b ≠ S → b ≠ it → s.heap.get? b = some o → h'.get? b = some o) → h'.get? S = some { cls := .type "list", dict := none, data := .seq acc' c', slots := #[] } →
      ItemsOf (fun i v => items[items.size - 1 - i]? = some v) acc' items.size → R (.ok (.ret .none)) { s with heap := h', toks := tk }) :
    wpAny (model prog w) A.in1 (Builtin.«list.__init__» ⟨[.ref S, .ref it], []⟩)
      (fun fin s' => match fin with | .done f => R (.ok f) s' | .again c' => c'.quiet = true ∧ codeAny (model prog w) A c' R s') (fun e s' => R (.error e) s') s := by
  show wpAny _ _ (do let old ← Builtin.List.listItems (.ref S); Builtin.List.listUpdate (.ref S) (fun _ => #[]); letGo old.toList.reverse; Builtin.List.listExtendWith (.ref S) (.ref it) .none) _ _ s
  refine wpAny_bind ?_
  unfold Builtin.List.listItems
  refine wpAny_bind (wpAny_seqItems hS rfl (wpAny_pure ?_))
  show wpAny _ _ (updateSeq S (fun _ => #[]) >>= fun _ => letGo (#[] : Array Value).toList.reverse >>= fun _ => Builtin.List.listExtendWith (.ref S) (.ref it) .none) _ _ s
  refine wpAny_bind (wpAny_updateSeq hS rfl ?_)
  have hS₂ := Heap.get?_update_self (Obj.mapSeq (fun _ => (#[] : Array Value))) hS rfl
  have oth : ∀ b o, b ≠ S → s.heap.get? b = some o → (s.heap.update S (Obj.mapSeq (fun _ => (#[] : Array Value)))).get? b = some o :=
    fun b o hb e => (Heap.get?_update_other _ _ (Ne.symm hb)).trans e
  refine wpAny_bind (wpAny_letGo ?_)
  obtain ⟨ol, hol, hc, n, hd⟩ := id hl
  refine extend_rev hh (hit.at fun o e => oth it o (Ne.symm hSi) e) ⟨ol, oth l ol (Ne.symm hSl) hol, hc, n, hd⟩ hne hn S .none _ hS₂ hSi hSl fun h' tk acc' c' hk hS' hacc => ?_
  exact hR h' tk acc' c' (fun b o hb hb2 e => hk b o hb hb2 (oth b o hb e)) hS' hacc
theorem call_list_rev {Q : Value → Shared → Prop} {it l : Addr} {items : Array Value} (hh : A.handled = none) (hit : s.heap.IsRevIter it l ((items.size : Int) - 1)) (hl : s.heap.IsList l items) (hne : l ≠ it) (hn : items.size ≤ sizeLine)
    (hQ : ∀ h' tk acc' c', (∀ b o, b ≠ it → s.heap.get? b = some o → h'.get? b = some o) →
      h'.get? s.heap.objs.size = some { cls := .type "list", dict := none, data := .seq acc' c', slots := #[] } → ItemsOf (fun i v => items[items.size - 1 - i]? = some v) acc' items.size → Q (.ref s.heap.objs.size) { s with heap := h', toks := tk }) :
    wpAny (model prog w) A (call (.type "list") [.ref it]) Q E s := by
  obtain ⟨oi, hoi, _⟩ := id hit
  obtain ⟨ol, hol, _⟩ := id hl
  refine callType_codes (Q₁ := fun obj s₁ => obj = .ref s.heap.objs.size ∧ s₁ = { s with heap := s.heap.push { cls := .type "list", data := .seq #[] } }) F.called_list (F.typeCall_list_1 _) F.entry_list_init
    (code_list_new _ ⟨rfl, rfl⟩) fun obj s₁ h₁ => ?_
  obtain ⟨rfl, rfl⟩ := h₁
  have hS : (s.heap.push { cls := .type "list", data := .seq #[] }).get? s.heap.objs.size = some { cls := .type "list", data := .seq #[] } := Heap.get?_push_size _ rfl
  refine ⟨⟨_, hS, rfl⟩, F.args_list_init_2 _ _, init_rev (A := A.in1) hh (hit.at fun o e => Heap.get?_push_of_some _ e) (hl.push _) hne hn _ hS (Nat.ne_of_gt (Heap.lt_size hoi)) (Nat.ne_of_gt (Heap.lt_size hol)) fun h' tk acc' c' hk hS' hacc => ?_⟩
  exact ⟨rfl, hQ h' tk acc' c' (fun b o hb e => hk b o (Nat.ne_of_lt (Heap.lt_size e)) hb (Heap.get?_push_of_some _ e)) hS' hacc⟩
end
def fLstRev (fz : Bool) (t : T) (S : Sto) : R T := match lstOf S t with
  | some ts => newL fz ts.reverse S
  | none => .bad
theorem x_listRev (fz : Bool) {X : Cx} {E : XK} {e : Expr} {m : Env → Sto → R T} {p p2 pos pos2 : Pos} (hc : X.calm = true) (hg : Gl X "list") (hm : X.mg "list" = none) (hg2 : Gl X "reversed") (hm2 : X.mg "reversed" = none) (he : PE X e (tM X.K E m))
    (hs : starEach [e] X.env = (false, eval e X.env) :: starEach [] X.env := by rfl)
    (hs2 : starEach [.Call (.Name "reversed" p2) [e] [] pos2] X.env = (false, eval (.Call (.Name "reversed" p2) [e] [] pos2) X.env) :: starEach [] X.env := by rfl) :
    PE X (.Call (.Name "list" p) [.Call (.Name "reversed" p2) [e] [] pos2] [] pos) (tM X.K E (mUn (fLstRev fz) m)) := ⟨fun pins s σ H Q I ⟨ρ, τ, S, st, en, q⟩ => by
  refine Call_ (ld_blt I hg hm boot_list (PyProof.Rows.callWith_type1 (args_cons (Call_ (ld_blt I hg2 hm2 PyProof.Rows.boot_reversed (PyProof.Rows.callWith_type1 (args_cons (thn (he.run pins s σ H (fun v H1 => ∃ (a : Addr) (xs : List V), v = .ref a ∧ SqL X.K H1 a xs ∧ ∀ q, H1 q = none → Q (.ref q) (upd H1 q (.lst xs.reverse))) I ⟨ρ, τ, S, st, en, q.step fun ρ1 H1 t S1 e1 s1 h1 v rv => by
    unfold fLstRev at h1
    split at h1
    · rename_i ts hts
      obtain ⟨a, xs, rfl, hx, rx⟩ := lstOf_at s1 rv hts
      exact ⟨a, xs, rfl, hx, fun p n => new_lst s1 rx.reverse h1 p n⟩
    · exact h1.elim⟩) fun u s1 w => args_nil ?_) hs) hs rfl))) hs2) hs2 rfl))
  obtain ⟨v, H1, J, rv1, a, xs, ev, hl, k⟩ := w
  subst ev
  obtain rfl : u = Value.ref a := rv1
  obtain ⟨its, rv, isl, hz⟩ := J.list hl
  refine call_reversed_list isl.isList (args_nil ?_)
  obtain ⟨f0, f1, f2, f3, f4, f5⟩ := J.fpOk (H' := H1) (b := s1.heap.objs.size) (Nat.le_refl _) (J.hok.fresh (Nat.le_refl _))
  obtain ⟨ol, hol, _⟩ := id isl.isList
  have small : its.toArray.size ≤ sizeLine := by rw [List.size_toArray, ← rv.length]; exact hz
  have J2 : Inv X pins σ H1 { s1 with heap := s1.heap.push (revObj a ((its.toArray.size : Int) - 1)) } := J.kept (t' := s1.toks) fun c d e => Heap.get?_push_of_some _ e
  refine call_list_rev (s := { s1 with heap := s1.heap.push (revObj a ((its.toArray.size : Int) - 1)) }) (J.ok.hd hc) ⟨_, Heap.get?_push_size _ rfl, rfl, rfl⟩ (isl.isList.push _) (Nat.ne_of_lt (Heap.lt_size hol)) small fun g tk acc c' hk hS hi => ?_
  have n1 : H1 (s1.heap.push (revObj a ((its.toArray.size : Int) - 1))).objs.size = none := J2.hok.fresh (Nat.le_refl _)
  have rv' : Vals xs.reverse acc.toList := RT.vals_rev rv hi
  obtain ⟨G, G1, G2⟩ := restrict g fun b => decide (b ≠ (s1.heap.push (revObj a ((its.toArray.size : Int) - 1))).objs.size)
  have J3 : Inv X pins σ H1 { s1 with heap := G, toks := tk } := J2.turned (t' := tk) (fun c d hb e => by
    rw [G1 c (decide_eq_true (Nat.ne_of_lt (Heap.lt_size e)))]
    exact hk c d hb e) f0 f1 f3 f4 f5
  refine ⟨.ref _, _, J3.laidN (t' := tk) (h' := g) (o := .lst xs.reverse) (fun c d e => ?_) (G2 _ (decide_eq_false fun z => z rfl)) n1 ⟨by rw [List.length_reverse]; exact hz, acc.toList, c', rv', by rw [Array.toArray_toList]; exact hS⟩, rfl, k _ n1⟩
  by_cases hb : c = (s1.heap.push (revObj a ((its.toArray.size : Int) - 1))).objs.size
  · rw [hb, G2 _ (decide_eq_false fun z => z rfl)] at e
    cases e
  · rw [G1 c (decide_eq_true hb)] at e
    exact e⟩
@[simp] theorem ev_listRev (ts : List T) (S : Sto) : fLstRev true (.lst ts) S = .ok (.lst ts.reverse) S := id rfl
/-! ### str(x) of a number or a text -/
def fStrA (xs : List T) (S : Sto) : R T := match xs with
  | [.int i] => if i.natAbs.log2 < 1920 then .ok (.str (toString i)) S else .bad
  | [.str w] => .ok (.str w) S
  | _ => .bad
def rStrA : List V → Hp → VK → Prop := fun xs H Q => rStrI xs H Q ∨ ∃ a, xs = [.str a] ∧ Q (.str a) H
theorem o_strA {X : Cx} : CallR X (.type "str") rStrA := fun pins s σ H xs us Q I r h => by
  rcases h with h | h
  · exact o_str pins s σ H xs us Q I r h
  · exact SkE.call_str_str pins s σ H xs us Q I r h
theorem f_strA {X : Cx} {E : XK} : OpN X.K E rStrA fStrA := by
  intro ρ H S vs ts Q s rs h
  unfold fStrA at h
  split at h
  · rename_i i
    exact .inl (f_str (X := X) (E := E) ρ H S vs _ Q s rs h)
  · rename_i w
    obtain ⟨u, rfl, r⟩ := rs.one
    cases r
    exact .inr ⟨w, rfl, h.ok s _ (.str w)⟩
  · exact h.elim
@[simp] theorem ev_strAs (w : Str) (S : Sto) : fStrA [.str w] S = .ok (.str w) S := id rfl
theorem ev_strAi (i : Int) (S : Sto) : fStrA [.int i] S = fStr [.int i] S := id rfl
end Fx
namespace Go
open PySem PySem.Spec PyProof.Rows L2 Fx
local macro_rules | `(tactic| simp_arith only [$ls,*] $[$l:location]?) => `(tactic| simp only [ev_ok, ev_noErr, ev_C, ev_V, ev_bin, ev_un, ev_nil, ev_cons, ev_fn, ev_ite, ev_tst, ev_toB, ev_and, ev_or, ev_not, ev_andV, ev_orV, ev_notV, ev_tup, ev_lst, ev_newT, ev_newF, ev_meth, ev_tru, ev_true, ev_it, ev_itN, ev_sl, ev_O0, ev_O1, ev_lc, ev_lc2, ev_lstRg, ev_next, ev_seq, ev_set, ev_drop, ev_ret, ev_retN, ev_if, ev_for, ev_put, ev_eqI, ev_eqS, ev_neI, ev_neS, ev_lt, ev_le, ev_gt, ev_ge, ev_sub, ev_neg, ev_addI, ev_addT, ev_addS, ev_addL, ev_int, ev_abs, ev_max, ev_min, ev_lenT, ev_lenL, ev_lenK, ev_lenS, ev_lenR, ev_seqR, ev_lstR, ev_tupT, ev_tupL, ev_tupK, ev_ixT, ev_ixL, ev_ixR, atI_0, atI_1, atI_2, atI_3, atI_4, Ok_ok, Ok_bad, Ok_bind, Ok_noErr, Ok_if, List.map_cons, List.map_nil, List.cons_append, List.nil_append, List.length_cons, List.length_nil, List.replicate, List.getElem?_cons_succ, List.getElem?_cons_zero, List.set_cons_succ, List.set_cons_zero, wipeT, isStr, isLst, Nat.reduceAdd, Nat.reduceSub, if_true, Option.isSome_some, bindP_nm, decide_true, decide_false, Bool.not_true, Bool.not_false, ite_true, Nat.reduceLeDiff, Bool.false_eq_true, if_false, Nat.zero_add, ev_itOfT, ev_itOfL, ev_itOfK, ev_itOfS, ev_lstOfL, ev_lstOfK, $ls,*] $[$l]?)
/-! ### the text -/
def topS (i : Nat) : Stmt := PySem.Challenge.pw_ledgerproof_k12_filled_templates.main.body.getD i (.Pass ⟨0, 0, 0, 0⟩)
abbrev st__law_tape : Stmt := topS 35
abbrev N__law_tape : List Str := ["script", "total", "cell"]
theorem sc__law_tape : FnScope N__law_tape ["script"] (defScope st__law_tape) := ⟨rfl, rfl, rfl, by decide +kernel, rfl, by decide +kernel, by decide +kernel⟩
abbrev st__law_draw : Stmt := topS 36
abbrev N__law_draw : List Str := ["tape", "many", "place", "number"]
theorem sc__law_draw : FnScope N__law_draw ["tape", "many"] (defScope st__law_draw) := ⟨rfl, rfl, rfl, by decide +kernel, rfl, by decide +kernel, by decide +kernel⟩
abbrev st__law_same : Stmt := topS 37
abbrev N__law_same : List Str := ["actual", "expected", "k"]
theorem sc__law_same : FnScope N__law_same ["actual", "expected"] (defScope st__law_same) := ⟨rfl, rfl, rfl, by decide +kernel, rfl, by decide +kernel, by decide +kernel⟩
abbrev st__law_letters : Stmt := topS 38
abbrev N__law_letters : List Str := []
theorem sc__law_letters : FnScope N__law_letters [] (defScope st__law_letters) := ⟨rfl, rfl, rfl, by decide +kernel, rfl, by decide +kernel, by decide +kernel⟩
abbrev st__law_reserved : Stmt := topS 39
abbrev N__law_reserved : List Str := ["words"]
theorem sc__law_reserved : FnScope N__law_reserved [] (defScope st__law_reserved) := ⟨rfl, rfl, rfl, by decide +kernel, rfl, by decide +kernel, by decide +kernel⟩
abbrev st__law_run : Stmt := topS 40
abbrev N__law_run : List Str := ["tape", "size", "k"]
theorem sc__law_run : FnScope N__law_run ["tape", "size"] (defScope st__law_run) := ⟨rfl, rfl, rfl, by decide +kernel, rfl, by decide +kernel, by decide +kernel⟩
abbrev st__law_names : Stmt := topS 41
abbrev N__law_names : List Str := ["tape", "many", "stems", "stem", "words", "reserved", "left", "names", "k", "name", "word"]
theorem sc__law_names : FnScope N__law_names ["tape", "many"] (defScope st__law_names) := ⟨rfl, rfl, rfl, by decide +kernel, rfl, by decide +kernel, by decide +kernel⟩
abbrev st__law_signs : Stmt := topS 45
abbrev N__law_signs : List Str := ["signs"]
theorem sc__law_signs : FnScope N__law_signs [] (defScope st__law_signs) := ⟨rfl, rfl, rfl, by decide +kernel, rfl, by decide +kernel, by decide +kernel⟩
abbrev st__law_number_text : Stmt := topS 46
abbrev N__law_number_text : List Str := ["tape"]
theorem sc__law_number_text : FnScope N__law_number_text ["tape"] (defScope st__law_number_text) := ⟨rfl, rfl, rfl, by decide +kernel, rfl, by decide +kernel, by decide +kernel⟩
abbrev st__law_symbol : Stmt := topS 47
abbrev N__law_symbol : List Str := ["tape"]
theorem sc__law_symbol : FnScope N__law_symbol ["tape"] (defScope st__law_symbol) := ⟨rfl, rfl, rfl, by decide +kernel, rfl, by decide +kernel, by decide +kernel⟩
abbrev st__law_bad_piece : Stmt := topS 48
abbrev N__law_bad_piece : List Str := ["tape", "runs"]
theorem sc__law_bad_piece : FnScope N__law_bad_piece ["tape"] (defScope st__law_bad_piece) := ⟨rfl, rfl, rfl, by decide +kernel, rfl, by decide +kernel, by decide +kernel⟩
abbrev st__law_piece : Stmt := topS 49
abbrev N__law_piece : List Str := ["tape", "names", "wild", "choice"]
theorem sc__law_piece : FnScope N__law_piece ["tape", "names", "wild"] (defScope st__law_piece) := ⟨rfl, rfl, rfl, by decide +kernel, rfl, by decide +kernel, by decide +kernel⟩
abbrev st__law_is_value : Stmt := topS 51
abbrev N__law_is_value : List Str := ["value", "strange", "sign"]
theorem sc__law_is_value : FnScope N__law_is_value ["value"] (defScope st__law_is_value) := ⟨rfl, rfl, rfl, by decide +kernel, rfl, by decide +kernel, by decide +kernel⟩
abbrev st__law_good_value : Stmt := topS 52
abbrev N__law_good_value : List Str := ["tape", "names", "numbers"]
theorem sc__law_good_value : FnScope N__law_good_value ["tape", "names"] (defScope st__law_good_value) := ⟨rfl, rfl, rfl, by decide +kernel, rfl, by decide +kernel, by decide +kernel⟩
abbrev st__law_any_value : Stmt := topS 53
abbrev N__law_any_value : List Str := ["tape", "names", "bad"]
theorem sc__law_any_value : FnScope N__law_any_value ["tape", "names"] (defScope st__law_any_value) := ⟨rfl, rfl, rfl, by decide +kernel, rfl, by decide +kernel, by decide +kernel⟩
abbrev st__law_stop : Stmt := topS 42
abbrev N__law_stop : List Str := ["text", "at", "signs", "end"]
theorem sc__law_stop : FnScope N__law_stop ["text", "at"] (defScope st__law_stop) := ⟨rfl, rfl, rfl, by decide +kernel, rfl, by decide +kernel, by decide +kernel⟩
abbrev st__law_token : Stmt := topS 43
abbrev N__law_token : List Str := ["text", "at", "piece"]
theorem sc__law_token : FnScope N__law_token ["text", "at"] (defScope st__law_token) := ⟨rfl, rfl, rfl, by decide +kernel, rfl, by decide +kernel, by decide +kernel⟩
abbrev st__law_tokens : Stmt := topS 44
abbrev N__law_tokens : List Str := ["text", "tokens", "at", "step", "token"]
theorem sc__law_tokens : FnScope N__law_tokens ["text"] (defScope st__law_tokens) := ⟨rfl, rfl, rfl, by decide +kernel, rfl, by decide +kernel, by decide +kernel⟩
abbrev st__law_filled : Stmt := topS 54
abbrev N__law_filled : List Str := ["texts", "values", "tokens", "at", "k", "own", "last", "token"]
theorem sc__law_filled : FnScope N__law_filled ["texts", "values"] (defScope st__law_filled) := ⟨rfl, rfl, rfl, by decide +kernel, rfl, by decide +kernel, by decide +kernel⟩
abbrev st__run_end : Stmt := topS 28
abbrev N__run_end : List Str := ["text", "place", "characters", "end"]
theorem sc__run_end : FnScope N__run_end ["text", "place", "characters"] (defScope st__run_end) := ⟨rfl, rfl, rfl, by decide +kernel, rfl, by decide +kernel, by decide +kernel⟩
abbrev st__token_end : Stmt := topS 29
abbrev N__token_end : List Str := ["text", "place", "characters"]
theorem sc__token_end : FnScope N__token_end ["text", "place"] (defScope st__token_end) := ⟨rfl, rfl, rfl, by decide +kernel, rfl, by decide +kernel, by decide +kernel⟩
abbrev st_is_name : Stmt := topS 27
abbrev N_is_name : List Str := ["text"]
theorem sc_is_name : FnScope N_is_name ["text"] (defScope st_is_name) := ⟨rfl, rfl, rfl, by decide +kernel, rfl, by decide +kernel, by decide +kernel⟩
abbrev st__is_number : Stmt := topS 31
abbrev N__is_number : List Str := ["piece"]
theorem sc__is_number : FnScope N__is_number ["piece"] (defScope st__is_number) := ⟨rfl, rfl, rfl, by decide +kernel, rfl, by decide +kernel, by decide +kernel⟩
abbrev st__kind_and_value : Stmt := topS 30
abbrev N__kind_and_value : List Str := ["piece"]
theorem sc__kind_and_value : FnScope N__kind_and_value ["piece"] (defScope st__kind_and_value) := ⟨rfl, rfl, rfl, by decide +kernel, rfl, by decide +kernel, by decide +kernel⟩
abbrev st_split_text : Stmt := topS 25
abbrev N_split_text : List Str := ["text", "tokens", "place", "stop", "kind", "value"]
theorem sc_split_text : FnScope N_split_text ["text"] (defScope st_split_text) := ⟨rfl, rfl, rfl, by decide +kernel, rfl, by decide +kernel, by decide +kernel⟩
abbrev st__check_values : Stmt := topS 32
abbrev N__check_values : List Str := ["values", "number", "value", "good"]
theorem sc__check_values : FnScope N__check_values ["values"] (defScope st__check_values) := ⟨rfl, rfl, rfl, by decide +kernel, rfl, by decide +kernel, by decide +kernel⟩
abbrev st__moved : Stmt := topS 33
abbrev N__moved : List Str := ["tokens", "start", "place", "kind", "value"]
theorem sc__moved : FnScope N__moved ["tokens", "start"] (defScope st__moved) := ⟨rfl, rfl, rfl, by decide +kernel, rfl, by decide +kernel, by decide +kernel⟩
abbrev st_filled : Stmt := topS 26
abbrev N_filled : List Str := ["texts", "values", "tokens", "start", "text", "value"]
theorem sc_filled : FnScope N_filled ["texts", "values"] (defScope st_filled) := ⟨rfl, rfl, rfl, by decide +kernel, rfl, by decide +kernel, by decide +kernel⟩
abbrev st__law_lone : Stmt := topS 50
abbrev N__law_lone : List Str := ["e", "count"]
theorem sc__law_lone : FnScope N__law_lone ["e"] (defScope st__law_lone) := ⟨rfl, rfl, rfl, by decide +kernel, rfl, by decide +kernel, by decide +kernel⟩
abbrev st__law_told : Stmt := topS 55
abbrev N__law_told : List Str := ["texts", "values", "e"]
theorem sc__law_told : FnScope N__law_told ["texts", "values"] (defScope st__law_told) := ⟨rfl, rfl, rfl, by decide +kernel, rfl, by decide +kernel, by decide +kernel⟩
abbrev st_law : Stmt := topS 56
abbrev N_law : List Str := ["script", "tape", "names", "count", "wild", "texts", "k", "at", "text", "good", "others", "worse", "turned", "pair", "bad", "due"]
theorem sc_law : FnScope N_law ["script"] (defScope st_law) := ⟨rfl, rfl, rfl, by decide +kernel, rfl, by decide +kernel, by decide +kernel⟩
def cs_BLANKS : Str := " \n"
def cs_DIGITS : Str := "0123456789"
def cs_GREATEST_NUMBER : Int := 9999
def cs_LETTERS : Str := "abcdefghijklmnopqrstuvwxyz"
def cs_LONGEST_NAME : Int := 12
def cs_MOST_DIGITS : Int := 4
def cs_RESERVED : List T := [(.str "sectors"), (.str "accounts"), (.str "type"), (.str "to"), (.str "if"), (.str "then"), (.str "each"), (.str "of"), (.str "not"), (.str "and"), (.str "or"), (.str "all"), (.str "none"), (.str "assume"), (.str "claim"), (.str "drop"), (.str "profiles"), (.str "distinguish"), (.str "conserved"), (.str "obligations"), (.str "evaluate"), (.str "decide"), (.str "bound"), (.str "by"), (.str "statuses"), (.str "core"), (.str "verdict"), (.str "refutes"), (.str "minimize"), (.str "types")]
def cs_SYMBOLS : List T := [(.str "("), (.str ")"), (.str "+"), (.str ","), (.str "-"), (.str ":"), (.str ";"), (.str "="), (.str "["), (.str "]"), (.str ">=")]
abbrev sti_BadValue : Stmt := clsBody (topS 4) 0
theorem sci_BadValue : FnScope ["self", "number"] ["self", "number"] (defScope sti_BadValue) := ⟨rfl, rfl, rfl, by decide +kernel, rfl, by decide +kernel, by decide +kernel⟩
def tab_BadParticipant (c : Str) : Option Bool := if c = "BadValue" then some false else none
def tab_BadTransaction (c : Str) : Option Bool := if c = "BadValue" then some false else none
def tab_BadValue (c : Str) : Option Bool := if c = "BadValue" then some true else none
def tab_DoesNotHold (c : Str) : Option Bool := if c = "BadValue" then some false else none
def tab_Mistakes (c : Str) : Option Bool := if c = "BadValue" then some false else none
def tab_NeedsJournal (c : Str) : Option Bool := if c = "BadValue" then some false else none
def tab_NeedsModel (c : Str) : Option Bool := if c = "BadValue" then some false else none
def tab_NotASum (c : Str) : Option Bool := if c = "BadValue" then some false else none
def tab_NotRefuted (c : Str) : Option Bool := if c = "BadValue" then some false else none
def tab_NothingToRedo (c : Str) : Option Bool := if c = "BadValue" then some false else none
def tab_NothingToUndo (c : Str) : Option Bool := if c = "BadValue" then some false else none
def tab_ProofError (c : Str) : Option Bool := if c = "BadValue" then some true else none
def tab_ReadError (c : Str) : Option Bool := if c = "BadValue" then some false else none
def tab_TooMany (c : Str) : Option Bool := if c = "BadValue" then some false else none
def tab_UnknownClaim (c : Str) : Option Bool := if c = "BadValue" then some false else none
def tab_ValueError (c : Str) : Option Bool := if c = "BadValue" then some true else none
def exm_BadValue (c : Str) : Option Bool := if c = "BadValue" then some true else none
def ta_number (c : Str) : Bool := if c = "BadValue" then true else false
/-! ### the mirrors -/
noncomputable def B__law_tape : Fx.Env → Sto → R Fl :=
    (sSeq (sSet 1 (mC (.int 7)))
    (sSeq (sFor (mIt (mVar 0)) (.nm 2)
    (sSet 1 (mBin fMod (mFn fInt (mCons (mBin (fAddA true) (mBin fMul (mVar 1) (mC (.int 31))) (mFn fAbs (mCons (mFn fInt (mCons (mVar 2) mNil)) mNil))) mNil)) (mC (.int 2147483647)))))
    (sRet (mLst false (mCons (mFn (fListA true) (mCons (mVar 0) mNil)) (mCons (mC (.int 0)) (mCons (mC (.int 0)) (mCons (mVar 1) mNil))))))))
noncomputable def F__law_tape : List T → Sto → R T := (runF 3 B__law_tape)
noncomputable def B__law_draw : Fx.Env → Sto → R Fl :=
    (sSeq (sIf (mTst (mBin fEq (mBin fIx (mVar 0) (mC (.int 2))) (mC (.int 0))))
    (sSeq (sSet 2 (mBin fIx (mVar 0) (mC (.int 1))))
    (sSeq (sSet 3 (mC (.int 0)))
    (sSeq (sIf (mTst (mBin fLt (mVar 2) (mFn fLen (mCons (mBin fIx (mVar 0) (mC (.int 0))) mNil))))
    (sSet 3 (mFn fAbs (mCons (mFn fInt (mCons (mBin fIx (mBin fIx (mVar 0) (mC (.int 0))) (mVar 2)) mNil)) mNil)))
    (sSeq (sPut (mVar 0) (mC (.int 3)) (mBin fMod (mFn fInt (mCons (mBin (fAddA true) (mBin (fAddA true) (mBin fMul (mBin fIx (mVar 0) (mC (.int 3))) (mC (.int 48271))) (mVar 2)) (mC (.int 1))) mNil)) (mC (.int 2147483647))))
    (sSet 3 (mBin fIx (mVar 0) (mC (.int 3))))))
    (sSeq (sPut (mVar 0) (mC (.int 1)) (mBin (fAddA true) (mVar 2) (mC (.int 1))))
    (sSeq (sIf (mTst (mBin fLt (mVar 3) (mBin fPow (mC (.int 10)) (mC (.int 18)))))
    (sSeq (sSet 3 (mBin fMod (mFn fInt (mCons (mBin (fAddA true) (mBin (fAddA true) (mBin fMul (mVar 3) (mC (.int 48271))) (mBin fMul (mVar 2) (mC (.int 69621)))) (mC (.int 5))) mNil)) (mC (.int 2147483647))))
    (sSeq (sSet 3 (mBin fMod (mFn fInt (mCons (mBin fMul (mVar 3) (mC (.int 69621))) mNil)) (mC (.int 2147483629))))
    (sRet (mBin fMod (mFn fInt (mCons (mVar 3) mNil)) (mFn fMax2 (mCons (mVar 1) (mCons (mC (.int 1)) mNil)))))))
    sNext)
    (sPut (mVar 0) (mC (.int 2)) (mVar 3)))))))
    sNext)
    (sSeq (sSet 3 (mBin fIx (mVar 0) (mC (.int 2))))
    (sSeq (sPut (mVar 0) (mC (.int 2)) (mBin fDiv (mVar 3) (mFn fMax2 (mCons (mVar 1) (mCons (mC (.int 2)) mNil)))))
    (sRet (mBin fMod (mFn fInt (mCons (mVar 3) mNil)) (mFn fMax2 (mCons (mVar 1) (mCons (mC (.int 1)) mNil))))))))
noncomputable def F__law_draw : List T → Sto → R T := frame 1 true (runF 4 B__law_draw)
noncomputable def B__law_same (d : List T → Sto → R T) : Fx.Env → Sto → R Fl :=
    (sSeq (sIf (mTst (mBin (fIsN false) (mVar 1) (mC .non)))
    (sRet (mBin (fIsN false) (mVar 0) (mC .non)))
    sNext)
    (sSeq (sIf (mTru (mFn fIsi (mCons (mVar 1) (mCons (mC (.ty "tuple")) mNil))))
    (sSeq (sIf (mOr (mNot (mTru (mFn fIsi (mCons (mVar 0) (mCons (mC (.ty "tuple")) mNil))))) (mTst (mBin fNe (mFn fLen (mCons (mVar 0) mNil)) (mFn fLen (mCons (mVar 1) mNil)))))
    (sRet (mC (.bl false)))
    sNext)
    (sSeq (sFor (mItN fRange1 (mCons (mFn fLen (mCons (mVar 1) mNil)) mNil)) (.nm 2)
    (sIf (mNot (mTru (mFn (fun ts S => if ts.length = 2 then d ts S else .bad) (mCons (mBin fIx (mVar 0) (mVar 2)) (mCons (mBin fIx (mVar 1) (mVar 2)) mNil)))))
    (sRet (mC (.bl false)))
    sNext))
    (sRet (mC (.bl true)))))
    sNext)
    (sSeq (sIf (mTru (mFn fIsi (mCons (mVar 1) (mCons (mC (.ty "bool")) mNil))))
    (sRet (mAndV (mFn fIsi (mCons (mVar 0) (mCons (mC (.ty "bool")) mNil))) (mBin fEq (mVar 0) (mVar 1))))
    sNext)
    (sSeq (sIf (mTru (mFn fIsi (mCons (mVar 1) (mCons (mC (.ty "str")) mNil))))
    (sRet (mAndV (mFn fIsi (mCons (mVar 0) (mCons (mC (.ty "str")) mNil))) (mBin fEq (mVar 0) (mVar 1))))
    sNext)
    (sRet (mAndV (mFn fIsi (mCons (mVar 0) (mCons (mC (.ty "int")) mNil))) (mAndV (mNotV (mFn fIsi (mCons (mVar 0) (mCons (mC (.ty "bool")) mNil)))) (mBin fEq (mVar 0) (mVar 1)))))))))
noncomputable def F__law_same : Nat → List T → Sto → R T
  | 0 => fun _ _ => .bad
  | d + 1 => frame 0 true (runF 3 (B__law_same (F__law_same d)))
noncomputable def B__law_letters : Fx.Env → Sto → R Fl :=
    (sRet (mC (.str "abcdefghijklmnopqrstuvwxyz")))
noncomputable def F__law_letters : List T → Sto → R T := frame 0 true (runF 0 B__law_letters)
noncomputable def B__law_reserved : Fx.Env → Sto → R Fl :=
    (sSeq (sSet 0 (mC (.str "sectors accounts type to if then each of not and or all none assume claim drop profiles distinguish")))
    (sSeq (sSet 0 (mBin (fAddA true) (mVar 0) (mC (.str " conserved obligations evaluate decide bound by statuses core verdict refutes minimize types"))))
    (sRet (mMeth isStr (fSplit true) (mVar 0) (mCons (mC (.str " ")) mNil)))))
noncomputable def F__law_reserved : List T → Sto → R T := frame 0 true (runF 1 B__law_reserved)
noncomputable def B__law_run : Fx.Env → Sto → R Fl :=
    (sRet (mMeth isStr fJoin (mC (.str "")) (mCons (mLc true [2] (mItN fRange1 (mCons (mVar 1) mNil)) (.nm 2) mTrue (mBin fIx (mFn F__law_letters mNil) (mFn (fun ts S => if ts.length = 2 then F__law_draw ts S else .bad) (mCons (mVar 0) (mCons (mC (.int 26)) mNil))))) mNil)))
noncomputable def F__law_run : List T → Sto → R T := frame 1 true (runF 3 B__law_run)
noncomputable def B__law_names : Fx.Env → Sto → R Fl :=
    (sSeq (sSet 2 (mLst true (mCons (mC (.str "")) (mCons (mC (.str "")) (mCons (mC (.str "")) (mCons (mC (.str "al")) (mCons (mC (.str "no")) (mCons (mC (.str "claim")) (mCons (mC (.str "sector")) (mCons (mFn (fun ts S => if ts.length = 2 then F__law_run ts S else .bad) (mCons (mVar 0) (mCons (mFn (fun ts S => if ts.length = 2 then F__law_draw ts S else .bad) (mCons (mVar 0) (mCons (mC (.int 10)) mNil))) mNil))) (mCons (mFn (fun ts S => if ts.length = 2 then F__law_run ts S else .bad) (mCons (mVar 0) (mCons (mC (.int 9)) mNil))) mNil)))))))))))
    (sSeq (sSet 3 (mBin fIx (mVar 2) (mFn (fun ts S => if ts.length = 2 then F__law_draw ts S else .bad) (mCons (mVar 0) (mCons (mC (.int 9)) mNil)))))
    (sSeq (sSet 4 (mLst true (mCons (mC (.str "sector")) (mCons (mC (.str "sum")) (mCons (mC (.str "number")) (mCons (mC (.str "end")) (mCons (mC (.str "name")) (mCons (mC (.str "symbol")) (mCons (mC (.str "invalid")) (mCons (mC (.str "holds")) mNil))))))))))
    (sSeq (sSet 5 (mFn F__law_reserved mNil))
    (sSeq (sSet 6 (mFn (fListA false) (mCons (mFn F__law_letters mNil) mNil)))
    (sSeq (sSet 7 (mLst false mNil))
    (sSeq (sFor (mItN fRange1 (mCons (mVar 1) mNil)) (.nm 8)
    (sSeq (sSet 9 (mBin (fAddA true) (mVar 3) (mMeth isLst fPopAt (mVar 6) (mCons (mFn (fun ts S => if ts.length = 2 then F__law_draw ts S else .bad) (mCons (mVar 0) (mCons (mFn fLen (mCons (mVar 6) mNil)) mNil))) mNil))))
    (sSeq (sSet 9 (mBin (fAddA true) (mVar 9) (mFn (fun ts S => if ts.length = 2 then F__law_run ts S else .bad) (mCons (mVar 0) (mCons (mBin fIx (mLst true (mCons (mC (.int 0)) (mCons (mC (.int 0)) (mCons (mC (.int 1)) (mCons (mC (.int 2)) mNil))))) (mFn (fun ts S => if ts.length = 2 then F__law_draw ts S else .bad) (mCons (mVar 0) (mCons (mC (.int 4)) mNil)))) mNil)))))
    (sSeq (sIf (mTst (mBin (fIn false) (mVar 9) (mVar 5)))
    (sSet 9 (mBin (fAddA true) (mVar 9) (mC (.str "x"))))
    sNext)
    (sDrop (mMeth isLst fAppend (mVar 7) (mCons (mVar 9) mNil)))))))
    (sSeq (sIf (mTst (mBin fEq (mFn (fun ts S => if ts.length = 2 then F__law_draw ts S else .bad) (mCons (mVar 0) (mCons (mC (.int 8)) mNil))) (mC (.int 0))))
    (sFor (mItN fRange1 (mCons (mFn fMin2 (mCons (mVar 1) (mCons (mC (.int 4)) mNil))) mNil)) (.nm 8)
    (sSeq (sSet 10 (mBin fIx (mVar 4) (mFn (fun ts S => if ts.length = 2 then F__law_draw ts S else .bad) (mCons (mVar 0) (mCons (mC (.int 8)) mNil)))))
    (sIf (mTst (mBin (fIn true) (mVar 10) (mVar 7)))
    (sPut (mVar 7) (mVar 8) (mVar 10))
    sNext)))
    sNext)
    (sRet (mVar 7))))))))))
noncomputable def F__law_names : List T → Sto → R T := frame 1 true (runF 11 B__law_names)
noncomputable def B__law_signs : Fx.Env → Sto → R Fl :=
    (sSeq (sSet 0 (mC (.str " !\"#$&'()*+,-./0123456789:;<=>?@ABCDEFGHIJKLMNOPQRSTUVWXYZ[\\]^_")))
    (sRet (mBin (fAddA true) (mVar 0) (mC (.str "`abcdefghijklmnopqrstuvwxyz{|}~")))))
noncomputable def F__law_signs : List T → Sto → R T := frame 0 true (runF 1 B__law_signs)
noncomputable def B__law_number_text : Fx.Env → Sto → R Fl :=
    (sRet (mBin fIx (mLst true (mCons (mC (.str "0")) (mCons (mC (.str "1")) (mCons (mC (.str "9")) (mCons (mC (.str "10")) (mCons (mC (.str "100")) (mCons (mC (.str "9999")) (mCons (mFn fStr (mCons (mFn (fun ts S => if ts.length = 2 then F__law_draw ts S else .bad) (mCons (mVar 0) (mCons (mC (.int 10000)) mNil))) mNil)) mNil)))))))) (mFn (fun ts S => if ts.length = 2 then F__law_draw ts S else .bad) (mCons (mVar 0) (mCons (mC (.int 7)) mNil)))))
noncomputable def F__law_number_text : List T → Sto → R T := frame 1 true (runF 1 B__law_number_text)
noncomputable def B__law_symbol : Fx.Env → Sto → R Fl :=
    (sRet (mBin fIx (mLst true (mCons (mC (.str "(")) (mCons (mC (.str ")")) (mCons (mC (.str "+")) (mCons (mC (.str ",")) (mCons (mC (.str "-")) (mCons (mC (.str ":")) (mCons (mC (.str ";")) (mCons (mC (.str "=")) (mCons (mC (.str "[")) (mCons (mC (.str "]")) (mCons (mC (.str ">=")) mNil)))))))))))) (mFn (fun ts S => if ts.length = 2 then F__law_draw ts S else .bad) (mCons (mVar 0) (mCons (mC (.int 11)) mNil)))))
noncomputable def F__law_symbol : List T → Sto → R T := frame 1 true (runF 1 B__law_symbol)
noncomputable def B__law_bad_piece : Fx.Env → Sto → R Fl :=
    (sSeq (sSet 1 (mLst true (mCons (mC (.str "007")) (mCons (mC (.str "00")) (mCons (mC (.str "01")) (mCons (mC (.str "12345")) (mCons (mC (.str "0000")) (mCons (mBin fMulS (mC (.str "99999")) (mBin (fAddA true) (mC (.int 1)) (mFn (fun ts S => if ts.length = 2 then F__law_draw ts S else .bad) (mCons (mVar 0) (mCons (mC (.int 9)) mNil))))) mNil))))))))
    (sSeq (sSet 1 (mBin (fAddA true) (mVar 1) (mLst true (mCons (mFn (fun ts S => if ts.length = 2 then F__law_run ts S else .bad) (mCons (mVar 0) (mCons (mC (.int 13)) mNil))) (mCons (mFn (fun ts S => if ts.length = 2 then F__law_run ts S else .bad) (mCons (mVar 0) (mCons (mBin (fAddA true) (mC (.int 14)) (mFn (fun ts S => if ts.length = 2 then F__law_draw ts S else .bad) (mCons (mVar 0) (mCons (mC (.int 60)) mNil)))) mNil))) mNil)))))
    (sSeq (sSet 1 (mBin (fAddA true) (mVar 1) (mLst true (mCons (mC (.str ">")) (mCons (mC (.str ">")) (mCons (mC (.str "<")) (mCons (mC (.str "#")) (mCons (mC (.str "_")) (mCons (mC (.str ".")) (mCons (mC (.str "A")) (mCons (mC (.str "Z9")) mNil)))))))))))
    (sRet (mBin fIx (mVar 1) (mFn (fun ts S => if ts.length = 2 then F__law_draw ts S else .bad) (mCons (mVar 0) (mCons (mFn fLen (mCons (mVar 1) mNil)) mNil))))))))
noncomputable def F__law_bad_piece : List T → Sto → R T := frame 1 true (runF 2 B__law_bad_piece)
noncomputable def B__law_piece : Fx.Env → Sto → R Fl :=
    (sSeq (sSet 3 (mFn (fun ts S => if ts.length = 2 then F__law_draw ts S else .bad) (mCons (mVar 0) (mCons (mC (.int 12)) mNil))))
    (sSeq (sIf (mTst (mBin fLt (mVar 3) (mC (.int 3))))
    (sRet (mBin fIx (mFn F__law_reserved mNil) (mFn (fun ts S => if ts.length = 2 then F__law_draw ts S else .bad) (mCons (mVar 0) (mCons (mFn fLen (mCons (mFn F__law_reserved mNil) mNil)) mNil)))))
    sNext)
    (sSeq (sIf (mTst (mBin fLt (mVar 3) (mC (.int 5))))
    (sRet (mBin fIx (mVar 1) (mFn (fun ts S => if ts.length = 2 then F__law_draw ts S else .bad) (mCons (mVar 0) (mCons (mFn fLen (mCons (mVar 1) mNil)) mNil)))))
    sNext)
    (sSeq (sIf (mTst (mBin fLt (mVar 3) (mC (.int 7))))
    (sRet (mFn (fun ts S => if ts.length = 1 then F__law_number_text ts S else .bad) (mCons (mVar 0) mNil)))
    sNext)
    (sSeq (sIf (mTst (mBin fLt (mVar 3) (mC (.int 9))))
    (sRet (mFn (fun ts S => if ts.length = 1 then F__law_symbol ts S else .bad) (mCons (mVar 0) mNil)))
    sNext)
    (sSeq (sIf (mTst (mBin fEq (mVar 3) (mC (.int 9))))
    (sRet (mBin fIx (mLst true (mCons (mC (.str " ")) (mCons (mC (.str "\n")) (mCons (mC (.str "  ")) (mCons (mC (.str " \n ")) mNil))))) (mFn (fun ts S => if ts.length = 2 then F__law_draw ts S else .bad) (mCons (mVar 0) (mCons (mC (.int 4)) mNil)))))
    sNext)
    (sSeq (sIf (mAnd (mTst (mBin fEq (mVar 3) (mC (.int 10)))) (mAnd (mTst (mBin fGt (mVar 2) (mC (.int 0)))) (mTst (mBin fEq (mFn (fun ts S => if ts.length = 2 then F__law_draw ts S else .bad) (mCons (mVar 0) (mCons (mC (.int 4)) mNil))) (mC (.int 0))))))
    (sRet (mFn (fun ts S => if ts.length = 1 then F__law_bad_piece ts S else .bad) (mCons (mVar 0) mNil)))
    sNext)
    (sSeq (sIf (mAnd (mTst (mBin fEq (mVar 3) (mC (.int 11)))) (mTst (mBin fGt (mVar 2) (mC (.int 1)))))
    (sRet (mBin fIx (mFn F__law_signs mNil) (mFn (fun ts S => if ts.length = 2 then F__law_draw ts S else .bad) (mCons (mVar 0) (mCons (mFn fLen (mCons (mFn F__law_signs mNil) mNil)) mNil)))))
    sNext)
    (sRet (mBin fIx (mLst true (mCons (mC (.str " ")) (mCons (mFn (fun ts S => if ts.length = 2 then F__law_run ts S else .bad) (mCons (mVar 0) (mCons (mC (.int 1)) mNil))) (mCons (mFn (fun ts S => if ts.length = 2 then F__law_run ts S else .bad) (mCons (mVar 0) (mCons (mC (.int 12)) mNil))) (mCons (mC (.str "ofof")) (mCons (mC (.str "al")) (mCons (mC (.str "not")) mNil))))))) (mFn (fun ts S => if ts.length = 2 then F__law_draw ts S else .bad) (mCons (mVar 0) (mCons (mC (.int 6)) mNil)))))))))))))
noncomputable def F__law_piece : List T → Sto → R T := frame 1 true (runF 4 B__law_piece)
noncomputable def B__law_is_value : Fx.Env → Sto → R Fl :=
    (sSeq (sIf (mTru (mFn fIsi (mCons (mVar 0) (mCons (mC (.ty "str")) mNil))))
    (sSeq (sSet 1 (mLc true [2] (mIt (mVar 0)) (.nm 2) (mTst (mBin (fIn true) (mVar 2) (mFn F__law_letters mNil))) (mVar 2)))
    (sRet (mAndV (mBin fLt (mC (.int 0)) (mFn fLen (mCons (mVar 0) mNil))) (mAndV (mBin fLt (mFn fLen (mCons (mVar 0) mNil)) (mC (.int 13))) (mAndV (mBin fEq (mVar 1) (mLst true mNil)) (mBin (fIn true) (mVar 0) (mFn F__law_reserved mNil)))))))
    sNext)
    (sRet (mAndV (mBin fLe (mC (.int 0)) (mVar 0)) (mBin fLe (mVar 0) (mC (.int 9999))))))
noncomputable def F__law_is_value : List T → Sto → R T := frame 0 true (runF 3 B__law_is_value)
noncomputable def B__law_good_value : Fx.Env → Sto → R Fl :=
    (sSeq (sSet 2 (mLst true (mCons (mC (.int 0)) (mCons (mC (.int 1)) (mCons (mC (.int 7)) (mCons (mC (.int 10)) (mCons (mC (.int 9999)) (mCons (mFn (fun ts S => if ts.length = 2 then F__law_draw ts S else .bad) (mCons (mVar 0) (mCons (mC (.int 10000)) mNil))) mNil))))))))
    (sSeq (sIf (mTst (mBin fEq (mFn (fun ts S => if ts.length = 2 then F__law_draw ts S else .bad) (mCons (mVar 0) (mCons (mC (.int 2)) mNil))) (mC (.int 0))))
    (sRet (mBin fIx (mVar 2) (mFn (fun ts S => if ts.length = 2 then F__law_draw ts S else .bad) (mCons (mVar 0) (mCons (mC (.int 6)) mNil)))))
    sNext)
    (sRet (mBin fIx (mVar 1) (mFn (fun ts S => if ts.length = 2 then F__law_draw ts S else .bad) (mCons (mVar 0) (mCons (mFn fLen (mCons (mVar 1) mNil)) mNil)))))))
noncomputable def F__law_good_value : List T → Sto → R T := frame 1 true (runF 3 B__law_good_value)
noncomputable def B__law_any_value : Fx.Env → Sto → R Fl :=
    (sSeq (sSet 2 (mLst true (mCons (mC (.str "")) (mCons (mC (.str "of")) (mCons (mC (.str "all")) (mCons (mC (.str "claim")) (mCons (mFn (fun ts S => if ts.length = 2 then F__law_run ts S else .bad) (mCons (mVar 0) (mCons (mC (.int 13)) mNil))) (mCons (mFn (fun ts S => if ts.length = 2 then F__law_run ts S else .bad) (mCons (mVar 0) (mCons (mC (.int 20)) mNil))) (mCons (mC (.str "Cash")) (mCons (mC (.str "a b")) (mCons (mC (.str "a1")) mNil)))))))))))
    (sSeq (sSet 2 (mBin (fAddA true) (mVar 2) (mLst true (mCons (mC (.str " a")) (mCons (mC (.str "a ")) (mCons (mC (.str "-")) (mCons (mC (.str "7")) (mCons (mC (.str "a_")) (mCons (mUn fNeg (mC (.int 1))) (mCons (mC (.int 10000)) (mCons (mUn fNeg (mC (.int 9999))) (mCons (mBin (fAddA true) (mBin fPow (mC (.int 10)) (mC (.int 20))) (mFn (fun ts S => if ts.length = 2 then F__law_draw ts S else .bad) (mCons (mVar 0) (mCons (mC (.int 9)) mNil)))) (mCons (mUn fNeg (mBin fPow (mC (.int 10)) (mC (.int 30)))) (mCons (mC (.int 12345)) mNil))))))))))))))
    (sSeq (sIf (mTst (mBin fGt (mFn (fun ts S => if ts.length = 2 then F__law_draw ts S else .bad) (mCons (mVar 0) (mCons (mC (.int 6)) mNil))) (mC (.int 0))))
    (sRet (mFn (fun ts S => if ts.length = 2 then F__law_good_value ts S else .bad) (mCons (mVar 0) (mCons (mVar 1) mNil))))
    sNext)
    (sRet (mBin fIx (mVar 2) (mFn (fun ts S => if ts.length = 2 then F__law_draw ts S else .bad) (mCons (mVar 0) (mCons (mFn fLen (mCons (mVar 2) mNil)) mNil))))))))
noncomputable def F__law_any_value : List T → Sto → R T := frame 1 true (runF 3 B__law_any_value)
noncomputable def B__law_stop : Fx.Env → Sto → R Fl :=
    (sSeq (sSet 2 (mC (.str "0123456789")))
    (sSeq (sIf (mTst (mBin (fIn false) (mBin fIx (mVar 0) (mVar 1)) (mFn F__law_letters mNil)))
    (sSet 2 (mFn F__law_letters mNil))
    sNext)
    (sSeq (sFor (mItN fRange2 (mCons (mBin (fAddA true) (mVar 1) (mC (.int 1))) (mCons (mFn fLen (mCons (mVar 0) mNil)) mNil))) (.nm 3)
    (sIf (mTst (mBin (fIn true) (mBin fIx (mVar 0) (mVar 3)) (mVar 2)))
    (sRet (mVar 3))
    sNext))
    (sRet (mFn fLen (mCons (mVar 0) mNil))))))
noncomputable def F__law_stop : List T → Sto → R T := frame 0 true (runF 4 B__law_stop)
noncomputable def B__law_token : Fx.Env → Sto → R Fl :=
    (sSeq (sIf (mTst (mBin (fIn false) (mBin fIx (mVar 0) (mVar 1)) (mFn F__law_letters mNil)))
    (sSeq (sSet 2 (mSl (fSlA true) (mVar 0) (mO1 (mVar 1)) (mO1 (mFn (fun ts S => if ts.length = 2 then F__law_stop ts S else .bad) (mCons (mVar 0) (mCons (mVar 1) mNil))))))
    (sSeq (sIf (mTst (mBin (fIn false) (mVar 2) (mFn F__law_reserved mNil)))
    (sRet (mTup (mCons (mC (.str "word")) (mCons (mVar 2) (mCons (mFn fLen (mCons (mVar 2) mNil)) mNil)))))
    sNext)
    (sIf (mTst (mBin fLt (mFn fLen (mCons (mVar 2) mNil)) (mC (.int 13))))
    (sRet (mTup (mCons (mC (.str "name")) (mCons (mVar 2) (mCons (mFn fLen (mCons (mVar 2) mNil)) mNil)))))
    sNext)))
    (sIf (mTst (mBin (fIn false) (mBin fIx (mVar 0) (mVar 1)) (mC (.str "0123456789"))))
    (sSeq (sSet 2 (mSl (fSlA true) (mVar 0) (mO1 (mVar 1)) (mO1 (mFn (fun ts S => if ts.length = 2 then F__law_stop ts S else .bad) (mCons (mVar 0) (mCons (mVar 1) mNil))))))
    (sIf (mOr (mTst (mBin fEq (mFn fLen (mCons (mVar 2) mNil)) (mC (.int 1)))) (mAnd (mTst (mBin fLt (mFn fLen (mCons (mVar 2) mNil)) (mC (.int 5)))) (mTst (mBin fNe (mBin fIx (mVar 2) (mC (.int 0))) (mC (.str "0"))))))
    (sRet (mTup (mCons (mC (.str "number")) (mCons (mFn fInt (mCons (mVar 2) mNil)) (mCons (mFn fLen (mCons (mVar 2) mNil)) mNil)))))
    sNext))
    (sIf (mTst (mBin fEq (mSl (fSlA true) (mVar 0) (mO1 (mVar 1)) (mO1 (mBin (fAddA true) (mVar 1) (mC (.int 2))))) (mC (.str ">="))))
    (sRet (mTup (mCons (mC (.str "symbol")) (mCons (mC (.str ">=")) (mCons (mC (.int 2)) mNil)))))
    (sIf (mTst (mBin (fIn false) (mBin fIx (mVar 0) (mVar 1)) (mC (.str "()+,-:;=[]"))))
    (sRet (mTup (mCons (mC (.str "symbol")) (mCons (mBin fIx (mVar 0) (mVar 1)) (mCons (mC (.int 1)) mNil)))))
    sNext))))
    (sRet (mTup (mCons (mC (.str "invalid")) (mCons (mC (.str "")) (mCons (mC (.int 0)) mNil))))))
noncomputable def F__law_token : List T → Sto → R T := frame 0 true (runF 3 B__law_token)
noncomputable def B__law_tokens : Fx.Env → Sto → R Fl :=
    (sSeq (sSet 1 (mLst false mNil))
    (sSeq (sSet 2 (mC (.int 0)))
    (sSeq (sFor (mItN fRange1 (mCons (mFn fLen (mCons (mVar 0) mNil)) mNil)) (.nm 3)
    (sSeq (sIf (mTst (mBin fEq (mVar 2) (mFn fLen (mCons (mVar 0) mNil))))
    sBreak
    sNext)
    (sIf (mTst (mBin (fIn false) (mBin fIx (mVar 0) (mVar 2)) (mC (.str " \n"))))
    (sSet 2 (mBin (fAddA true) (mVar 2) (mC (.int 1))))
    (sSeq (sSet 4 (mFn (fun ts S => if ts.length = 2 then F__law_token ts S else .bad) (mCons (mVar 0) (mCons (mVar 2) mNil))))
    (sSeq (sDrop (mMeth isLst fAppend (mVar 1) (mCons (mTup (mCons (mVar 2) (mCons (mBin fIx (mVar 4) (mC (.int 0))) (mCons (mBin fIx (mVar 4) (mC (.int 1))) mNil)))) mNil)))
    (sSeq (sIf (mTst (mBin fEq (mBin fIx (mVar 4) (mC (.int 0))) (mC (.str "invalid"))))
    (sRet (mFn fTuple (mCons (mVar 1) mNil)))
    sNext)
    (sSet 2 (mBin (fAddA true) (mVar 2) (mBin fIx (mVar 4) (mC (.int 2)))))))))))
    (sRet (mFn fTuple (mCons (mBin (fAddA true) (mVar 1) (mLst true (mCons (mTup (mCons (mFn fLen (mCons (mVar 0) mNil)) (mCons (mC (.str "end")) (mCons (mC (.str "")) mNil)))) mNil))) mNil))))))
noncomputable def F__law_tokens : List T → Sto → R T := frame 0 true (runF 5 B__law_tokens)
noncomputable def B__law_filled : Fx.Env → Sto → R Fl :=
    (sSeq (sSet 2 (mLst false mNil))
    (sSeq (sSet 3 (mC (.int 0)))
    (sSeq (sFor (mItN fRange1 (mCons (mFn fLen (mCons (mVar 0) mNil)) mNil)) (.nm 4)
    (sSeq (sSet 5 (mFn (fun ts S => if ts.length = 1 then F__law_tokens ts S else .bad) (mCons (mBin fIx (mVar 0) (mVar 4)) mNil)))
    (sSeq (sSet 6 (mBin fIx (mVar 5) (mBin fSub (mFn fLen (mCons (mVar 5) mNil)) (mC (.int 1)))))
    (sSeq (sSet 2 (mBin (fAddA false) (mVar 2) (mLc true [7] (mIt (mSl (fSlA true) (mVar 5) mO0 (mO1 (mBin fSub (mFn fLen (mCons (mVar 5) mNil)) (mC (.int 1)))))) (.nm 7) mTrue (mTup (mCons (mBin (fAddA true) (mVar 3) (mBin fIx (mVar 7) (mC (.int 0)))) (mCons (mBin fIx (mVar 7) (mC (.int 1))) (mCons (mBin fIx (mVar 7) (mC (.int 2))) mNil)))))))
    (sSeq (sIf (mOr (mTst (mBin fEq (mBin fIx (mVar 6) (mC (.int 1))) (mC (.str "invalid")))) (mTst (mBin fEq (mVar 4) (mBin fSub (mFn fLen (mCons (mVar 0) mNil)) (mC (.int 1))))))
    (sRet (mFn fTuple (mCons (mBin (fAddA true) (mVar 2) (mLst true (mCons (mTup (mCons (mBin (fAddA true) (mVar 3) (mBin fIx (mVar 6) (mC (.int 0)))) (mCons (mBin fIx (mVar 6) (mC (.int 1))) (mCons (mBin fIx (mVar 6) (mC (.int 2))) mNil)))) mNil))) mNil)))
    sNext)
    (sSeq (sSet 3 (mBin (fAddA true) (mVar 3) (mFn fLen (mCons (mBin fIx (mVar 0) (mVar 4)) mNil))))
    (sSeq (sDrop (mMeth isLst fAppend (mVar 2) (mCons (mTup (mCons (mVar 3) (mCons (mBin fIx (mLst true (mCons (mC (.str "number")) (mCons (mC (.str "name")) mNil))) (mFn fInt (mCons (mFn fIsi (mCons (mBin fIx (mVar 1) (mVar 4)) (mCons (mC (.ty "str")) mNil))) mNil))) (mCons (mBin fIx (mVar 1) (mVar 4)) mNil)))) mNil)))
    (sSet 3 (mBin (fAddA true) (mVar 3) (mFn fLen (mCons (mFn fStrA (mCons (mBin fIx (mVar 1) (mVar 4)) mNil)) mNil)))))))))))
    (sRet (mFn fTuple (mCons (mVar 2) mNil))))))
noncomputable def F__law_filled : List T → Sto → R T := (runF 8 B__law_filled)
noncomputable def B__run_end : Fx.Env → Sto → R Fl :=
    (sSeq (sSet 3 (mVar 1))
    (sSeq (sWhile (mAnd (mTst (mBin fLt (mVar 3) (mFn fLen (mCons (mVar 0) mNil)))) (mTst (mBin (fIn false) (mBin fIx (mVar 0) (mVar 3)) (mVar 2))))
    (sAug 3 fIpadd (mC (.int 1))))
    (sRet (mVar 3))))
noncomputable def F__run_end : List T → Sto → R T := frame 0 true (runF 4 B__run_end)
noncomputable def B__token_end : Fx.Env → Sto → R Fl :=
    (sSeq (sFor (mIt (mTup (mCons (mC (.str cs_LETTERS)) (mCons (mC (.str cs_DIGITS)) mNil)))) (.nm 2)
    (sIf (mTst (mBin (fIn false) (mBin fIx (mVar 0) (mVar 1)) (mVar 2)))
    (sRet (mFn (fun ts S => if ts.length = 3 then F__run_end ts S else .bad) (mCons (mVar 0) (mCons (mVar 1) (mCons (mVar 2) mNil)))))
    sNext))
    (sSeq (sIf (mTst (mBin fEq (mSl (fSlA true) (mVar 0) (mO1 (mVar 1)) (mO1 (mBin (fAddA true) (mVar 1) (mC (.int 2))))) (mC (.str ">="))))
    (sRet (mBin (fAddA true) (mVar 1) (mC (.int 2))))
    sNext)
    (sRet (mBin (fAddA true) (mVar 1) (mC (.int 1))))))
noncomputable def F__token_end : List T → Sto → R T := frame 0 true (runF 3 B__token_end)
noncomputable def B_is_name : Fx.Env → Sto → R Fl :=
    (sSeq (sIf (mOr (mTst (mBin fEq (mVar 0) (mC (.str "")))) (mTst (mBin fLt (mFn (fun ts S => if ts.length = 3 then F__run_end ts S else .bad) (mCons (mVar 0) (mCons (mC (.int 0)) (mCons (mC (.str cs_LETTERS)) mNil)))) (mFn fLen (mCons (mVar 0) mNil)))))
    (sRet (mC (.bl false)))
    sNext)
    (sRet (mAndV (mBin fLe (mFn fLen (mCons (mVar 0) mNil)) (mC (.int cs_LONGEST_NAME))) (mBin (fIn true) (mVar 0) (mC (.tup cs_RESERVED))))))
noncomputable def F_is_name : List T → Sto → R T := frame 0 true (runF 1 B_is_name)
noncomputable def B__is_number : Fx.Env → Sto → R Fl :=
    (sSeq (sIf (mOr (mTst (mBin fLt (mFn (fun ts S => if ts.length = 3 then F__run_end ts S else .bad) (mCons (mVar 0) (mCons (mC (.int 0)) (mCons (mC (.str cs_DIGITS)) mNil)))) (mFn fLen (mCons (mVar 0) mNil)))) (mTst (mBin fGt (mFn fLen (mCons (mVar 0) mNil)) (mC (.int cs_MOST_DIGITS)))))
    (sRet (mC (.bl false)))
    sNext)
    (sRet (mOrV (mBin fEq (mVar 0) (mC (.str "0"))) (mBin fNe (mBin fIx (mVar 0) (mC (.int 0))) (mC (.str "0"))))))
noncomputable def F__is_number : List T → Sto → R T := frame 0 true (runF 1 B__is_number)
noncomputable def B__kind_and_value : Fx.Env → Sto → R Fl :=
    (sSeq (sIf (mTst (mBin (fIn false) (mVar 0) (mC (.tup cs_RESERVED))))
    (sRet (mTup (mCons (mC (.str "word")) (mCons (mVar 0) mNil))))
    sNext)
    (sSeq (sIf (mTru (mFn (fun ts S => if ts.length = 1 then F_is_name ts S else .bad) (mCons (mVar 0) mNil)))
    (sRet (mTup (mCons (mC (.str "name")) (mCons (mVar 0) mNil))))
    sNext)
    (sSeq (sIf (mTru (mFn (fun ts S => if ts.length = 1 then F__is_number ts S else .bad) (mCons (mVar 0) mNil)))
    (sRet (mTup (mCons (mC (.str "number")) (mCons (mFn fInt (mCons (mVar 0) mNil)) mNil))))
    sNext)
    (sSeq (sIf (mTst (mBin (fIn false) (mVar 0) (mC (.tup cs_SYMBOLS))))
    (sRet (mTup (mCons (mC (.str "symbol")) (mCons (mVar 0) mNil))))
    sNext)
    (sRet (mTup (mCons (mC (.str "invalid")) (mCons (mC (.str "")) mNil))))))))
noncomputable def F__kind_and_value : List T → Sto → R T := frame 0 true (runF 1 B__kind_and_value)
noncomputable def B_split_text : Fx.Env → Sto → R Fl :=
    (sSeq (sSet 1 (mLst false mNil))
    (sSeq (sSet 2 (mFn (fun ts S => if ts.length = 3 then F__run_end ts S else .bad) (mCons (mVar 0) (mCons (mC (.int 0)) (mCons (mC (.str cs_BLANKS)) mNil)))))
    (sSeq (sWhile (mTst (mBin fLt (mVar 2) (mFn fLen (mCons (mVar 0) mNil))))
    (sSeq (sSet 3 (mFn (fun ts S => if ts.length = 2 then F__token_end ts S else .bad) (mCons (mVar 0) (mCons (mVar 2) mNil))))
    (sSeq (sAsg (.tp [(.nm 4), (.nm 5)]) (mFn (fun ts S => if ts.length = 1 then F__kind_and_value ts S else .bad) (mCons (mSl (fSlA true) (mVar 0) (mO1 (mVar 2)) (mO1 (mVar 3))) mNil)))
    (sSeq (sDrop (mMeth isLst fAppend (mVar 1) (mCons (mTup (mCons (mVar 2) (mCons (mVar 4) (mCons (mVar 5) mNil)))) mNil)))
    (sSeq (sIf (mTst (mBin fEq (mVar 4) (mC (.str "invalid"))))
    (sRet (mFn fTuple (mCons (mVar 1) mNil)))
    sNext)
    (sSet 2 (mFn (fun ts S => if ts.length = 3 then F__run_end ts S else .bad) (mCons (mVar 0) (mCons (mVar 3) (mCons (mC (.str cs_BLANKS)) mNil))))))))))
    (sSeq (sDrop (mMeth isLst fAppend (mVar 1) (mCons (mTup (mCons (mFn fLen (mCons (mVar 0) mNil)) (mCons (mC (.str "end")) (mCons (mC (.str "")) mNil)))) mNil)))
    (sRet (mFn fTuple (mCons (mVar 1) mNil)))))))
noncomputable def F_split_text : List T → Sto → R T := frame 0 true (runF 6 B_split_text)
noncomputable def B__check_values : Fx.Env → Sto → R Fl :=
    (sFor (mItN fEnum (mCons (mVar 0) mNil)) (.tp [(.nm 1), (.nm 2)])
    (sSeq (sSet 3 (mIte (mTru (mFn fIsi (mCons (mVar 2) (mCons (mC (.ty "str")) mNil)))) (mFn (fun ts S => if ts.length = 1 then F_is_name ts S else .bad) (mCons (mVar 2) mNil)) (mChain fLe fLe (mC (.int 0)) (mVar 2) (mC (.int cs_GREATEST_NUMBER)))))
    (sIf (mNot (mTru (mVar 3)))
    (mRaise "BadValue" ["number"] (mCons (mVar 1) mNil))
    sNext)))
noncomputable def F__check_values : List T → Sto → R T := frameX 0 true (runFX 4 B__check_values)
noncomputable def B__moved : Fx.Env → Sto → R Fl :=
    (sRet (mLc true [2, 3, 4] (mIt (mVar 0)) (.tp [(.nm 2), (.nm 3), (.nm 4)]) mTrue (mTup (mCons (mBin (fAddA true) (mVar 1) (mVar 2)) (mCons (mVar 3) (mCons (mVar 4) mNil))))))
noncomputable def F__moved : List T → Sto → R T := frame 0 true (runF 5 B__moved)
noncomputable def B_filled : Fx.Env → Sto → R Fl :=
    (sSeq (sDrop (mFn (fun ts S => if ts.length = 1 then F__check_values ts S else .bad) (mCons (mVar 1) mNil)))
    (sSeq (sSet 2 (mLst false mNil))
    (sSeq (sSet 3 (mC (.int 0)))
    (sSeq (sFor (mItN fZip (mCons (mSl (fSlA true) (mVar 0) mO0 (mO1 (mUn fNeg (mC (.int 1))))) (mCons (mVar 1) mNil))) (.tp [(.nm 4), (.nm 5)])
    (sSeq (sDrop (mMeth isLst fExtend (mVar 2) (mCons (mFn (fun ts S => if ts.length = 2 then F__moved ts S else .bad) (mCons (mFn (fun ts S => if ts.length = 1 then F_split_text ts S else .bad) (mCons (mVar 4) mNil)) (mCons (mVar 3) mNil))) mNil)))
    (sSeq (sIf (mTst (mBin fEq (mBin fIx (mBin fIx (mVar 2) (mUn fNeg (mC (.int 1)))) (mC (.int 1))) (mC (.str "invalid"))))
    (sRet (mFn fTuple (mCons (mVar 2) mNil)))
    sNext)
    (sSeq (sDrop (mMeth isLst fPop (mVar 2) mNil))
    (sSeq (sAug 3 fIpadd (mFn fLen (mCons (mVar 4) mNil)))
    (sSeq (sDrop (mMeth isLst fAppend (mVar 2) (mCons (mTup (mCons (mVar 3) (mCons (mIte (mTru (mFn fIsi (mCons (mVar 5) (mCons (mC (.ty "str")) mNil)))) (mC (.str "name")) (mC (.str "number"))) (mCons (mVar 5) mNil)))) mNil)))
    (sAug 3 fIpadd (mFn fLen (mCons (mFn fStrA (mCons (mVar 5) mNil)) mNil)))))))))
    (sSeq (sDrop (mMeth isLst fExtend (mVar 2) (mCons (mFn (fun ts S => if ts.length = 2 then F__moved ts S else .bad) (mCons (mFn (fun ts S => if ts.length = 1 then F_split_text ts S else .bad) (mCons (mBin fIx (mVar 0) (mUn fNeg (mC (.int 1)))) mNil)) (mCons (mVar 3) mNil))) mNil)))
    (sRet (mFn fTuple (mCons (mVar 2) mNil))))))))
noncomputable def F_filled : List T → Sto → R T := frameX 0 true (runFX 6 B_filled)
noncomputable def B__law_lone : Fx.Env → Sto → R Fl :=
    (sSeq (sSet 1 (mBin (fAddA true) (mBin (fAddA true) (mFn fInt (mCons (mUn (fIsX tab_ReadError) (mVar 0)) mNil)) (mFn fInt (mCons (mUn (fIsX tab_Mistakes) (mVar 0)) mNil))) (mFn fInt (mCons (mUn (fIsX tab_BadValue) (mVar 0)) mNil))))
    (sSeq (sSet 1 (mBin (fAddA true) (mBin (fAddA true) (mBin (fAddA true) (mVar 1) (mFn fInt (mCons (mUn (fIsX tab_NeedsJournal) (mVar 0)) mNil))) (mFn fInt (mCons (mUn (fIsX tab_NeedsModel) (mVar 0)) mNil))) (mFn fInt (mCons (mUn (fIsX tab_TooMany) (mVar 0)) mNil))))
    (sSeq (sSet 1 (mBin (fAddA true) (mBin (fAddA true) (mVar 1) (mFn fInt (mCons (mUn (fIsX tab_BadParticipant) (mVar 0)) mNil))) (mFn fInt (mCons (mUn (fIsX tab_BadTransaction) (mVar 0)) mNil))))
    (sSeq (sSet 1 (mBin (fAddA true) (mBin (fAddA true) (mBin (fAddA true) (mVar 1) (mFn fInt (mCons (mUn (fIsX tab_UnknownClaim) (mVar 0)) mNil))) (mFn fInt (mCons (mUn (fIsX tab_NotASum) (mVar 0)) mNil))) (mFn fInt (mCons (mUn (fIsX tab_DoesNotHold) (mVar 0)) mNil))))
    (sSeq (sSet 1 (mBin (fAddA true) (mBin (fAddA true) (mVar 1) (mFn fInt (mCons (mUn (fIsX tab_NotRefuted) (mVar 0)) mNil))) (mFn fInt (mCons (mUn (fIsX tab_NothingToUndo) (mVar 0)) mNil))))
    (sSeq (sSet 1 (mBin (fAddA true) (mVar 1) (mFn fInt (mCons (mUn (fIsX tab_NothingToRedo) (mVar 0)) mNil))))
    (sRet (mAndV (mBin fEq (mVar 1) (mC (.int 1))) (mAndV (mUn (fIsX tab_ProofError) (mVar 0)) (mUn (fIsX tab_ValueError) (mVar 0)))))))))))
noncomputable def F__law_lone : List T → Sto → R T := frame 0 true (runF 2 B__law_lone)
noncomputable def B__law_told : Fx.Env → Sto → R Fl :=
    (sTryRet exm_BadValue 2 (mFn (fun ts S => if ts.length = 2 then F_filled ts S else .bad) (mCons (mVar 0) (mCons (mVar 1) mNil)))
    (sSeq (sIf (mNot (mTru (mFn (fun ts S => if ts.length = 1 then F__law_lone ts S else .bad) (mCons (mVar 2) mNil))))
    (sRet (mTup (mCons (mC (.str "wrong error")) mNil)))
    sNext)
    (sRet (mTup (mCons (mC (.str "bad value")) (mCons (mUn (fAtt ta_number "number") (mVar 2)) mNil))))))
noncomputable def F__law_told : List T → Sto → R T := frame 0 true (runF 3 B__law_told)
noncomputable def B_law : Fx.Env → Sto → R Fl :=
    (sSeq (sSet 1 (mFn (fun ts S => if ts.length = 1 then F__law_tape ts S else .bad) (mCons (mVar 0) mNil)))
    (sSeq (sSet 2 (mFn (fun ts S => if ts.length = 2 then F__law_names ts S else .bad) (mCons (mVar 1) (mCons (mC (.int 5)) mNil))))
    (sSeq (sSet 3 (mBin fIx (mLst true (mCons (mC (.int 0)) (mCons (mC (.int 1)) (mCons (mC (.int 3)) (mCons (mC (.int 20)) mNil))))) (mFn (fun ts S => if ts.length = 2 then F__law_draw ts S else .bad) (mCons (mVar 1) (mCons (mC (.int 4)) mNil)))))
    (sSeq (sSet 4 (mFn (fun ts S => if ts.length = 2 then F__law_draw ts S else .bad) (mCons (mVar 1) (mCons (mC (.int 3)) mNil))))
    (sSeq (sSet 5 (mLst false mNil))
    (sSeq (sFor (mItN fRange1 (mCons (mBin (fAddA true) (mVar 3) (mC (.int 1))) mNil)) (.nm 6)
    (sDrop (mMeth isLst fAppend (mVar 5) (mCons (mSl (fSlA true) (mMeth isStr fJoin (mC (.str "")) (mCons (mLc true [7] (mItN fRange1 (mCons (mFn (fun ts S => if ts.length = 2 then F__law_draw ts S else .bad) (mCons (mVar 1) (mCons (mC (.int 9)) mNil))) mNil)) (.nm 7) mTrue (mFn (fun ts S => if ts.length = 3 then F__law_piece ts S else .bad) (mCons (mVar 1) (mCons (mVar 2) (mCons (mVar 4) mNil))))) mNil)) mO0 (mO1 (mC (.int 80)))) mNil))))
    (sSeq (sIf (mTst (mBin fEq (mFn (fun ts S => if ts.length = 2 then F__law_draw ts S else .bad) (mCons (mVar 1) (mCons (mC (.int 8)) mNil))) (mC (.int 0))))
    (sPut (mVar 5) (mC (.int 0)) (mBin (fAddA true) (mBin fIx (mVar 5) (mC (.int 0))) (mBin fMulS (mC (.str " ")) (mBin fSub (mC (.int 2000)) (mFn fSum (mCons (mLc true [8] (mIt (mVar 5)) (.nm 8) mTrue (mFn fLen (mCons (mVar 8) mNil))) mNil))))))
    sNext)
    (sSeq (sSet 9 (mLc true [6] (mItN fRange1 (mCons (mVar 3) mNil)) (.nm 6) mTrue (mFn (fun ts S => if ts.length = 2 then F__law_good_value ts S else .bad) (mCons (mVar 1) (mCons (mVar 2) mNil)))))
    (sSeq (sSet 10 (mLc true [6] (mItN fRange1 (mCons (mVar 3) mNil)) (.nm 6) mTrue (mFn (fun ts S => if ts.length = 2 then F__law_good_value ts S else .bad) (mCons (mVar 1) (mCons (mVar 2) mNil)))))
    (sSeq (sSet 11 (mVar 9))
    (sSeq (sIf (mTst (mBin fEq (mFn (fun ts S => if ts.length = 2 then F__law_draw ts S else .bad) (mCons (mVar 1) (mCons (mC (.int 3)) mNil))) (mC (.int 0))))
    (sSet 11 (mLc true [6] (mItN fRange1 (mCons (mVar 3) mNil)) (.nm 6) mTrue (mFn (fun ts S => if ts.length = 2 then F__law_any_value ts S else .bad) (mCons (mVar 1) (mCons (mVar 2) mNil)))))
    sNext)
    (sSeq (sSet 12 (mUn (fLstRev true) (mVar 5)))
    (sSeq (sFor (mIt (mLst true (mCons (mTup (mCons (mVar 5) (mCons (mVar 9) mNil))) (mCons (mTup (mCons (mVar 5) (mCons (mVar 11) mNil))) (mCons (mTup (mCons (mVar 5) (mCons (mVar 10) mNil))) (mCons (mTup (mCons (mVar 12) (mCons (mVar 10) mNil))) (mCons (mTup (mCons (mVar 12) (mCons (mVar 11) mNil))) (mCons (mTup (mCons (mVar 5) (mCons (mVar 9) mNil))) mNil)))))))) (.nm 13)
    (sSeq (sSet 14 (mLc true [6] (mItN fRange1 (mCons (mVar 3) mNil)) (.nm 6) (mNot (mTru (mFn (fun ts S => if ts.length = 1 then F__law_is_value ts S else .bad) (mCons (mBin fIx (mBin fIx (mVar 13) (mC (.int 1))) (mVar 6)) mNil)))) (mVar 6)))
    (sSeq (sSet 15 (mTup mNil))
    (sSeq (sIf (mTru (mVar 14))
    (sSet 15 (mTup (mCons (mC (.str "bad value")) (mCons (mBin fIx (mVar 14) (mC (.int 0))) mNil))))
    (sSet 15 (mFn (fun ts S => if ts.length = 2 then F__law_filled ts S else .bad) (mCons (mBin fIx (mVar 13) (mC (.int 0))) (mCons (mBin fIx (mVar 13) (mC (.int 1))) mNil)))))
    (sIf (mNot (mTru (mFn (fun ts S => if ts.length = 2 then (F__law_same 24) ts S else .bad) (mCons (mFn (fun ts S => if ts.length = 2 then F__law_told ts S else .bad) (mCons (mFn fTuple (mCons (mBin fIx (mVar 13) (mC (.int 0))) mNil)) (mCons (mFn fTuple (mCons (mBin fIx (mVar 13) (mC (.int 1))) mNil)) mNil))) (mCons (mVar 15) mNil)))))
    (sRet (mC (.bl false)))
    sNext)))))
    (sRet (mC (.bl true))))))))))))))))
noncomputable def F_law : List T → Sto → R T := frame 0 true (runF 16 B_law)
/-! ### what the top has written -/
structure Facts (K : PySem.W.Frag) (mg : Str → Option Value) where
  a__law_tape : Addr
  d__law_tape : FuncData
  F__law_tape : L2.Fun K "_law_tape" "_law_tape" st__law_tape a__law_tape d__law_tape
  g__law_tape : mg "_law_tape" = some (.ref a__law_tape)
  b__law_tape : Binds K d__law_tape ["script"] []
  a__law_draw : Addr
  d__law_draw : FuncData
  F__law_draw : L2.Fun K "_law_draw" "_law_draw" st__law_draw a__law_draw d__law_draw
  g__law_draw : mg "_law_draw" = some (.ref a__law_draw)
  b__law_draw : Binds K d__law_draw ["tape", "many"] []
  a__law_same : Addr
  d__law_same : FuncData
  F__law_same : L2.Fun K "_law_same" "_law_same" st__law_same a__law_same d__law_same
  g__law_same : mg "_law_same" = some (.ref a__law_same)
  b__law_same : Binds K d__law_same ["actual", "expected"] []
  a__law_letters : Addr
  d__law_letters : FuncData
  F__law_letters : L2.Fun K "_law_letters" "_law_letters" st__law_letters a__law_letters d__law_letters
  g__law_letters : mg "_law_letters" = some (.ref a__law_letters)
  b__law_letters : Binds K d__law_letters [] []
  a__law_reserved : Addr
  d__law_reserved : FuncData
  F__law_reserved : L2.Fun K "_law_reserved" "_law_reserved" st__law_reserved a__law_reserved d__law_reserved
  g__law_reserved : mg "_law_reserved" = some (.ref a__law_reserved)
  b__law_reserved : Binds K d__law_reserved [] []
  a__law_run : Addr
  d__law_run : FuncData
  F__law_run : L2.Fun K "_law_run" "_law_run" st__law_run a__law_run d__law_run
  g__law_run : mg "_law_run" = some (.ref a__law_run)
  b__law_run : Binds K d__law_run ["tape", "size"] []
  a__law_names : Addr
  d__law_names : FuncData
  F__law_names : L2.Fun K "_law_names" "_law_names" st__law_names a__law_names d__law_names
  g__law_names : mg "_law_names" = some (.ref a__law_names)
  b__law_names : Binds K d__law_names ["tape", "many"] []
  a__law_signs : Addr
  d__law_signs : FuncData
  F__law_signs : L2.Fun K "_law_signs" "_law_signs" st__law_signs a__law_signs d__law_signs
  g__law_signs : mg "_law_signs" = some (.ref a__law_signs)
  b__law_signs : Binds K d__law_signs [] []
  a__law_number_text : Addr
  d__law_number_text : FuncData
  F__law_number_text : L2.Fun K "_law_number_text" "_law_number_text" st__law_number_text a__law_number_text d__law_number_text
  g__law_number_text : mg "_law_number_text" = some (.ref a__law_number_text)
  b__law_number_text : Binds K d__law_number_text ["tape"] []
  a__law_symbol : Addr
  d__law_symbol : FuncData
  F__law_symbol : L2.Fun K "_law_symbol" "_law_symbol" st__law_symbol a__law_symbol d__law_symbol
  g__law_symbol : mg "_law_symbol" = some (.ref a__law_symbol)
  b__law_symbol : Binds K d__law_symbol ["tape"] []
  a__law_bad_piece : Addr
  d__law_bad_piece : FuncData
  F__law_bad_piece : L2.Fun K "_law_bad_piece" "_law_bad_piece" st__law_bad_piece a__law_bad_piece d__law_bad_piece
  g__law_bad_piece : mg "_law_bad_piece" = some (.ref a__law_bad_piece)
  b__law_bad_piece : Binds K d__law_bad_piece ["tape"] []
  a__law_piece : Addr
  d__law_piece : FuncData
  F__law_piece : L2.Fun K "_law_piece" "_law_piece" st__law_piece a__law_piece d__law_piece
  g__law_piece : mg "_law_piece" = some (.ref a__law_piece)
  b__law_piece : Binds K d__law_piece ["tape", "names", "wild"] []
  a__law_is_value : Addr
  d__law_is_value : FuncData
  F__law_is_value : L2.Fun K "_law_is_value" "_law_is_value" st__law_is_value a__law_is_value d__law_is_value
  g__law_is_value : mg "_law_is_value" = some (.ref a__law_is_value)
  b__law_is_value : Binds K d__law_is_value ["value"] []
  a__law_good_value : Addr
  d__law_good_value : FuncData
  F__law_good_value : L2.Fun K "_law_good_value" "_law_good_value" st__law_good_value a__law_good_value d__law_good_value
  g__law_good_value : mg "_law_good_value" = some (.ref a__law_good_value)
  b__law_good_value : Binds K d__law_good_value ["tape", "names"] []
  a__law_any_value : Addr
  d__law_any_value : FuncData
  F__law_any_value : L2.Fun K "_law_any_value" "_law_any_value" st__law_any_value a__law_any_value d__law_any_value
  g__law_any_value : mg "_law_any_value" = some (.ref a__law_any_value)
  b__law_any_value : Binds K d__law_any_value ["tape", "names"] []
  a__law_stop : Addr
  d__law_stop : FuncData
  F__law_stop : L2.Fun K "_law_stop" "_law_stop" st__law_stop a__law_stop d__law_stop
  g__law_stop : mg "_law_stop" = some (.ref a__law_stop)
  b__law_stop : Binds K d__law_stop ["text", "at"] []
  a__law_token : Addr
  d__law_token : FuncData
  F__law_token : L2.Fun K "_law_token" "_law_token" st__law_token a__law_token d__law_token
  g__law_token : mg "_law_token" = some (.ref a__law_token)
  b__law_token : Binds K d__law_token ["text", "at"] []
  a__law_tokens : Addr
  d__law_tokens : FuncData
  F__law_tokens : L2.Fun K "_law_tokens" "_law_tokens" st__law_tokens a__law_tokens d__law_tokens
  g__law_tokens : mg "_law_tokens" = some (.ref a__law_tokens)
  b__law_tokens : Binds K d__law_tokens ["text"] []
  a__law_filled : Addr
  d__law_filled : FuncData
  F__law_filled : L2.Fun K "_law_filled" "_law_filled" st__law_filled a__law_filled d__law_filled
  g__law_filled : mg "_law_filled" = some (.ref a__law_filled)
  b__law_filled : Binds K d__law_filled ["texts", "values"] []
  a__run_end : Addr
  d__run_end : FuncData
  F__run_end : L2.Fun K "_run_end" "_run_end" st__run_end a__run_end d__run_end
  g__run_end : mg "_run_end" = some (.ref a__run_end)
  b__run_end : Binds K d__run_end ["text", "place", "characters"] []
  a__token_end : Addr
  d__token_end : FuncData
  F__token_end : L2.Fun K "_token_end" "_token_end" st__token_end a__token_end d__token_end
  g__token_end : mg "_token_end" = some (.ref a__token_end)
  b__token_end : Binds K d__token_end ["text", "place"] []
  a_is_name : Addr
  d_is_name : FuncData
  F_is_name : L2.Fun K "is_name" "is_name" st_is_name a_is_name d_is_name
  g_is_name : mg "is_name" = some (.ref a_is_name)
  b_is_name : Binds K d_is_name ["text"] []
  a__is_number : Addr
  d__is_number : FuncData
  F__is_number : L2.Fun K "_is_number" "_is_number" st__is_number a__is_number d__is_number
  g__is_number : mg "_is_number" = some (.ref a__is_number)
  b__is_number : Binds K d__is_number ["piece"] []
  a__kind_and_value : Addr
  d__kind_and_value : FuncData
  F__kind_and_value : L2.Fun K "_kind_and_value" "_kind_and_value" st__kind_and_value a__kind_and_value d__kind_and_value
  g__kind_and_value : mg "_kind_and_value" = some (.ref a__kind_and_value)
  b__kind_and_value : Binds K d__kind_and_value ["piece"] []
  a_split_text : Addr
  d_split_text : FuncData
  F_split_text : L2.Fun K "split_text" "split_text" st_split_text a_split_text d_split_text
  g_split_text : mg "split_text" = some (.ref a_split_text)
  b_split_text : Binds K d_split_text ["text"] []
  a__check_values : Addr
  d__check_values : FuncData
  F__check_values : L2.Fun K "_check_values" "_check_values" st__check_values a__check_values d__check_values
  g__check_values : mg "_check_values" = some (.ref a__check_values)
  b__check_values : Binds K d__check_values ["values"] []
  a__moved : Addr
  d__moved : FuncData
  F__moved : L2.Fun K "_moved" "_moved" st__moved a__moved d__moved
  g__moved : mg "_moved" = some (.ref a__moved)
  b__moved : Binds K d__moved ["tokens", "start"] []
  a_filled : Addr
  d_filled : FuncData
  F_filled : L2.Fun K "filled" "filled" st_filled a_filled d_filled
  g_filled : mg "filled" = some (.ref a_filled)
  b_filled : Binds K d_filled ["texts", "values"] []
  a__law_lone : Addr
  d__law_lone : FuncData
  F__law_lone : L2.Fun K "_law_lone" "_law_lone" st__law_lone a__law_lone d__law_lone
  g__law_lone : mg "_law_lone" = some (.ref a__law_lone)
  b__law_lone : Binds K d__law_lone ["e"] []
  a__law_told : Addr
  d__law_told : FuncData
  F__law_told : L2.Fun K "_law_told" "_law_told" st__law_told a__law_told d__law_told
  g__law_told : mg "_law_told" = some (.ref a__law_told)
  b__law_told : Binds K d__law_told ["texts", "values"] []
  a_law : Addr
  d_law : FuncData
  F_law : L2.Fun K "law" "law" st_law a_law d_law
  g_law : mg "law" = some (.ref a_law)
  b_law : Binds K d_law ["script"] []
  a_BadParticipant : Addr
  g_BadParticipant : mg "BadParticipant" = some (.ref a_BadParticipant)
  a_BadTransaction : Addr
  g_BadTransaction : mg "BadTransaction" = some (.ref a_BadTransaction)
  a_BadValue : Addr
  g_BadValue : mg "BadValue" = some (.ref a_BadValue)
  a_DoesNotHold : Addr
  g_DoesNotHold : mg "DoesNotHold" = some (.ref a_DoesNotHold)
  a_Mistakes : Addr
  g_Mistakes : mg "Mistakes" = some (.ref a_Mistakes)
  a_NeedsJournal : Addr
  g_NeedsJournal : mg "NeedsJournal" = some (.ref a_NeedsJournal)
  a_NeedsModel : Addr
  g_NeedsModel : mg "NeedsModel" = some (.ref a_NeedsModel)
  a_NotASum : Addr
  g_NotASum : mg "NotASum" = some (.ref a_NotASum)
  a_NotRefuted : Addr
  g_NotRefuted : mg "NotRefuted" = some (.ref a_NotRefuted)
  a_NothingToRedo : Addr
  g_NothingToRedo : mg "NothingToRedo" = some (.ref a_NothingToRedo)
  a_NothingToUndo : Addr
  g_NothingToUndo : mg "NothingToUndo" = some (.ref a_NothingToUndo)
  a_ProofError : Addr
  g_ProofError : mg "ProofError" = some (.ref a_ProofError)
  a_ReadError : Addr
  g_ReadError : mg "ReadError" = some (.ref a_ReadError)
  a_TooMany : Addr
  g_TooMany : mg "TooMany" = some (.ref a_TooMany)
  a_UnknownClaim : Addr
  g_UnknownClaim : mg "UnknownClaim" = some (.ref a_UnknownClaim)
  ai_BadValue : Addr
  di_BadValue : FuncData
  Fi_BadValue : L2.Fun K "__init__" "BadValue.__init__" sti_BadValue ai_BadValue di_BadValue
  bi_BadValue : Binds K di_BadValue ["self", "number"] []
  M_BadValue : MkC K mg "BadValue" a_BadValue ai_BadValue
  x_BadValue : excB K a_BadValue = true
  n_BadValue_number : PySem.W.findIn K (.ref a_BadValue) "number" = some none
  kit_BadValue_BadParticipant : PySem.W.kitOne K (.ref a_BadValue) (.ref a_BadParticipant) = some false
  kit_BadValue_BadTransaction : PySem.W.kitOne K (.ref a_BadValue) (.ref a_BadTransaction) = some false
  kit_BadValue_BadValue : PySem.W.kitOne K (.ref a_BadValue) (.ref a_BadValue) = some true
  kit_BadValue_DoesNotHold : PySem.W.kitOne K (.ref a_BadValue) (.ref a_DoesNotHold) = some false
  kit_BadValue_Mistakes : PySem.W.kitOne K (.ref a_BadValue) (.ref a_Mistakes) = some false
  kit_BadValue_NeedsJournal : PySem.W.kitOne K (.ref a_BadValue) (.ref a_NeedsJournal) = some false
  kit_BadValue_NeedsModel : PySem.W.kitOne K (.ref a_BadValue) (.ref a_NeedsModel) = some false
  kit_BadValue_NotASum : PySem.W.kitOne K (.ref a_BadValue) (.ref a_NotASum) = some false
  kit_BadValue_NotRefuted : PySem.W.kitOne K (.ref a_BadValue) (.ref a_NotRefuted) = some false
  kit_BadValue_NothingToRedo : PySem.W.kitOne K (.ref a_BadValue) (.ref a_NothingToRedo) = some false
  kit_BadValue_NothingToUndo : PySem.W.kitOne K (.ref a_BadValue) (.ref a_NothingToUndo) = some false
  kit_BadValue_ProofError : PySem.W.kitOne K (.ref a_BadValue) (.ref a_ProofError) = some true
  kit_BadValue_ReadError : PySem.W.kitOne K (.ref a_BadValue) (.ref a_ReadError) = some false
  kit_BadValue_TooMany : PySem.W.kitOne K (.ref a_BadValue) (.ref a_TooMany) = some false
  kit_BadValue_UnknownClaim : PySem.W.kitOne K (.ref a_BadValue) (.ref a_UnknownClaim) = some false
  kit_BadValue_ValueError : PySem.W.kitOne K (.ref a_BadValue) (.type "ValueError") = some true
  exm_BadValue_BadValue : PySem.W.exmOne K (.ref a_BadValue) (.ref a_BadValue) = some true
  m_ValueError : mg "ValueError" = none
  m_abs : mg "abs" = none
  m_bool : mg "bool" = none
  m_enumerate : mg "enumerate" = none
  m_int : mg "int" = none
  m_isinstance : mg "isinstance" = none
  m_len : mg "len" = none
  m_list : mg "list" = none
  m_max : mg "max" = none
  m_min : mg "min" = none
  m_range : mg "range" = none
  m_reversed : mg "reversed" = none
  m_str : mg "str" = none
  m_sum : mg "sum" = none
  m_tuple : mg "tuple" = none
  m_zip : mg "zip" = none
  q_BLANKS : GC K mg "BLANKS" (.str cs_BLANKS)
  q_DIGITS : GC K mg "DIGITS" (.str cs_DIGITS)
  q_GREATEST_NUMBER : GC K mg "GREATEST_NUMBER" (.int cs_GREATEST_NUMBER)
  q_LETTERS : GC K mg "LETTERS" (.str cs_LETTERS)
  q_LONGEST_NAME : GC K mg "LONGEST_NAME" (.int cs_LONGEST_NAME)
  q_MOST_DIGITS : GC K mg "MOST_DIGITS" (.int cs_MOST_DIGITS)
  q_RESERVED : GC K mg "RESERVED" (.tup cs_RESERVED)
  q_SYMBOLS : GC K mg "SYMBOLS" (.tup cs_SYMBOLS)
/-! ### each def keeps to its mirror -/
section
variable {P : Program} {w : World} {K : PySem.W.Frag} {mg : Str → Option Value} {base : Heap}
theorem in_BadValue (T : Facts K mg) : FnOk P w K mg base CX0 1 T.ai_BadValue T.di_BadValue ["self", "number"] (spI1 K "number") := init1 T.Fi_BadValue sci_BadValue rfl (.inl rfl) (.inl rfl) (by decide) (by decide)
theorem kt_BadParticipant (T : Facts K mg) : ∀ (c : Str) (b : Bool), tab_BadParticipant c = some b → KitT K c (.ref T.a_BadParticipant) b := by
  intro c b h
  unfold tab_BadParticipant at h
  split at h
  · rename_i e; subst e; cases h; exact kitT_ref T.M_BadValue.ga T.x_BadValue T.kit_BadValue_BadParticipant
  cases h
theorem kt_BadTransaction (T : Facts K mg) : ∀ (c : Str) (b : Bool), tab_BadTransaction c = some b → KitT K c (.ref T.a_BadTransaction) b := by
  intro c b h
  unfold tab_BadTransaction at h
  split at h
  · rename_i e; subst e; cases h; exact kitT_ref T.M_BadValue.ga T.x_BadValue T.kit_BadValue_BadTransaction
  cases h
theorem kt_BadValue (T : Facts K mg) : ∀ (c : Str) (b : Bool), tab_BadValue c = some b → KitT K c (.ref T.a_BadValue) b := by
  intro c b h
  unfold tab_BadValue at h
  split at h
  · rename_i e; subst e; cases h; exact kitT_ref T.M_BadValue.ga T.x_BadValue T.kit_BadValue_BadValue
  cases h
theorem kt_DoesNotHold (T : Facts K mg) : ∀ (c : Str) (b : Bool), tab_DoesNotHold c = some b → KitT K c (.ref T.a_DoesNotHold) b := by
  intro c b h
  unfold tab_DoesNotHold at h
  split at h
  · rename_i e; subst e; cases h; exact kitT_ref T.M_BadValue.ga T.x_BadValue T.kit_BadValue_DoesNotHold
  cases h
theorem kt_Mistakes (T : Facts K mg) : ∀ (c : Str) (b : Bool), tab_Mistakes c = some b → KitT K c (.ref T.a_Mistakes) b := by
  intro c b h
  unfold tab_Mistakes at h
  split at h
  · rename_i e; subst e; cases h; exact kitT_ref T.M_BadValue.ga T.x_BadValue T.kit_BadValue_Mistakes
  cases h
theorem kt_NeedsJournal (T : Facts K mg) : ∀ (c : Str) (b : Bool), tab_NeedsJournal c = some b → KitT K c (.ref T.a_NeedsJournal) b := by
  intro c b h
  unfold tab_NeedsJournal at h
  split at h
  · rename_i e; subst e; cases h; exact kitT_ref T.M_BadValue.ga T.x_BadValue T.kit_BadValue_NeedsJournal
  cases h
theorem kt_NeedsModel (T : Facts K mg) : ∀ (c : Str) (b : Bool), tab_NeedsModel c = some b → KitT K c (.ref T.a_NeedsModel) b := by
  intro c b h
  unfold tab_NeedsModel at h
  split at h
  · rename_i e; subst e; cases h; exact kitT_ref T.M_BadValue.ga T.x_BadValue T.kit_BadValue_NeedsModel
  cases h
theorem kt_NotASum (T : Facts K mg) : ∀ (c : Str) (b : Bool), tab_NotASum c = some b → KitT K c (.ref T.a_NotASum) b := by
  intro c b h
  unfold tab_NotASum at h
  split at h
  · rename_i e; subst e; cases h; exact kitT_ref T.M_BadValue.ga T.x_BadValue T.kit_BadValue_NotASum
  cases h
theorem kt_NotRefuted (T : Facts K mg) : ∀ (c : Str) (b : Bool), tab_NotRefuted c = some b → KitT K c (.ref T.a_NotRefuted) b := by
  intro c b h
  unfold tab_NotRefuted at h
  split at h
  · rename_i e; subst e; cases h; exact kitT_ref T.M_BadValue.ga T.x_BadValue T.kit_BadValue_NotRefuted
  cases h
theorem kt_NothingToRedo (T : Facts K mg) : ∀ (c : Str) (b : Bool), tab_NothingToRedo c = some b → KitT K c (.ref T.a_NothingToRedo) b := by
  intro c b h
  unfold tab_NothingToRedo at h
  split at h
  · rename_i e; subst e; cases h; exact kitT_ref T.M_BadValue.ga T.x_BadValue T.kit_BadValue_NothingToRedo
  cases h
theorem kt_NothingToUndo (T : Facts K mg) : ∀ (c : Str) (b : Bool), tab_NothingToUndo c = some b → KitT K c (.ref T.a_NothingToUndo) b := by
  intro c b h
  unfold tab_NothingToUndo at h
  split at h
  · rename_i e; subst e; cases h; exact kitT_ref T.M_BadValue.ga T.x_BadValue T.kit_BadValue_NothingToUndo
  cases h
theorem kt_ProofError (T : Facts K mg) : ∀ (c : Str) (b : Bool), tab_ProofError c = some b → KitT K c (.ref T.a_ProofError) b := by
  intro c b h
  unfold tab_ProofError at h
  split at h
  · rename_i e; subst e; cases h; exact kitT_ref T.M_BadValue.ga T.x_BadValue T.kit_BadValue_ProofError
  cases h
theorem kt_ReadError (T : Facts K mg) : ∀ (c : Str) (b : Bool), tab_ReadError c = some b → KitT K c (.ref T.a_ReadError) b := by
  intro c b h
  unfold tab_ReadError at h
  split at h
  · rename_i e; subst e; cases h; exact kitT_ref T.M_BadValue.ga T.x_BadValue T.kit_BadValue_ReadError
  cases h
theorem kt_TooMany (T : Facts K mg) : ∀ (c : Str) (b : Bool), tab_TooMany c = some b → KitT K c (.ref T.a_TooMany) b := by
  intro c b h
  unfold tab_TooMany at h
  split at h
  · rename_i e; subst e; cases h; exact kitT_ref T.M_BadValue.ga T.x_BadValue T.kit_BadValue_TooMany
  cases h
theorem kt_UnknownClaim (T : Facts K mg) : ∀ (c : Str) (b : Bool), tab_UnknownClaim c = some b → KitT K c (.ref T.a_UnknownClaim) b := by
  intro c b h
  unfold tab_UnknownClaim at h
  split at h
  · rename_i e; subst e; cases h; exact kitT_ref T.M_BadValue.ga T.x_BadValue T.kit_BadValue_UnknownClaim
  cases h
theorem kt_ValueError (T : Facts K mg) : ∀ (c : Str) (b : Bool), tab_ValueError c = some b → KitT K c (.ty "ValueError") b := by
  intro c b h
  unfold tab_ValueError at h
  split at h
  · rename_i e; subst e; cases h; exact kitT_ty T.M_BadValue.ga T.x_BadValue T.kit_BadValue_ValueError
  cases h
theorem et_BadValue (T : Facts K mg) : ∀ (c : Str) (b : Bool), exm_BadValue c = some b → ExmT K c (.ref T.a_BadValue) b := by
  intro c b h
  unfold exm_BadValue at h
  split at h
  · rename_i e; subst e; cases h; exact exmT_of T.M_BadValue.ga T.exm_BadValue_BadValue
  cases h
theorem at_number (T : Facts K mg) : ∀ c : Str, ta_number c = true → ∀ C, gaK K c = some C → ExcD K C ∧ PySem.W.findIn K (.ref C) "number" = some none := by
  intro c h C g
  unfold ta_number at h
  split at h
  · rename_i e; subst e; rw [T.M_BadValue.ga] at g; cases g; exact ⟨excB_ok T.x_BadValue, T.n_BadValue_number⟩
  cases h
theorem ok__law_tape (T : Facts K mg) : FnOk P w K mg base CX0 1 T.a__law_tape T.d__law_tape ["script"] (spM K 1 F__law_tape) :=
  (fn_ok T.F__law_tape sc__law_tape fun cdv A outer s H E hr => (s_cons (s_set (i := 1) sc__law_tape.nd rfl (by first | exact .inl rfl | exact .inr rfl) x_int)
    (s_cons (s_for PassesOwn.never rfl (i_seq (xv 0)) (g_name (i := 2) sc__law_tape.nd rfl (by first | exact .inl rfl | exact .inr rfl))
    (s_one (s_set (i := 1) sc__law_tape.nd rfl (by first | exact .inl rfl | exact .inr rfl) (x_bin op_mod f_mod (x_callT o_int f_int (by rfl) T.m_int bt_int (a_cons (x_bin o_addA (f_addA true) (x_bin op_mul f_mul (xv 1) x_int) (x_callB o_abs f_abs (by rfl) T.m_abs bt_abs (a_cons (x_callT o_int f_int (by rfl) T.m_int bt_int (a_cons (xv 2) a_nil)) a_nil))) a_nil)) x_int))))
    (s_one (s_ret (x_lst false (a_cons (x_callT (o_listA rfl) (f_listA true) (by rfl) T.m_list bt_list (a_cons (xv 0) a_nil)) (a_cons x_int (a_cons x_int (a_cons (xv 1) a_nil))))))))))
theorem ok__law_draw (T : Facts K mg) : FnOk P w K mg base CX0 1 T.a__law_draw T.d__law_draw ["tape", "many"] (spM K 2 F__law_draw) :=
  FnOk.framed (fn_ok T.F__law_draw sc__law_draw fun cdv A outer s H E hr => (s_cons (s_if (t_cmp (o_eq hr.units) f_eq (x_ix o_ix f_ix (xv 0) x_int) x_int)
    (s_cons (s_set (i := 2) sc__law_draw.nd rfl (by first | exact .inl rfl | exact .inr rfl) (x_ix o_ix f_ix (xv 0) x_int))
    (s_cons (s_set (i := 3) sc__law_draw.nd rfl (by first | exact .inl rfl | exact .inr rfl) x_int)
    (s_cons (s_if (t_cmp op_lt f_lt (xv 2) (x_callB o_len f_len (by rfl) T.m_len bt_len (a_cons (x_ix o_ix f_ix (xv 0) x_int) a_nil)))
    (s_one (s_set (i := 3) sc__law_draw.nd rfl (by first | exact .inl rfl | exact .inr rfl) (x_callB o_abs f_abs (by rfl) T.m_abs bt_abs (a_cons (x_callT o_int f_int (by rfl) T.m_int bt_int (a_cons (x_ix o_ix f_ix (x_ix o_ix f_ix (xv 0) x_int) (xv 2)) a_nil)) a_nil))))
    (s_cons (s_put (x_bin op_mod f_mod (x_callT o_int f_int (by rfl) T.m_int bt_int (a_cons (x_bin o_addA (f_addA true) (x_bin o_addA (f_addA true) (x_bin op_mul f_mul (x_ix o_ix f_ix (xv 0) x_int) x_int) (xv 2)) x_int) a_nil)) x_int) (xv 0) x_int (pg_sub (xv 0) x_int set_list))
    (s_one (s_set (i := 3) sc__law_draw.nd rfl (by first | exact .inl rfl | exact .inr rfl) (x_ix o_ix f_ix (xv 0) x_int)))))
    (s_cons (s_put (x_bin o_addA (f_addA true) (xv 2) x_int) (xv 0) x_int (pg_sub (xv 0) x_int set_list))
    (s_cons (s_if (t_cmp op_lt f_lt (xv 3) (x_bin op_pow f_pow x_int x_int))
    (s_cons (s_set (i := 3) sc__law_draw.nd rfl (by first | exact .inl rfl | exact .inr rfl) (x_bin op_mod f_mod (x_callT o_int f_int (by rfl) T.m_int bt_int (a_cons (x_bin o_addA (f_addA true) (x_bin o_addA (f_addA true) (x_bin op_mul f_mul (xv 3) x_int) (x_bin op_mul f_mul (xv 2) x_int)) x_int) a_nil)) x_int))
    (s_cons (s_set (i := 3) sc__law_draw.nd rfl (by first | exact .inl rfl | exact .inr rfl) (x_bin op_mod f_mod (x_callT o_int f_int (by rfl) T.m_int bt_int (a_cons (x_bin op_mul f_mul (xv 3) x_int) a_nil)) x_int))
    (s_one (s_ret (x_bin op_mod f_mod (x_callT o_int f_int (by rfl) T.m_int bt_int (a_cons (xv 3) a_nil)) (x_callB (o_max2 rfl) f_max2 (by rfl) T.m_max bt_max (a_cons (xv 1) (a_cons x_int a_nil))))))))
    s_nil)
    (s_one (s_put (xv 3) (xv 0) x_int (pg_sub (xv 0) x_int set_list))))))))
    s_nil)
    (s_cons (s_set (i := 3) sc__law_draw.nd rfl (by first | exact .inl rfl | exact .inr rfl) (x_ix o_ix f_ix (xv 0) x_int))
    (s_cons (s_put (x_bin op_fdiv f_div (xv 3) (x_callB (o_max2 rfl) f_max2 (by rfl) T.m_max bt_max (a_cons (xv 1) (a_cons x_int a_nil)))) (xv 0) x_int (pg_sub (xv 0) x_int set_list))
    (s_one (s_ret (x_bin op_mod f_mod (x_callT o_int f_int (by rfl) T.m_int bt_int (a_cons (xv 3) a_nil)) (x_callB (o_max2 rfl) f_max2 (by rfl) T.m_max bt_max (a_cons (xv 1) (a_cons x_int a_nil)))))))))) 1 true
theorem ok__law_same (T : Facts K mg) : ∀ d : Nat, FnOk P w K mg base CX0 (1 + d) T.a__law_same T.d__law_same ["actual", "expected"] (spM K 2 (F__law_same d))
  | 0 => fn_bad
  | d + 1 => FnOk.framed (fn_ok T.F__law_same sc__law_same fun cdv A outer s H E hr => by
    have ih := ok__law_same T d
    exact (s_cons (s_if (t_cmp op_isN f_isN (xv 1) x_non)
    (s_one (s_ret (x_cmp op_isN f_isN (xv 0) x_non)))
    s_nil)
    (s_cons (s_if (t_tru (x_callB o_isi f_isi (by rfl) T.m_isinstance bt_isinstance (a_cons (xv 1) (a_cons (x_ty (by rfl) T.m_tuple bt_tuple) a_nil))))
    (s_cons (s_if (PW.pt (t_or (t_not (t_tru (x_callB o_isi f_isi (by rfl) T.m_isinstance bt_isinstance (a_cons (xv 0) (a_cons (x_ty (by rfl) T.m_tuple bt_tuple) a_nil))))) (t_or1 (t_cmp (o_ne hr.units) f_ne (x_callB o_len f_len (by rfl) T.m_len bt_len (a_cons (xv 0) a_nil)) (x_callB o_len f_len (by rfl) T.m_len bt_len (a_cons (xv 1) a_nil))))))
    (s_one (s_ret x_bl))
    s_nil)
    (s_cons (s_for PassesOwn.never rfl (i_range1 (by rfl) T.m_range (a_cons (x_callB o_len f_len (by rfl) T.m_len bt_len (a_cons (xv 1) a_nil)) a_nil)) (g_name (i := 2) sc__law_same.nd rfl (by first | exact .inl rfl | exact .inr rfl))
    (s_one (s_if (t_not (t_tru (x_call ih hr (by rfl) T.g__law_same T.F__law_same.kp T.b__law_same (a_cons (x_ix o_ix f_ix (xv 0) (xv 2)) (a_cons (x_ix o_ix f_ix (xv 1) (xv 2)) a_nil)))))
    (s_one (s_ret x_bl))
    s_nil)))
    (s_one (s_ret x_bl))))
    s_nil)
    (s_cons (s_if (t_tru (x_callB o_isi f_isi (by rfl) T.m_isinstance bt_isinstance (a_cons (xv 1) (a_cons (x_ty (by rfl) T.m_bool bt_bool) a_nil))))
    (s_one (s_ret (x_and (x_callB o_isi f_isi (by rfl) T.m_isinstance bt_isinstance (a_cons (xv 0) (a_cons (x_ty (by rfl) T.m_bool bt_bool) a_nil))) (x_one (x_cmp (o_eq hr.units) f_eq (xv 0) (xv 1))))))
    s_nil)
    (s_cons (s_if (t_tru (x_callB o_isi f_isi (by rfl) T.m_isinstance bt_isinstance (a_cons (xv 1) (a_cons (x_ty (by rfl) T.m_str bt_str) a_nil))))
    (s_one (s_ret (x_and (x_callB o_isi f_isi (by rfl) T.m_isinstance bt_isinstance (a_cons (xv 0) (a_cons (x_ty (by rfl) T.m_str bt_str) a_nil))) (x_one (x_cmp (o_eq hr.units) f_eq (xv 0) (xv 1))))))
    s_nil)
    (s_one (s_ret (x_and (x_callB o_isi f_isi (by rfl) T.m_isinstance bt_isinstance (a_cons (xv 0) (a_cons (x_ty (by rfl) T.m_int bt_int) a_nil))) (x_and (x_not (x_callB o_isi f_isi (by rfl) T.m_isinstance bt_isinstance (a_cons (xv 0) (a_cons (x_ty (by rfl) T.m_bool bt_bool) a_nil)))) (x_one (x_cmp (o_eq hr.units) f_eq (xv 0) (xv 1)))))))))))) 0 true
theorem ok__law_letters (T : Facts K mg) : FnOk P w K mg base CX0 1 T.a__law_letters T.d__law_letters [] (spM K 0 F__law_letters) :=
  FnOk.framed (fn_ok T.F__law_letters sc__law_letters fun cdv A outer s H E hr => (s_one (s_ret x_str))) 0 true
theorem ok__law_reserved (T : Facts K mg) : FnOk P w K mg base CX0 1 T.a__law_reserved T.d__law_reserved [] (spM K 0 F__law_reserved) :=
  FnOk.framed (fn_ok T.F__law_reserved sc__law_reserved fun cdv A outer s H E hr => (s_cons (s_set (i := 0) sc__law_reserved.nd rfl (by first | exact .inl rfl | exact .inr rfl) x_str)
    (s_cons (s_set (i := 0) sc__law_reserved.nd rfl (by first | exact .inl rfl | exact .inr rfl) (x_bin o_addA (f_addA true) (xv 0) x_str))
    (s_one (s_ret (x_meth PySem.F.plainAttrs_str PySem.F.slot_str_split PySem.F.type_str_split mt_split (f_split true) ty_str (xv 0) (a_cons x_str a_nil))))))) 0 true
theorem ok__law_run (T : Facts K mg) : FnOk P w K mg base CX0 2 T.a__law_run T.d__law_run ["tape", "size"] (spM K 2 F__law_run) :=
  FnOk.framed (fn_ok T.F__law_run sc__law_run fun cdv A outer s H E hr => (s_one (s_ret (x_meth PySem.F.plainAttrs_str PySem.F.slot_str_join PySem.F.type_str_join mt_join f_join ty_str x_str (a_cons (x_lc true (own := [("k", 2)]) (p := (.nm 2)) rfl sc__law_run.nd (i_range1 (by rfl) T.m_range (a_cons (xv 1) a_nil)) (blkOk_by (N := N__law_run) (sc := defScope st__law_run) (by decide +kernel)) (by decide) (fun _ _ _ _ _ => (g_name (i := 2) sc__law_run.nd rfl (by first | exact .inl rfl | exact .inr rfl))) (fun _ _ _ _ _ => ts_nil) (fun _ _ _ _ _ => (x_ix o_ix f_ix (x_call0 (ok__law_letters T) (hr.mono (by decide)) (by rfl) T.g__law_letters T.F__law_letters.kp T.b__law_letters) (x_call (ok__law_draw T) (hr.mono (by decide)) (by rfl) T.g__law_draw T.F__law_draw.kp T.b__law_draw (a_cons (xv 0) (a_cons x_int a_nil)))))) a_nil))))) 1 true
theorem ok__law_names (T : Facts K mg) : FnOk P w K mg base CX0 3 T.a__law_names T.d__law_names ["tape", "many"] (spM K 2 F__law_names) :=
  FnOk.framed (fn_ok T.F__law_names sc__law_names fun cdv A outer s H E hr => (s_cons (s_set (i := 2) sc__law_names.nd rfl (by first | exact .inl rfl | exact .inr rfl) (x_lst true (a_cons x_str (a_cons x_str (a_cons x_str (a_cons x_str (a_cons x_str (a_cons x_str (a_cons x_str (a_cons (x_call (ok__law_run T) (hr.mono (by decide)) (by rfl) T.g__law_run T.F__law_run.kp T.b__law_run (a_cons (xv 0) (a_cons (x_call (ok__law_draw T) (hr.mono (by decide)) (by rfl) T.g__law_draw T.F__law_draw.kp T.b__law_draw (a_cons (xv 0) (a_cons x_int a_nil))) a_nil))) (a_cons (x_call (ok__law_run T) (hr.mono (by decide)) (by rfl) T.g__law_run T.F__law_run.kp T.b__law_run (a_cons (xv 0) (a_cons x_int a_nil))) a_nil)))))))))))
    (s_cons (s_set (i := 3) sc__law_names.nd rfl (by first | exact .inl rfl | exact .inr rfl) (x_ix o_ix f_ix (xv 2) (x_call (ok__law_draw T) (hr.mono (by decide)) (by rfl) T.g__law_draw T.F__law_draw.kp T.b__law_draw (a_cons (xv 0) (a_cons x_int a_nil)))))
    (s_cons (s_set (i := 4) sc__law_names.nd rfl (by first | exact .inl rfl | exact .inr rfl) (x_lst true (a_cons x_str (a_cons x_str (a_cons x_str (a_cons x_str (a_cons x_str (a_cons x_str (a_cons x_str (a_cons x_str a_nil))))))))))
    (s_cons (s_set (i := 5) sc__law_names.nd rfl (by first | exact .inl rfl | exact .inr rfl) (x_call0 (ok__law_reserved T) (hr.mono (by decide)) (by rfl) T.g__law_reserved T.F__law_reserved.kp T.b__law_reserved))
    (s_cons (s_set (i := 6) sc__law_names.nd rfl (by first | exact .inl rfl | exact .inr rfl) (x_callT (o_listA rfl) (f_listA false) (by rfl) T.m_list bt_list (a_cons (x_call0 (ok__law_letters T) (hr.mono (by decide)) (by rfl) T.g__law_letters T.F__law_letters.kp T.b__law_letters) a_nil)))
    (s_cons (s_set (i := 7) sc__law_names.nd rfl (by first | exact .inl rfl | exact .inr rfl) (x_lst false a_nil))
    (s_cons (s_for PassesOwn.never rfl (i_range1 (by rfl) T.m_range (a_cons (xv 1) a_nil)) (g_name (i := 8) sc__law_names.nd rfl (by first | exact .inl rfl | exact .inr rfl))
    (s_cons (s_set (i := 9) sc__law_names.nd rfl (by first | exact .inl rfl | exact .inr rfl) (x_bin o_addA (f_addA true) (xv 3) (x_meth PySem.F.plainAttrs_list PySem.F.slot_list_pop PySem.F.type_list_pop mt_popAt f_popAt ty_lst (xv 6) (a_cons (x_call (ok__law_draw T) (hr.mono (by decide)) (by rfl) T.g__law_draw T.F__law_draw.kp T.b__law_draw (a_cons (xv 0) (a_cons (x_callB o_len f_len (by rfl) T.m_len bt_len (a_cons (xv 6) a_nil)) a_nil))) a_nil))))
    (s_cons (s_set (i := 9) sc__law_names.nd rfl (by first | exact .inl rfl | exact .inr rfl) (x_bin o_addA (f_addA true) (xv 9) (x_call (ok__law_run T) (hr.mono (by decide)) (by rfl) T.g__law_run T.F__law_run.kp T.b__law_run (a_cons (xv 0) (a_cons (x_ix o_ix f_ix (x_lst true (a_cons x_int (a_cons x_int (a_cons x_int (a_cons x_int a_nil))))) (x_call (ok__law_draw T) (hr.mono (by decide)) (by rfl) T.g__law_draw T.F__law_draw.kp T.b__law_draw (a_cons (xv 0) (a_cons x_int a_nil)))) a_nil)))))
    (s_cons (s_if (t_cmp (o_in (hu65 hr)) f_in (xv 9) (xv 5))
    (s_one (s_set (i := 9) sc__law_names.nd rfl (by first | exact .inl rfl | exact .inr rfl) (x_bin o_addA (f_addA true) (xv 9) x_str)))
    s_nil)
    (s_one (s_expr (x_meth PySem.F.plainAttrs_list PySem.F.slot_list_append PySem.F.type_list_append mt_append f_append ty_lst (xv 7) (a_cons (xv 9) a_nil))))))))
    (s_cons (s_if (t_cmp (o_eq hr.units) f_eq (x_call (ok__law_draw T) (hr.mono (by decide)) (by rfl) T.g__law_draw T.F__law_draw.kp T.b__law_draw (a_cons (xv 0) (a_cons x_int a_nil))) x_int)
    (s_one (s_for PassesOwn.never rfl (i_range1 (by rfl) T.m_range (a_cons (x_callB (o_min2 rfl) f_min2 (by rfl) T.m_min bt_min (a_cons (xv 1) (a_cons x_int a_nil))) a_nil)) (g_name (i := 8) sc__law_names.nd rfl (by first | exact .inl rfl | exact .inr rfl))
    (s_cons (s_set (i := 10) sc__law_names.nd rfl (by first | exact .inl rfl | exact .inr rfl) (x_ix o_ix f_ix (xv 4) (x_call (ok__law_draw T) (hr.mono (by decide)) (by rfl) T.g__law_draw T.F__law_draw.kp T.b__law_draw (a_cons (xv 0) (a_cons x_int a_nil)))))
    (s_one (s_if (t_cmp (o_ni (hu65 hr)) f_ni (xv 10) (xv 7))
    (s_one (s_put (xv 10) (xv 7) (xv 8) (pg_sub (xv 7) (xv 8) set_list)))
    s_nil)))))
    s_nil)
    (s_one (s_ret (xv 7)))))))))))) 1 true
theorem ok__law_signs (T : Facts K mg) : FnOk P w K mg base CX0 1 T.a__law_signs T.d__law_signs [] (spM K 0 F__law_signs) :=
  FnOk.framed (fn_ok T.F__law_signs sc__law_signs fun cdv A outer s H E hr => (s_cons (s_set (i := 0) sc__law_signs.nd rfl (by first | exact .inl rfl | exact .inr rfl) x_str)
    (s_one (s_ret (x_bin o_addA (f_addA true) (xv 0) x_str))))) 0 true
theorem ok__law_number_text (T : Facts K mg) : FnOk P w K mg base CX0 2 T.a__law_number_text T.d__law_number_text ["tape"] (spM K 1 F__law_number_text) :=
  FnOk.framed (fn_ok T.F__law_number_text sc__law_number_text fun cdv A outer s H E hr => (s_one (s_ret (x_ix o_ix f_ix (x_lst true (a_cons x_str (a_cons x_str (a_cons x_str (a_cons x_str (a_cons x_str (a_cons x_str (a_cons (x_callT o_str f_str (by rfl) T.m_str bt_str (a_cons (x_call (ok__law_draw T) (hr.mono (by decide)) (by rfl) T.g__law_draw T.F__law_draw.kp T.b__law_draw (a_cons (xv 0) (a_cons x_int a_nil))) a_nil)) a_nil)))))))) (x_call (ok__law_draw T) (hr.mono (by decide)) (by rfl) T.g__law_draw T.F__law_draw.kp T.b__law_draw (a_cons (xv 0) (a_cons x_int a_nil))))))) 1 true
theorem ok__law_symbol (T : Facts K mg) : FnOk P w K mg base CX0 2 T.a__law_symbol T.d__law_symbol ["tape"] (spM K 1 F__law_symbol) :=
  FnOk.framed (fn_ok T.F__law_symbol sc__law_symbol fun cdv A outer s H E hr => (s_one (s_ret (x_ix o_ix f_ix (x_lst true (a_cons x_str (a_cons x_str (a_cons x_str (a_cons x_str (a_cons x_str (a_cons x_str (a_cons x_str (a_cons x_str (a_cons x_str (a_cons x_str (a_cons x_str a_nil)))))))))))) (x_call (ok__law_draw T) (hr.mono (by decide)) (by rfl) T.g__law_draw T.F__law_draw.kp T.b__law_draw (a_cons (xv 0) (a_cons x_int a_nil))))))) 1 true
theorem ok__law_bad_piece (T : Facts K mg) : FnOk P w K mg base CX0 3 T.a__law_bad_piece T.d__law_bad_piece ["tape"] (spM K 1 F__law_bad_piece) :=
  FnOk.framed (fn_ok T.F__law_bad_piece sc__law_bad_piece fun cdv A outer s H E hr => (s_cons (s_set (i := 1) sc__law_bad_piece.nd rfl (by first | exact .inl rfl | exact .inr rfl) (x_lst true (a_cons x_str (a_cons x_str (a_cons x_str (a_cons x_str (a_cons x_str (a_cons (x_bin o_mulS f_mulS x_str (x_bin o_addA (f_addA true) x_int (x_call (ok__law_draw T) (hr.mono (by decide)) (by rfl) T.g__law_draw T.F__law_draw.kp T.b__law_draw (a_cons (xv 0) (a_cons x_int a_nil))))) a_nil))))))))
    (s_cons (s_set (i := 1) sc__law_bad_piece.nd rfl (by first | exact .inl rfl | exact .inr rfl) (x_bin o_addA (f_addA true) (xv 1) (x_lst true (a_cons (x_call (ok__law_run T) (hr.mono (by decide)) (by rfl) T.g__law_run T.F__law_run.kp T.b__law_run (a_cons (xv 0) (a_cons x_int a_nil))) (a_cons (x_call (ok__law_run T) (hr.mono (by decide)) (by rfl) T.g__law_run T.F__law_run.kp T.b__law_run (a_cons (xv 0) (a_cons (x_bin o_addA (f_addA true) x_int (x_call (ok__law_draw T) (hr.mono (by decide)) (by rfl) T.g__law_draw T.F__law_draw.kp T.b__law_draw (a_cons (xv 0) (a_cons x_int a_nil)))) a_nil))) a_nil)))))
    (s_cons (s_set (i := 1) sc__law_bad_piece.nd rfl (by first | exact .inl rfl | exact .inr rfl) (x_bin o_addA (f_addA true) (xv 1) (x_lst true (a_cons x_str (a_cons x_str (a_cons x_str (a_cons x_str (a_cons x_str (a_cons x_str (a_cons x_str (a_cons x_str a_nil)))))))))))
    (s_one (s_ret (x_ix o_ix f_ix (xv 1) (x_call (ok__law_draw T) (hr.mono (by decide)) (by rfl) T.g__law_draw T.F__law_draw.kp T.b__law_draw (a_cons (xv 0) (a_cons (x_callB o_len f_len (by rfl) T.m_len bt_len (a_cons (xv 1) a_nil)) a_nil)))))))))) 1 true
theorem ok__law_piece (T : Facts K mg) : FnOk P w K mg base CX0 4 T.a__law_piece T.d__law_piece ["tape", "names", "wild"] (spM K 3 F__law_piece) :=
  FnOk.framed (fn_ok T.F__law_piece sc__law_piece fun cdv A outer s H E hr => (s_cons (s_set (i := 3) sc__law_piece.nd rfl (by first | exact .inl rfl | exact .inr rfl) (x_call (ok__law_draw T) (hr.mono (by decide)) (by rfl) T.g__law_draw T.F__law_draw.kp T.b__law_draw (a_cons (xv 0) (a_cons x_int a_nil))))
    (s_cons (s_if (t_cmp op_lt f_lt (xv 3) x_int)
    (s_one (s_ret (x_ix o_ix f_ix (x_call0 (ok__law_reserved T) (hr.mono (by decide)) (by rfl) T.g__law_reserved T.F__law_reserved.kp T.b__law_reserved) (x_call (ok__law_draw T) (hr.mono (by decide)) (by rfl) T.g__law_draw T.F__law_draw.kp T.b__law_draw (a_cons (xv 0) (a_cons (x_callB o_len f_len (by rfl) T.m_len bt_len (a_cons (x_call0 (ok__law_reserved T) (hr.mono (by decide)) (by rfl) T.g__law_reserved T.F__law_reserved.kp T.b__law_reserved) a_nil)) a_nil))))))
    s_nil)
    (s_cons (s_if (t_cmp op_lt f_lt (xv 3) x_int)
    (s_one (s_ret (x_ix o_ix f_ix (xv 1) (x_call (ok__law_draw T) (hr.mono (by decide)) (by rfl) T.g__law_draw T.F__law_draw.kp T.b__law_draw (a_cons (xv 0) (a_cons (x_callB o_len f_len (by rfl) T.m_len bt_len (a_cons (xv 1) a_nil)) a_nil))))))
    s_nil)
    (s_cons (s_if (t_cmp op_lt f_lt (xv 3) x_int)
    (s_one (s_ret (x_call (ok__law_number_text T) (hr.mono (by decide)) (by rfl) T.g__law_number_text T.F__law_number_text.kp T.b__law_number_text (a_cons (xv 0) a_nil))))
    s_nil)
    (s_cons (s_if (t_cmp op_lt f_lt (xv 3) x_int)
    (s_one (s_ret (x_call (ok__law_symbol T) (hr.mono (by decide)) (by rfl) T.g__law_symbol T.F__law_symbol.kp T.b__law_symbol (a_cons (xv 0) a_nil))))
    s_nil)
    (s_cons (s_if (t_cmp (o_eq hr.units) f_eq (xv 3) x_int)
    (s_one (s_ret (x_ix o_ix f_ix (x_lst true (a_cons x_str (a_cons x_str (a_cons x_str (a_cons x_str a_nil))))) (x_call (ok__law_draw T) (hr.mono (by decide)) (by rfl) T.g__law_draw T.F__law_draw.kp T.b__law_draw (a_cons (xv 0) (a_cons x_int a_nil))))))
    s_nil)
    (s_cons (s_if (PW.pt (t_and (t_cmp (o_eq hr.units) f_eq (xv 3) x_int) (t_and (t_cmp op_gt f_gt (xv 2) x_int) (t_and1 (t_cmp (o_eq hr.units) f_eq (x_call (ok__law_draw T) (hr.mono (by decide)) (by rfl) T.g__law_draw T.F__law_draw.kp T.b__law_draw (a_cons (xv 0) (a_cons x_int a_nil))) x_int)))))
    (s_one (s_ret (x_call (ok__law_bad_piece T) (hr.mono (by decide)) (by rfl) T.g__law_bad_piece T.F__law_bad_piece.kp T.b__law_bad_piece (a_cons (xv 0) a_nil))))
    s_nil)
    (s_cons (s_if (PW.pt (t_and (t_cmp (o_eq hr.units) f_eq (xv 3) x_int) (t_and1 (t_cmp op_gt f_gt (xv 2) x_int))))
    (s_one (s_ret (x_ix o_ix f_ix (x_call0 (ok__law_signs T) (hr.mono (by decide)) (by rfl) T.g__law_signs T.F__law_signs.kp T.b__law_signs) (x_call (ok__law_draw T) (hr.mono (by decide)) (by rfl) T.g__law_draw T.F__law_draw.kp T.b__law_draw (a_cons (xv 0) (a_cons (x_callB o_len f_len (by rfl) T.m_len bt_len (a_cons (x_call0 (ok__law_signs T) (hr.mono (by decide)) (by rfl) T.g__law_signs T.F__law_signs.kp T.b__law_signs) a_nil)) a_nil))))))
    s_nil)
    (s_one (s_ret (x_ix o_ix f_ix (x_lst true (a_cons x_str (a_cons (x_call (ok__law_run T) (hr.mono (by decide)) (by rfl) T.g__law_run T.F__law_run.kp T.b__law_run (a_cons (xv 0) (a_cons x_int a_nil))) (a_cons (x_call (ok__law_run T) (hr.mono (by decide)) (by rfl) T.g__law_run T.F__law_run.kp T.b__law_run (a_cons (xv 0) (a_cons x_int a_nil))) (a_cons x_str (a_cons x_str (a_cons x_str a_nil))))))) (x_call (ok__law_draw T) (hr.mono (by decide)) (by rfl) T.g__law_draw T.F__law_draw.kp T.b__law_draw (a_cons (xv 0) (a_cons x_int a_nil))))))))))))))) 1 true
theorem ok__law_is_value (T : Facts K mg) : FnOk P w K mg base CX0 2 T.a__law_is_value T.d__law_is_value ["value"] (spM K 1 F__law_is_value) :=
  FnOk.framed (fn_ok T.F__law_is_value sc__law_is_value fun cdv A outer s H E hr => (s_cons (s_if (t_tru (x_callB o_isi f_isi (by rfl) T.m_isinstance bt_isinstance (a_cons (xv 0) (a_cons (x_ty (by rfl) T.m_str bt_str) a_nil))))
    (s_cons (s_setLc true (i := 1) (own := [("sign", 2)]) (p := (.nm 2)) rfl sc__law_is_value.nd rfl rfl (sw_true rfl rfl rfl (by decide +kernel)) (i_seq (xv 0)) (blkOk_by (N := N__law_is_value) (sc := defScope st__law_is_value) (by decide +kernel)) (by decide) (fun _ _ _ _ _ => (g_name (i := 2) sc__law_is_value.nd rfl (by first | exact .inl rfl | exact .inr rfl))) (fun _ _ _ _ _ => (ts_one (t_cmp (o_ni (hu65 hr)) f_ni (xv 2) (x_call0 (ok__law_letters T) (hr.mono (by decide)) (by rfl) T.g__law_letters T.F__law_letters.kp T.b__law_letters)))) (fun _ _ _ _ _ => (xv 2)))
    (s_one (s_ret (x_and (x_cmp op_lt f_lt x_int (x_callB o_len f_len (by rfl) T.m_len bt_len (a_cons (xv 0) a_nil))) (x_and (x_cmp op_lt f_lt (x_callB o_len f_len (by rfl) T.m_len bt_len (a_cons (xv 0) a_nil)) x_int) (x_and (x_cmp (o_eq hr.units) f_eq (xv 1) (x_lst true a_nil)) (x_one (x_cmp (o_ni (hu65 hr)) f_ni (xv 0) (x_call0 (ok__law_reserved T) (hr.mono (by decide)) (by rfl) T.g__law_reserved T.F__law_reserved.kp T.b__law_reserved)))))))))
    s_nil)
    (s_one (s_ret (x_and (x_cmp op_le f_le x_int (xv 0)) (x_one (x_cmp op_le f_le (xv 0) x_int))))))) 0 true
theorem ok__law_good_value (T : Facts K mg) : FnOk P w K mg base CX0 2 T.a__law_good_value T.d__law_good_value ["tape", "names"] (spM K 2 F__law_good_value) :=
  FnOk.framed (fn_ok T.F__law_good_value sc__law_good_value fun cdv A outer s H E hr => (s_cons (s_set (i := 2) sc__law_good_value.nd rfl (by first | exact .inl rfl | exact .inr rfl) (x_lst true (a_cons x_int (a_cons x_int (a_cons x_int (a_cons x_int (a_cons x_int (a_cons (x_call (ok__law_draw T) (hr.mono (by decide)) (by rfl) T.g__law_draw T.F__law_draw.kp T.b__law_draw (a_cons (xv 0) (a_cons x_int a_nil))) a_nil))))))))
    (s_cons (s_if (t_cmp (o_eq hr.units) f_eq (x_call (ok__law_draw T) (hr.mono (by decide)) (by rfl) T.g__law_draw T.F__law_draw.kp T.b__law_draw (a_cons (xv 0) (a_cons x_int a_nil))) x_int)
    (s_one (s_ret (x_ix o_ix f_ix (xv 2) (x_call (ok__law_draw T) (hr.mono (by decide)) (by rfl) T.g__law_draw T.F__law_draw.kp T.b__law_draw (a_cons (xv 0) (a_cons x_int a_nil))))))
    s_nil)
    (s_one (s_ret (x_ix o_ix f_ix (xv 1) (x_call (ok__law_draw T) (hr.mono (by decide)) (by rfl) T.g__law_draw T.F__law_draw.kp T.b__law_draw (a_cons (xv 0) (a_cons (x_callB o_len f_len (by rfl) T.m_len bt_len (a_cons (xv 1) a_nil)) a_nil))))))))) 1 true
theorem ok__law_any_value (T : Facts K mg) : FnOk P w K mg base CX0 3 T.a__law_any_value T.d__law_any_value ["tape", "names"] (spM K 2 F__law_any_value) :=
  FnOk.framed (fn_ok T.F__law_any_value sc__law_any_value fun cdv A outer s H E hr => (s_cons (s_set (i := 2) sc__law_any_value.nd rfl (by first | exact .inl rfl | exact .inr rfl) (x_lst true (a_cons x_str (a_cons x_str (a_cons x_str (a_cons x_str (a_cons (x_call (ok__law_run T) (hr.mono (by decide)) (by rfl) T.g__law_run T.F__law_run.kp T.b__law_run (a_cons (xv 0) (a_cons x_int a_nil))) (a_cons (x_call (ok__law_run T) (hr.mono (by decide)) (by rfl) T.g__law_run T.F__law_run.kp T.b__law_run (a_cons (xv 0) (a_cons x_int a_nil))) (a_cons x_str (a_cons x_str (a_cons x_str a_nil)))))))))))
    (s_cons (s_set (i := 2) sc__law_any_value.nd rfl (by first | exact .inl rfl | exact .inr rfl) (x_bin o_addA (f_addA true) (xv 2) (x_lst true (a_cons x_str (a_cons x_str (a_cons x_str (a_cons x_str (a_cons x_str (a_cons (x_un un_neg f_neg x_int) (a_cons x_int (a_cons (x_un un_neg f_neg x_int) (a_cons (x_bin o_addA (f_addA true) (x_bin op_pow f_pow x_int x_int) (x_call (ok__law_draw T) (hr.mono (by decide)) (by rfl) T.g__law_draw T.F__law_draw.kp T.b__law_draw (a_cons (xv 0) (a_cons x_int a_nil)))) (a_cons (x_un un_neg f_neg (x_bin op_pow f_pow x_int x_int)) (a_cons x_int a_nil))))))))))))))
    (s_cons (s_if (t_cmp op_gt f_gt (x_call (ok__law_draw T) (hr.mono (by decide)) (by rfl) T.g__law_draw T.F__law_draw.kp T.b__law_draw (a_cons (xv 0) (a_cons x_int a_nil))) x_int)
    (s_one (s_ret (x_call (ok__law_good_value T) (hr.mono (by decide)) (by rfl) T.g__law_good_value T.F__law_good_value.kp T.b__law_good_value (a_cons (xv 0) (a_cons (xv 1) a_nil)))))
    s_nil)
    (s_one (s_ret (x_ix o_ix f_ix (xv 2) (x_call (ok__law_draw T) (hr.mono (by decide)) (by rfl) T.g__law_draw T.F__law_draw.kp T.b__law_draw (a_cons (xv 0) (a_cons (x_callB o_len f_len (by rfl) T.m_len bt_len (a_cons (xv 2) a_nil)) a_nil)))))))))) 1 true
theorem ok__law_stop (T : Facts K mg) : FnOk P w K mg base CX0 2 T.a__law_stop T.d__law_stop ["text", "at"] (spM K 2 F__law_stop) :=
  FnOk.framed (fn_ok T.F__law_stop sc__law_stop fun cdv A outer s H E hr => (s_cons (s_set (i := 2) sc__law_stop.nd rfl (by first | exact .inl rfl | exact .inr rfl) x_str)
    (s_cons (s_if (t_cmp (o_in (hu65 hr)) f_in (x_ix o_ix f_ix (xv 0) (xv 1)) (x_call0 (ok__law_letters T) (hr.mono (by decide)) (by rfl) T.g__law_letters T.F__law_letters.kp T.b__law_letters))
    (s_one (s_set (i := 2) sc__law_stop.nd rfl (by first | exact .inl rfl | exact .inr rfl) (x_call0 (ok__law_letters T) (hr.mono (by decide)) (by rfl) T.g__law_letters T.F__law_letters.kp T.b__law_letters)))
    s_nil)
    (s_cons (s_for PassesOwn.never rfl (i_range2 (by rfl) T.m_range (a_cons (x_bin o_addA (f_addA true) (xv 1) x_int) (a_cons (x_callB o_len f_len (by rfl) T.m_len bt_len (a_cons (xv 0) a_nil)) a_nil))) (g_name (i := 3) sc__law_stop.nd rfl (by first | exact .inl rfl | exact .inr rfl))
    (s_one (s_if (t_cmp (o_ni (hu65 hr)) f_ni (x_ix o_ix f_ix (xv 0) (xv 3)) (xv 2))
    (s_one (s_ret (xv 3)))
    s_nil)))
    (s_one (s_ret (x_callB o_len f_len (by rfl) T.m_len bt_len (a_cons (xv 0) a_nil)))))))) 0 true
theorem ok__law_token (T : Facts K mg) : FnOk P w K mg base CX0 3 T.a__law_token T.d__law_token ["text", "at"] (spM K 2 F__law_token) :=
  FnOk.framed (fn_ok T.F__law_token sc__law_token fun cdv A outer s H E hr => (s_cons (s_if (t_cmp (o_in (hu65 hr)) f_in (x_ix o_ix f_ix (xv 0) (xv 1)) (x_call0 (ok__law_letters T) (hr.mono (by decide)) (by rfl) T.g__law_letters T.F__law_letters.kp T.b__law_letters))
    (s_cons (s_set (i := 2) sc__law_token.nd rfl (by first | exact .inl rfl | exact .inr rfl) (x_sl o_slA (f_slA true) (xv 0) (o1 (xv 1)) (o1 (x_call (ok__law_stop T) (hr.mono (by decide)) (by rfl) T.g__law_stop T.F__law_stop.kp T.b__law_stop (a_cons (xv 0) (a_cons (xv 1) a_nil))))))
    (s_cons (s_if (t_cmp (o_in (hu65 hr)) f_in (xv 2) (x_call0 (ok__law_reserved T) (hr.mono (by decide)) (by rfl) T.g__law_reserved T.F__law_reserved.kp T.b__law_reserved))
    (s_one (s_ret (x_tup (a_cons x_str (a_cons (xv 2) (a_cons (x_callB o_len f_len (by rfl) T.m_len bt_len (a_cons (xv 2) a_nil)) a_nil))))))
    s_nil)
    (s_one (s_if (t_cmp op_lt f_lt (x_callB o_len f_len (by rfl) T.m_len bt_len (a_cons (xv 2) a_nil)) x_int)
    (s_one (s_ret (x_tup (a_cons x_str (a_cons (xv 2) (a_cons (x_callB o_len f_len (by rfl) T.m_len bt_len (a_cons (xv 2) a_nil)) a_nil))))))
    s_nil))))
    (s_one (s_if (t_cmp (o_in (hu65 hr)) f_in (x_ix o_ix f_ix (xv 0) (xv 1)) x_str)
    (s_cons (s_set (i := 2) sc__law_token.nd rfl (by first | exact .inl rfl | exact .inr rfl) (x_sl o_slA (f_slA true) (xv 0) (o1 (xv 1)) (o1 (x_call (ok__law_stop T) (hr.mono (by decide)) (by rfl) T.g__law_stop T.F__law_stop.kp T.b__law_stop (a_cons (xv 0) (a_cons (xv 1) a_nil))))))
    (s_one (s_if (PW.pt (t_or (t_cmp (o_eq hr.units) f_eq (x_callB o_len f_len (by rfl) T.m_len bt_len (a_cons (xv 2) a_nil)) x_int) (t_or1 (PW.pt (t_and (t_cmp op_lt f_lt (x_callB o_len f_len (by rfl) T.m_len bt_len (a_cons (xv 2) a_nil)) x_int) (t_and1 (t_cmp (o_ne hr.units) f_ne (x_ix o_ix f_ix (xv 2) x_int) x_str)))))))
    (s_one (s_ret (x_tup (a_cons x_str (a_cons (x_callT o_int f_int (by rfl) T.m_int bt_int (a_cons (xv 2) a_nil)) (a_cons (x_callB o_len f_len (by rfl) T.m_len bt_len (a_cons (xv 2) a_nil)) a_nil))))))
    s_nil)))
    (s_one (s_if (t_cmp (o_eq hr.units) f_eq (x_sl o_slA (f_slA true) (xv 0) (o1 (xv 1)) (o1 (x_bin o_addA (f_addA true) (xv 1) x_int))) x_str)
    (s_one (s_ret (x_tup (a_cons x_str (a_cons x_str (a_cons x_int a_nil))))))
    (s_one (s_if (t_cmp (o_in (hu65 hr)) f_in (x_ix o_ix f_ix (xv 0) (xv 1)) x_str)
    (s_one (s_ret (x_tup (a_cons x_str (a_cons (x_ix o_ix f_ix (xv 0) (xv 1)) (a_cons x_int a_nil))))))
    s_nil)))))))
    (s_one (s_ret (x_tup (a_cons x_str (a_cons x_str (a_cons x_int a_nil)))))))) 0 true
theorem ok__law_tokens (T : Facts K mg) : FnOk P w K mg base CX0 4 T.a__law_tokens T.d__law_tokens ["text"] (spM K 1 F__law_tokens) :=
  FnOk.framed (fn_ok T.F__law_tokens sc__law_tokens fun cdv A outer s H E hr => (s_cons (s_set (i := 1) sc__law_tokens.nd rfl (by first | exact .inl rfl | exact .inr rfl) (x_lst false a_nil))
    (s_cons (s_set (i := 2) sc__law_tokens.nd rfl (by first | exact .inl rfl | exact .inr rfl) x_int)
    (s_cons (s_for PassesOwn.never rfl (i_range1 (by rfl) T.m_range (a_cons (x_callB o_len f_len (by rfl) T.m_len bt_len (a_cons (xv 0) a_nil)) a_nil)) (g_name (i := 3) sc__law_tokens.nd rfl (by first | exact .inl rfl | exact .inr rfl))
    (s_cons (s_if (t_cmp (o_eq hr.units) f_eq (xv 2) (x_callB o_len f_len (by rfl) T.m_len bt_len (a_cons (xv 0) a_nil)))
    (s_one s_break)
    s_nil)
    (s_one (s_if (t_cmp (o_in (hu65 hr)) f_in (x_ix o_ix f_ix (xv 0) (xv 2)) x_str)
    (s_one (s_set (i := 2) sc__law_tokens.nd rfl (by first | exact .inl rfl | exact .inr rfl) (x_bin o_addA (f_addA true) (xv 2) x_int)))
    (s_cons (s_set (i := 4) sc__law_tokens.nd rfl (by first | exact .inl rfl | exact .inr rfl) (x_call (ok__law_token T) (hr.mono (by decide)) (by rfl) T.g__law_token T.F__law_token.kp T.b__law_token (a_cons (xv 0) (a_cons (xv 2) a_nil))))
    (s_cons (s_expr (x_meth PySem.F.plainAttrs_list PySem.F.slot_list_append PySem.F.type_list_append mt_append f_append ty_lst (xv 1) (a_cons (x_tup (a_cons (xv 2) (a_cons (x_ix o_ix f_ix (xv 4) x_int) (a_cons (x_ix o_ix f_ix (xv 4) x_int) a_nil)))) a_nil)))
    (s_cons (s_if (t_cmp (o_eq hr.units) f_eq (x_ix o_ix f_ix (xv 4) x_int) x_str)
    (s_one (s_ret (x_callT o_tuple f_tuple (by rfl) T.m_tuple bt_tuple (a_cons (xv 1) a_nil))))
    s_nil)
    (s_one (s_set (i := 2) sc__law_tokens.nd rfl (by first | exact .inl rfl | exact .inr rfl) (x_bin o_addA (f_addA true) (xv 2) (x_ix o_ix f_ix (xv 4) x_int)))))))))))
    (s_one (s_ret (x_callT o_tuple f_tuple (by rfl) T.m_tuple bt_tuple (a_cons (x_bin o_addA (f_addA true) (xv 1) (x_lst true (a_cons (x_tup (a_cons (x_callB o_len f_len (by rfl) T.m_len bt_len (a_cons (xv 0) a_nil)) (a_cons x_str (a_cons x_str a_nil)))) a_nil))) a_nil)))))))) 0 true
theorem ok__law_filled (T : Facts K mg) : FnOk P w K mg base CX0 5 T.a__law_filled T.d__law_filled ["texts", "values"] (spM K 2 F__law_filled) :=
  (fn_ok T.F__law_filled sc__law_filled fun cdv A outer s H E hr => (s_cons (s_set (i := 2) sc__law_filled.nd rfl (by first | exact .inl rfl | exact .inr rfl) (x_lst false a_nil))
    (s_cons (s_set (i := 3) sc__law_filled.nd rfl (by first | exact .inl rfl | exact .inr rfl) x_int)
    (s_cons (s_for PassesOwn.never rfl (i_range1 (by rfl) T.m_range (a_cons (x_callB o_len f_len (by rfl) T.m_len bt_len (a_cons (xv 0) a_nil)) a_nil)) (g_name (i := 4) sc__law_filled.nd rfl (by first | exact .inl rfl | exact .inr rfl))
    (s_cons (s_set (i := 5) sc__law_filled.nd rfl (by first | exact .inl rfl | exact .inr rfl) (x_call (ok__law_tokens T) (hr.mono (by decide)) (by rfl) T.g__law_tokens T.F__law_tokens.kp T.b__law_tokens (a_cons (x_ix o_ix f_ix (xv 0) (xv 4)) a_nil)))
    (s_cons (s_set (i := 6) sc__law_filled.nd rfl (by first | exact .inl rfl | exact .inr rfl) (x_ix o_ix f_ix (xv 5) (x_bin op_sub f_sub (x_callB o_len f_len (by rfl) T.m_len bt_len (a_cons (xv 5) a_nil)) x_int)))
    (s_cons (s_set (i := 2) sc__law_filled.nd rfl (by first | exact .inl rfl | exact .inr rfl) (x_bin o_addA (f_addA false) (xv 2) (x_lc true (own := [("token", 7)]) (p := (.nm 7)) rfl sc__law_filled.nd (i_seq (x_sl o_slA (f_slA true) (xv 5) o0 (o1 (x_bin op_sub f_sub (x_callB o_len f_len (by rfl) T.m_len bt_len (a_cons (xv 5) a_nil)) x_int)))) (blkOk_by (N := N__law_filled) (sc := defScope st__law_filled) (by decide +kernel)) (by decide) (fun _ _ _ _ _ => (g_name (i := 7) sc__law_filled.nd rfl (by first | exact .inl rfl | exact .inr rfl))) (fun _ _ _ _ _ => ts_nil) (fun _ _ _ _ _ => (x_tup (a_cons (x_bin o_addA (f_addA true) (xv 3) (x_ix o_ix f_ix (xv 7) x_int)) (a_cons (x_ix o_ix f_ix (xv 7) x_int) (a_cons (x_ix o_ix f_ix (xv 7) x_int) a_nil))))))))
    (s_cons (s_if (PW.pt (t_or (t_cmp (o_eq hr.units) f_eq (x_ix o_ix f_ix (xv 6) x_int) x_str) (t_or1 (t_cmp (o_eq hr.units) f_eq (xv 4) (x_bin op_sub f_sub (x_callB o_len f_len (by rfl) T.m_len bt_len (a_cons (xv 0) a_nil)) x_int)))))
    (s_one (s_ret (x_callT o_tuple f_tuple (by rfl) T.m_tuple bt_tuple (a_cons (x_bin o_addA (f_addA true) (xv 2) (x_lst true (a_cons (x_tup (a_cons (x_bin o_addA (f_addA true) (xv 3) (x_ix o_ix f_ix (xv 6) x_int)) (a_cons (x_ix o_ix f_ix (xv 6) x_int) (a_cons (x_ix o_ix f_ix (xv 6) x_int) a_nil)))) a_nil))) a_nil))))
    s_nil)
    (s_cons (s_set (i := 3) sc__law_filled.nd rfl (by first | exact .inl rfl | exact .inr rfl) (x_bin o_addA (f_addA true) (xv 3) (x_callB o_len f_len (by rfl) T.m_len bt_len (a_cons (x_ix o_ix f_ix (xv 0) (xv 4)) a_nil))))
    (s_cons (s_expr (x_meth PySem.F.plainAttrs_list PySem.F.slot_list_append PySem.F.type_list_append mt_append f_append ty_lst (xv 2) (a_cons (x_tup (a_cons (xv 3) (a_cons (x_ix o_ix f_ix (x_lst true (a_cons x_str (a_cons x_str a_nil))) (x_callT o_int f_int (by rfl) T.m_int bt_int (a_cons (x_callB o_isi f_isi (by rfl) T.m_isinstance bt_isinstance (a_cons (x_ix o_ix f_ix (xv 1) (xv 4)) (a_cons (x_ty (by rfl) T.m_str bt_str) a_nil))) a_nil))) (a_cons (x_ix o_ix f_ix (xv 1) (xv 4)) a_nil)))) a_nil)))
    (s_one (s_set (i := 3) sc__law_filled.nd rfl (by first | exact .inl rfl | exact .inr rfl) (x_bin o_addA (f_addA true) (xv 3) (x_callB o_len f_len (by rfl) T.m_len bt_len (a_cons (x_callT o_strA f_strA (by rfl) T.m_str bt_str (a_cons (x_ix o_ix f_ix (xv 1) (xv 4)) a_nil)) a_nil))))))))))))
    (s_one (s_ret (x_callT o_tuple f_tuple (by rfl) T.m_tuple bt_tuple (a_cons (xv 2) a_nil))))))))
theorem ok__run_end (T : Facts K mg) : FnOk P w K mg base CX0 1 T.a__run_end T.d__run_end ["text", "place", "characters"] (spM K 3 F__run_end) :=
  FnOk.framed (fn_ok T.F__run_end sc__run_end fun cdv A outer s H E hr => (s_cons (s_set (i := 3) sc__run_end.nd rfl (by first | exact .inl rfl | exact .inr rfl) (xv 1))
    (s_cons (s_while PassesOwn.never (PW.pt (t_and (t_cmp op_lt f_lt (xv 3) (x_callB o_len f_len (by rfl) T.m_len bt_len (a_cons (xv 0) a_nil))) (t_and1 (t_cmp (o_in (hu65 hr)) f_in (x_ix o_ix f_ix (xv 0) (xv 3)) (xv 2)))))
    (s_one (s_aug (i := 3) sc__run_end.nd rfl (by first | exact .inl rfl | exact .inr rfl) x_int ip_add f_ipadd)))
    (s_one (s_ret (xv 3)))))) 0 true
theorem ok__token_end (T : Facts K mg) : FnOk P w K mg base CX0 2 T.a__token_end T.d__token_end ["text", "place"] (spM K 2 F__token_end) :=
  FnOk.framed (fn_ok T.F__token_end sc__token_end fun cdv A outer s H E hr => (s_cons (s_for PassesOwn.never rfl (i_seq (x_tup (a_cons (x_glob (by rfl) T.q_LETTERS) (a_cons (x_glob (by rfl) T.q_DIGITS) a_nil)))) (g_name (i := 2) sc__token_end.nd rfl (by first | exact .inl rfl | exact .inr rfl))
    (s_one (s_if (t_cmp (o_in (hu65 hr)) f_in (x_ix o_ix f_ix (xv 0) (xv 1)) (xv 2))
    (s_one (s_ret (x_call (ok__run_end T) (hr.mono (by decide)) (by rfl) T.g__run_end T.F__run_end.kp T.b__run_end (a_cons (xv 0) (a_cons (xv 1) (a_cons (xv 2) a_nil))))))
    s_nil)))
    (s_cons (s_if (t_cmp (o_eq hr.units) f_eq (x_sl o_slA (f_slA true) (xv 0) (o1 (xv 1)) (o1 (x_bin o_addA (f_addA true) (xv 1) x_int))) x_str)
    (s_one (s_ret (x_bin o_addA (f_addA true) (xv 1) x_int)))
    s_nil)
    (s_one (s_ret (x_bin o_addA (f_addA true) (xv 1) x_int)))))) 0 true
theorem ok_is_name (T : Facts K mg) : FnOk P w K mg base CX0 2 T.a_is_name T.d_is_name ["text"] (spM K 1 F_is_name) :=
  FnOk.framed (fn_ok T.F_is_name sc_is_name fun cdv A outer s H E hr => (s_cons (s_if (PW.pt (t_or (t_cmp (o_eq hr.units) f_eq (xv 0) x_str) (t_or1 (t_cmp op_lt f_lt (x_call (ok__run_end T) (hr.mono (by decide)) (by rfl) T.g__run_end T.F__run_end.kp T.b__run_end (a_cons (xv 0) (a_cons x_int (a_cons (x_glob (by rfl) T.q_LETTERS) a_nil)))) (x_callB o_len f_len (by rfl) T.m_len bt_len (a_cons (xv 0) a_nil))))))
    (s_one (s_ret x_bl))
    s_nil)
    (s_one (s_ret (x_and (x_cmp op_le f_le (x_callB o_len f_len (by rfl) T.m_len bt_len (a_cons (xv 0) a_nil)) (x_glob (by rfl) T.q_LONGEST_NAME)) (x_one (x_cmp (o_ni (hu65 hr)) f_ni (xv 0) (x_glob (by rfl) T.q_RESERVED)))))))) 0 true
theorem ok__is_number (T : Facts K mg) : FnOk P w K mg base CX0 2 T.a__is_number T.d__is_number ["piece"] (spM K 1 F__is_number) :=
  FnOk.framed (fn_ok T.F__is_number sc__is_number fun cdv A outer s H E hr => (s_cons (s_if (PW.pt (t_or (t_cmp op_lt f_lt (x_call (ok__run_end T) (hr.mono (by decide)) (by rfl) T.g__run_end T.F__run_end.kp T.b__run_end (a_cons (xv 0) (a_cons x_int (a_cons (x_glob (by rfl) T.q_DIGITS) a_nil)))) (x_callB o_len f_len (by rfl) T.m_len bt_len (a_cons (xv 0) a_nil))) (t_or1 (t_cmp op_gt f_gt (x_callB o_len f_len (by rfl) T.m_len bt_len (a_cons (xv 0) a_nil)) (x_glob (by rfl) T.q_MOST_DIGITS)))))
    (s_one (s_ret x_bl))
    s_nil)
    (s_one (s_ret (x_or (x_cmp (o_eq hr.units) f_eq (xv 0) x_str) (x_one (x_cmp (o_ne hr.units) f_ne (x_ix o_ix f_ix (xv 0) x_int) x_str))))))) 0 true
theorem ok__kind_and_value (T : Facts K mg) : FnOk P w K mg base CX0 3 T.a__kind_and_value T.d__kind_and_value ["piece"] (spM K 1 F__kind_and_value) :=
  FnOk.framed (fn_ok T.F__kind_and_value sc__kind_and_value fun cdv A outer s H E hr => (s_cons (s_if (t_cmp (o_in (hu65 hr)) f_in (xv 0) (x_glob (by rfl) T.q_RESERVED))
    (s_one (s_ret (x_tup (a_cons x_str (a_cons (xv 0) a_nil)))))
    s_nil)
    (s_cons (s_if (t_tru (x_call (ok_is_name T) (hr.mono (by decide)) (by rfl) T.g_is_name T.F_is_name.kp T.b_is_name (a_cons (xv 0) a_nil)))
    (s_one (s_ret (x_tup (a_cons x_str (a_cons (xv 0) a_nil)))))
    s_nil)
    (s_cons (s_if (t_tru (x_call (ok__is_number T) (hr.mono (by decide)) (by rfl) T.g__is_number T.F__is_number.kp T.b__is_number (a_cons (xv 0) a_nil)))
    (s_one (s_ret (x_tup (a_cons x_str (a_cons (x_callT o_int f_int (by rfl) T.m_int bt_int (a_cons (xv 0) a_nil)) a_nil)))))
    s_nil)
    (s_cons (s_if (t_cmp (o_in (hu65 hr)) f_in (xv 0) (x_glob (by rfl) T.q_SYMBOLS))
    (s_one (s_ret (x_tup (a_cons x_str (a_cons (xv 0) a_nil)))))
    s_nil)
    (s_one (s_ret (x_tup (a_cons x_str (a_cons x_str a_nil)))))))))) 0 true
theorem ok_split_text (T : Facts K mg) : FnOk P w K mg base CX0 4 T.a_split_text T.d_split_text ["text"] (spM K 1 F_split_text) :=
  FnOk.framed (fn_ok T.F_split_text sc_split_text fun cdv A outer s H E hr => (s_cons (s_set (i := 1) sc_split_text.nd rfl (by first | exact .inl rfl | exact .inr rfl) (x_lst false a_nil))
    (s_cons (s_set (i := 2) sc_split_text.nd rfl (by first | exact .inl rfl | exact .inr rfl) (x_call (ok__run_end T) (hr.mono (by decide)) (by rfl) T.g__run_end T.F__run_end.kp T.b__run_end (a_cons (xv 0) (a_cons x_int (a_cons (x_glob (by rfl) T.q_BLANKS) a_nil)))))
    (s_cons (s_while PassesOwn.never (t_cmp op_lt f_lt (xv 2) (x_callB o_len f_len (by rfl) T.m_len bt_len (a_cons (xv 0) a_nil)))
    (s_cons (s_set (i := 3) sc_split_text.nd rfl (by first | exact .inl rfl | exact .inr rfl) (x_call (ok__token_end T) (hr.mono (by decide)) (by rfl) T.g__token_end T.F__token_end.kp T.b__token_end (a_cons (xv 0) (a_cons (xv 2) a_nil))))
    (s_cons (s_asg (x_call (ok__kind_and_value T) (hr.mono (by decide)) (by rfl) T.g__kind_and_value T.F__kind_and_value.kp T.b__kind_and_value (a_cons (x_sl o_slA (f_slA true) (xv 0) (o1 (xv 2)) (o1 (xv 3))) a_nil)) (g_tup rfl (gs_cons (g_name (i := 4) sc_split_text.nd rfl (by first | exact .inl rfl | exact .inr rfl)) (gs_cons (g_name (i := 5) sc_split_text.nd rfl (by first | exact .inl rfl | exact .inr rfl)) gs_nil))))
    (s_cons (s_expr (x_meth PySem.F.plainAttrs_list PySem.F.slot_list_append PySem.F.type_list_append mt_append f_append ty_lst (xv 1) (a_cons (x_tup (a_cons (xv 2) (a_cons (xv 4) (a_cons (xv 5) a_nil)))) a_nil)))
    (s_cons (s_if (t_cmp (o_eq hr.units) f_eq (xv 4) x_str)
    (s_one (s_ret (x_callT o_tuple f_tuple (by rfl) T.m_tuple bt_tuple (a_cons (xv 1) a_nil))))
    s_nil)
    (s_one (s_set (i := 2) sc_split_text.nd rfl (by first | exact .inl rfl | exact .inr rfl) (x_call (ok__run_end T) (hr.mono (by decide)) (by rfl) T.g__run_end T.F__run_end.kp T.b__run_end (a_cons (xv 0) (a_cons (xv 3) (a_cons (x_glob (by rfl) T.q_BLANKS) a_nil)))))))))))
    (s_cons (s_expr (x_meth PySem.F.plainAttrs_list PySem.F.slot_list_append PySem.F.type_list_append mt_append f_append ty_lst (xv 1) (a_cons (x_tup (a_cons (x_callB o_len f_len (by rfl) T.m_len bt_len (a_cons (xv 0) a_nil)) (a_cons x_str (a_cons x_str a_nil)))) a_nil)))
    (s_one (s_ret (x_callT o_tuple f_tuple (by rfl) T.m_tuple bt_tuple (a_cons (xv 1) a_nil))))))))) 0 true
theorem ok__check_values (T : Facts K mg) : FnOk P w K mg base (L2.CX P w) 3 T.a__check_values T.d__check_values ["values"] (spM K 1 F__check_values) :=
  FnOk.framedX (fn_okX T.F__check_values sc__check_values fun cdv A outer s H E hr tk ps => (s_one (s_for ps rfl (i_enum (by rfl) T.m_enumerate (a_cons (xv 0) a_nil)) (g_tup rfl (gs_cons (g_name (i := 1) sc__check_values.nd rfl (by first | exact .inl rfl | exact .inr rfl)) (gs_cons (g_name (i := 2) sc__check_values.nd rfl (by first | exact .inl rfl | exact .inr rfl)) gs_nil)))
    (s_cons (s_set (i := 3) sc__check_values.nd rfl (by first | exact .inl rfl | exact .inr rfl) (x_ite (t_tru (x_callB o_isi f_isi (by rfl) T.m_isinstance bt_isinstance (a_cons (xv 2) (a_cons (x_ty (by rfl) T.m_str bt_str) a_nil)))) (x_call (ok_is_name T) (hr.mono (by decide)) (by rfl) T.g_is_name T.F_is_name.kp T.b_is_name (a_cons (xv 2) a_nil)) (x_chain op_le op_le f_le f_le x_int (xv 2) (x_glob (by rfl) T.q_GREATEST_NUMBER))))
    (s_one (s_if (t_not (t_tru (xv 3)))
    (s_one (s_raise1 T.M_BadValue T.n_BadValue_number (in_BadValue T) (hr.mono (by decide)) T.bi_BadValue rfl tk (by rfl) (a_cons (xv 1) a_nil)))
    s_nil)))))) 0 true
theorem ok__moved (T : Facts K mg) : FnOk P w K mg base CX0 1 T.a__moved T.d__moved ["tokens", "start"] (spM K 2 F__moved) :=
  FnOk.framed (fn_ok T.F__moved sc__moved fun cdv A outer s H E hr => (s_one (s_ret (x_lc true (own := [("place", 2), ("kind", 3), ("value", 4)]) (p := (.tp [(.nm 2), (.nm 3), (.nm 4)])) rfl sc__moved.nd (i_seq (xv 0)) (blkOk_by (N := N__moved) (sc := defScope st__moved) (by decide +kernel)) (by decide) (fun _ _ _ _ _ => (g_tup rfl (gs_cons (g_name (i := 2) sc__moved.nd rfl (by first | exact .inl rfl | exact .inr rfl)) (gs_cons (g_name (i := 3) sc__moved.nd rfl (by first | exact .inl rfl | exact .inr rfl)) (gs_cons (g_name (i := 4) sc__moved.nd rfl (by first | exact .inl rfl | exact .inr rfl)) gs_nil))))) (fun _ _ _ _ _ => ts_nil) (fun _ _ _ _ _ => (x_tup (a_cons (x_bin o_addA (f_addA true) (xv 1) (xv 2)) (a_cons (xv 3) (a_cons (xv 4) a_nil))))))))) 0 true
theorem ok_filled (T : Facts K mg) : FnOk P w K mg base (L2.CX P w) 5 T.a_filled T.d_filled ["texts", "values"] (spM K 2 F_filled) :=
  FnOk.framedX (fn_okX T.F_filled sc_filled fun cdv A outer s H E hr tk ps => (s_cons (s_expr (x_callX (ok__check_values T) tk (hr.mono (by decide)) (by rfl) T.g__check_values T.F__check_values.kp T.b__check_values (a_cons (xv 1) a_nil)))
    (s_cons (s_set (i := 2) sc_filled.nd rfl (by first | exact .inl rfl | exact .inr rfl) (x_lst false a_nil))
    (s_cons (s_set (i := 3) sc_filled.nd rfl (by first | exact .inl rfl | exact .inr rfl) x_int)
    (s_cons (s_for ps rfl (i_zip (by rfl) T.m_zip (a_cons (x_sl o_slA (f_slA true) (xv 0) o0 (o1 (x_un un_neg f_neg x_int))) (a_cons (xv 1) a_nil))) (g_tup rfl (gs_cons (g_name (i := 4) sc_filled.nd rfl (by first | exact .inl rfl | exact .inr rfl)) (gs_cons (g_name (i := 5) sc_filled.nd rfl (by first | exact .inl rfl | exact .inr rfl)) gs_nil)))
    (s_cons (s_expr (x_meth PySem.F.plainAttrs_list PySem.F.slot_list_extend PySem.F.type_list_extend mt_extend f_extend ty_lst (xv 2) (a_cons (x_call (ok__moved T) (hr.mono (by decide)) (by rfl) T.g__moved T.F__moved.kp T.b__moved (a_cons (x_call (ok_split_text T) (hr.mono (by decide)) (by rfl) T.g_split_text T.F_split_text.kp T.b_split_text (a_cons (xv 4) a_nil)) (a_cons (xv 3) a_nil))) a_nil)))
    (s_cons (s_if (t_cmp (o_eq hr.units) f_eq (x_ix o_ix f_ix (x_ix o_ix f_ix (xv 2) (x_un un_neg f_neg x_int)) x_int) x_str)
    (s_one (s_ret (x_callT o_tuple f_tuple (by rfl) T.m_tuple bt_tuple (a_cons (xv 2) a_nil))))
    s_nil)
    (s_cons (s_expr (x_meth0 PySem.F.plainAttrs_list PySem.F.slot_list_pop PySem.F.type_list_pop mt_pop f_pop ty_lst (xv 2)))
    (s_cons (s_aug (i := 3) sc_filled.nd rfl (by first | exact .inl rfl | exact .inr rfl) (x_callB o_len f_len (by rfl) T.m_len bt_len (a_cons (xv 4) a_nil)) ip_add f_ipadd)
    (s_cons (s_expr (x_meth PySem.F.plainAttrs_list PySem.F.slot_list_append PySem.F.type_list_append mt_append f_append ty_lst (xv 2) (a_cons (x_tup (a_cons (xv 3) (a_cons (x_ite (t_tru (x_callB o_isi f_isi (by rfl) T.m_isinstance bt_isinstance (a_cons (xv 5) (a_cons (x_ty (by rfl) T.m_str bt_str) a_nil)))) x_str x_str) (a_cons (xv 5) a_nil)))) a_nil)))
    (s_one (s_aug (i := 3) sc_filled.nd rfl (by first | exact .inl rfl | exact .inr rfl) (x_callB o_len f_len (by rfl) T.m_len bt_len (a_cons (x_callT o_strA f_strA (by rfl) T.m_str bt_str (a_cons (xv 5) a_nil)) a_nil)) ip_add f_ipadd))))))))
    (s_cons (s_expr (x_meth PySem.F.plainAttrs_list PySem.F.slot_list_extend PySem.F.type_list_extend mt_extend f_extend ty_lst (xv 2) (a_cons (x_call (ok__moved T) (hr.mono (by decide)) (by rfl) T.g__moved T.F__moved.kp T.b__moved (a_cons (x_call (ok_split_text T) (hr.mono (by decide)) (by rfl) T.g_split_text T.F_split_text.kp T.b_split_text (a_cons (x_ix o_ix f_ix (xv 0) (x_un un_neg f_neg x_int)) a_nil)) (a_cons (xv 3) a_nil))) a_nil)))
    (s_one (s_ret (x_callT o_tuple f_tuple (by rfl) T.m_tuple bt_tuple (a_cons (xv 2) a_nil)))))))))) 0 true
theorem okH__law_lone (T : Facts K mg) : FnHot P w K mg base 1 T.a__law_lone T.d__law_lone ["e"] (spM K 1 F__law_lone) :=
  FnHot.framed (fn_hot T.F__law_lone sc__law_lone fun cdv A outer s H E hr => (s_cons (s_set (i := 1) sc__law_lone.nd rfl (by first | exact .inl rfl | exact .inr rfl) (x_bin o_addA (f_addA true) (x_bin o_addA (f_addA true) (x_callT o_int f_int (by rfl) T.m_int bt_int (a_cons (x_isX (by rfl) T.m_isinstance bt_isinstance (xv 0) (pe_glob (v := .ref T.a_ReadError) (by rfl) T.g_ReadError rfl) (kt_ReadError T)) a_nil)) (x_callT o_int f_int (by rfl) T.m_int bt_int (a_cons (x_isX (by rfl) T.m_isinstance bt_isinstance (xv 0) (pe_glob (v := .ref T.a_Mistakes) (by rfl) T.g_Mistakes rfl) (kt_Mistakes T)) a_nil))) (x_callT o_int f_int (by rfl) T.m_int bt_int (a_cons (x_isX (by rfl) T.m_isinstance bt_isinstance (xv 0) (pe_glob (v := .ref T.a_BadValue) (by rfl) T.g_BadValue rfl) (kt_BadValue T)) a_nil))))
    (s_cons (s_set (i := 1) sc__law_lone.nd rfl (by first | exact .inl rfl | exact .inr rfl) (x_bin o_addA (f_addA true) (x_bin o_addA (f_addA true) (x_bin o_addA (f_addA true) (xv 1) (x_callT o_int f_int (by rfl) T.m_int bt_int (a_cons (x_isX (by rfl) T.m_isinstance bt_isinstance (xv 0) (pe_glob (v := .ref T.a_NeedsJournal) (by rfl) T.g_NeedsJournal rfl) (kt_NeedsJournal T)) a_nil))) (x_callT o_int f_int (by rfl) T.m_int bt_int (a_cons (x_isX (by rfl) T.m_isinstance bt_isinstance (xv 0) (pe_glob (v := .ref T.a_NeedsModel) (by rfl) T.g_NeedsModel rfl) (kt_NeedsModel T)) a_nil))) (x_callT o_int f_int (by rfl) T.m_int bt_int (a_cons (x_isX (by rfl) T.m_isinstance bt_isinstance (xv 0) (pe_glob (v := .ref T.a_TooMany) (by rfl) T.g_TooMany rfl) (kt_TooMany T)) a_nil))))
    (s_cons (s_set (i := 1) sc__law_lone.nd rfl (by first | exact .inl rfl | exact .inr rfl) (x_bin o_addA (f_addA true) (x_bin o_addA (f_addA true) (xv 1) (x_callT o_int f_int (by rfl) T.m_int bt_int (a_cons (x_isX (by rfl) T.m_isinstance bt_isinstance (xv 0) (pe_glob (v := .ref T.a_BadParticipant) (by rfl) T.g_BadParticipant rfl) (kt_BadParticipant T)) a_nil))) (x_callT o_int f_int (by rfl) T.m_int bt_int (a_cons (x_isX (by rfl) T.m_isinstance bt_isinstance (xv 0) (pe_glob (v := .ref T.a_BadTransaction) (by rfl) T.g_BadTransaction rfl) (kt_BadTransaction T)) a_nil))))
    (s_cons (s_set (i := 1) sc__law_lone.nd rfl (by first | exact .inl rfl | exact .inr rfl) (x_bin o_addA (f_addA true) (x_bin o_addA (f_addA true) (x_bin o_addA (f_addA true) (xv 1) (x_callT o_int f_int (by rfl) T.m_int bt_int (a_cons (x_isX (by rfl) T.m_isinstance bt_isinstance (xv 0) (pe_glob (v := .ref T.a_UnknownClaim) (by rfl) T.g_UnknownClaim rfl) (kt_UnknownClaim T)) a_nil))) (x_callT o_int f_int (by rfl) T.m_int bt_int (a_cons (x_isX (by rfl) T.m_isinstance bt_isinstance (xv 0) (pe_glob (v := .ref T.a_NotASum) (by rfl) T.g_NotASum rfl) (kt_NotASum T)) a_nil))) (x_callT o_int f_int (by rfl) T.m_int bt_int (a_cons (x_isX (by rfl) T.m_isinstance bt_isinstance (xv 0) (pe_glob (v := .ref T.a_DoesNotHold) (by rfl) T.g_DoesNotHold rfl) (kt_DoesNotHold T)) a_nil))))
    (s_cons (s_set (i := 1) sc__law_lone.nd rfl (by first | exact .inl rfl | exact .inr rfl) (x_bin o_addA (f_addA true) (x_bin o_addA (f_addA true) (xv 1) (x_callT o_int f_int (by rfl) T.m_int bt_int (a_cons (x_isX (by rfl) T.m_isinstance bt_isinstance (xv 0) (pe_glob (v := .ref T.a_NotRefuted) (by rfl) T.g_NotRefuted rfl) (kt_NotRefuted T)) a_nil))) (x_callT o_int f_int (by rfl) T.m_int bt_int (a_cons (x_isX (by rfl) T.m_isinstance bt_isinstance (xv 0) (pe_glob (v := .ref T.a_NothingToUndo) (by rfl) T.g_NothingToUndo rfl) (kt_NothingToUndo T)) a_nil))))
    (s_cons (s_set (i := 1) sc__law_lone.nd rfl (by first | exact .inl rfl | exact .inr rfl) (x_bin o_addA (f_addA true) (xv 1) (x_callT o_int f_int (by rfl) T.m_int bt_int (a_cons (x_isX (by rfl) T.m_isinstance bt_isinstance (xv 0) (pe_glob (v := .ref T.a_NothingToRedo) (by rfl) T.g_NothingToRedo rfl) (kt_NothingToRedo T)) a_nil))))
    (s_one (s_ret (x_and (x_cmp (o_eq hr.units) f_eq (xv 1) x_int) (x_and (x_isX (by rfl) T.m_isinstance bt_isinstance (xv 0) (pe_glob (v := .ref T.a_ProofError) (by rfl) T.g_ProofError rfl) (kt_ProofError T)) (x_one (x_isX (by rfl) T.m_isinstance bt_isinstance (xv 0) (pe_bltn (v := .ty "ValueError") (by rfl) T.m_ValueError bt_ValueError rfl) (kt_ValueError T)))))))))))))) 0 true
theorem ok__law_told (T : Facts K mg) : FnOk P w K mg base CX0 6 T.a__law_told T.d__law_told ["texts", "values"] (spM K 2 F__law_told) :=
  FnOk.framed (fn_ok T.F__law_told sc__law_told fun cdv A outer s H E hr => (s_one (s_tryRet (i := 2) rfl rfl rfl sc__law_told.nd rfl rfl ⟨by rfl, by decide, .inl T.g_BadValue⟩ takesE (et_BadValue T) (fun W pn xe t => x_callW (ok_filled T) t (hr.mono (by decide)) (by rfl) T.g_filled T.F_filled.kp T.b_filled (fun _ => (a_cons (xv 0) (a_cons (xv 1) a_nil)))) (fun a pn => by
      have hr := roomS hr (some (.ref a))
      exact (s_cons (s_if (t_not (t_tru (x_callH (okH__law_lone T) (hr.mono (by decide)) (by rfl) T.g__law_lone T.F__law_lone.kp T.b__law_lone (a_cons (xv 2) a_nil))))
    (s_one (s_ret (x_tup (a_cons x_str a_nil))))
    s_nil)
    (s_one (s_ret (x_tup (a_cons x_str (a_cons (x_att (xv 2) (at_number T)) a_nil)))))))))) 0 true
theorem ok_law (T : Facts K mg) : FnOk P w K mg base CX0 26 T.a_law T.d_law ["script"] (spM K 1 F_law) :=
  FnOk.framed (fn_ok T.F_law sc_law fun cdv A outer s H E hr => (s_cons (s_set (i := 1) sc_law.nd rfl (by first | exact .inl rfl | exact .inr rfl) (x_call (ok__law_tape T) (hr.mono (by decide)) (by rfl) T.g__law_tape T.F__law_tape.kp T.b__law_tape (a_cons (xv 0) a_nil)))
    (s_cons (s_set (i := 2) sc_law.nd rfl (by first | exact .inl rfl | exact .inr rfl) (x_call (ok__law_names T) (hr.mono (by decide)) (by rfl) T.g__law_names T.F__law_names.kp T.b__law_names (a_cons (xv 1) (a_cons x_int a_nil))))
    (s_cons (s_set (i := 3) sc_law.nd rfl (by first | exact .inl rfl | exact .inr rfl) (x_ix o_ix f_ix (x_lst true (a_cons x_int (a_cons x_int (a_cons x_int (a_cons x_int a_nil))))) (x_call (ok__law_draw T) (hr.mono (by decide)) (by rfl) T.g__law_draw T.F__law_draw.kp T.b__law_draw (a_cons (xv 1) (a_cons x_int a_nil)))))
    (s_cons (s_set (i := 4) sc_law.nd rfl (by first | exact .inl rfl | exact .inr rfl) (x_call (ok__law_draw T) (hr.mono (by decide)) (by rfl) T.g__law_draw T.F__law_draw.kp T.b__law_draw (a_cons (xv 1) (a_cons x_int a_nil))))
    (s_cons (s_set (i := 5) sc_law.nd rfl (by first | exact .inl rfl | exact .inr rfl) (x_lst false a_nil))
    (s_cons (s_for PassesOwn.never rfl (i_range1 (by rfl) T.m_range (a_cons (x_bin o_addA (f_addA true) (xv 3) x_int) a_nil)) (g_name (i := 6) sc_law.nd rfl (by first | exact .inl rfl | exact .inr rfl))
    (s_one (s_expr (x_meth PySem.F.plainAttrs_list PySem.F.slot_list_append PySem.F.type_list_append mt_append f_append ty_lst (xv 5) (a_cons (x_sl o_slA (f_slA true) (x_meth PySem.F.plainAttrs_str PySem.F.slot_str_join PySem.F.type_str_join mt_join f_join ty_str x_str (a_cons (x_lc true (own := [("at", 7)]) (p := (.nm 7)) rfl sc_law.nd (i_range1 (by rfl) T.m_range (a_cons (x_call (ok__law_draw T) (hr.mono (by decide)) (by rfl) T.g__law_draw T.F__law_draw.kp T.b__law_draw (a_cons (xv 1) (a_cons x_int a_nil))) a_nil)) (blkOk_by (N := N_law) (sc := defScope st_law) (by decide +kernel)) (by decide) (fun _ _ _ _ _ => (g_name (i := 7) sc_law.nd rfl (by first | exact .inl rfl | exact .inr rfl))) (fun _ _ _ _ _ => ts_nil) (fun _ _ _ _ _ => (x_call (ok__law_piece T) (hr.mono (by decide)) (by rfl) T.g__law_piece T.F__law_piece.kp T.b__law_piece (a_cons (xv 1) (a_cons (xv 2) (a_cons (xv 4) a_nil)))))) a_nil)) o0 (o1 x_int)) a_nil)))))
    (s_cons (s_if (t_cmp (o_eq hr.units) f_eq (x_call (ok__law_draw T) (hr.mono (by decide)) (by rfl) T.g__law_draw T.F__law_draw.kp T.b__law_draw (a_cons (xv 1) (a_cons x_int a_nil))) x_int)
    (s_one (s_put (x_bin o_addA (f_addA true) (x_ix o_ix f_ix (xv 5) x_int) (x_bin o_mulS f_mulS x_str (x_bin op_sub f_sub x_int (x_callB (o_sum rfl) f_sum (by rfl) T.m_sum bt_sum (a_cons (x_lc true (own := [("text", 8)]) (p := (.nm 8)) rfl sc_law.nd (i_seq (xv 5)) (blkOk_by (N := N_law) (sc := defScope st_law) (by decide +kernel)) (by decide) (fun _ _ _ _ _ => (g_name (i := 8) sc_law.nd rfl (by first | exact .inl rfl | exact .inr rfl))) (fun _ _ _ _ _ => ts_nil) (fun _ _ _ _ _ => (x_callB o_len f_len (by rfl) T.m_len bt_len (a_cons (xv 8) a_nil)))) a_nil))))) (xv 5) x_int (pg_sub (xv 5) x_int set_list)))
    s_nil)
    (s_cons (s_setLc true (i := 9) (own := [("k", 6)]) (p := (.nm 6)) rfl sc_law.nd rfl rfl (sw_true rfl rfl rfl (by decide +kernel)) (i_range1 (by rfl) T.m_range (a_cons (xv 3) a_nil)) (blkOk_by (N := N_law) (sc := defScope st_law) (by decide +kernel)) (by decide) (fun _ _ _ _ _ => (g_name (i := 6) sc_law.nd rfl (by first | exact .inl rfl | exact .inr rfl))) (fun _ _ _ _ _ => ts_nil) (fun _ _ _ _ _ => (x_call (ok__law_good_value T) (hr.mono (by decide)) (by rfl) T.g__law_good_value T.F__law_good_value.kp T.b__law_good_value (a_cons (xv 1) (a_cons (xv 2) a_nil)))))
    (s_cons (s_setLc true (i := 10) (own := [("k", 6)]) (p := (.nm 6)) rfl sc_law.nd rfl rfl (sw_true rfl rfl rfl (by decide +kernel)) (i_range1 (by rfl) T.m_range (a_cons (xv 3) a_nil)) (blkOk_by (N := N_law) (sc := defScope st_law) (by decide +kernel)) (by decide) (fun _ _ _ _ _ => (g_name (i := 6) sc_law.nd rfl (by first | exact .inl rfl | exact .inr rfl))) (fun _ _ _ _ _ => ts_nil) (fun _ _ _ _ _ => (x_call (ok__law_good_value T) (hr.mono (by decide)) (by rfl) T.g__law_good_value T.F__law_good_value.kp T.b__law_good_value (a_cons (xv 1) (a_cons (xv 2) a_nil)))))
    (s_cons (s_set (i := 11) sc_law.nd rfl (by first | exact .inl rfl | exact .inr rfl) (xv 9))
    (s_cons (s_if (t_cmp (o_eq hr.units) f_eq (x_call (ok__law_draw T) (hr.mono (by decide)) (by rfl) T.g__law_draw T.F__law_draw.kp T.b__law_draw (a_cons (xv 1) (a_cons x_int a_nil))) x_int)
    (s_one (s_setLc true (i := 11) (own := [("k", 6)]) (p := (.nm 6)) rfl sc_law.nd rfl rfl (sw_true rfl rfl rfl (by decide +kernel)) (i_range1 (by rfl) T.m_range (a_cons (xv 3) a_nil)) (blkOk_by (N := N_law) (sc := defScope st_law) (by decide +kernel)) (by decide) (fun _ _ _ _ _ => (g_name (i := 6) sc_law.nd rfl (by first | exact .inl rfl | exact .inr rfl))) (fun _ _ _ _ _ => ts_nil) (fun _ _ _ _ _ => (x_call (ok__law_any_value T) (hr.mono (by decide)) (by rfl) T.g__law_any_value T.F__law_any_value.kp T.b__law_any_value (a_cons (xv 1) (a_cons (xv 2) a_nil))))))
    s_nil)
    (s_cons (s_set (i := 12) sc_law.nd rfl (by first | exact .inl rfl | exact .inr rfl) (x_listRev true rfl (by rfl) T.m_list (by rfl) T.m_reversed (xv 5)))
    (s_cons (s_for PassesOwn.never rfl (i_seq (x_lst true (a_cons (x_tup (a_cons (xv 5) (a_cons (xv 9) a_nil))) (a_cons (x_tup (a_cons (xv 5) (a_cons (xv 11) a_nil))) (a_cons (x_tup (a_cons (xv 5) (a_cons (xv 10) a_nil))) (a_cons (x_tup (a_cons (xv 12) (a_cons (xv 10) a_nil))) (a_cons (x_tup (a_cons (xv 12) (a_cons (xv 11) a_nil))) (a_cons (x_tup (a_cons (xv 5) (a_cons (xv 9) a_nil))) a_nil)))))))) (g_name (i := 13) sc_law.nd rfl (by first | exact .inl rfl | exact .inr rfl))
    (s_cons (s_setLc true (i := 14) (own := [("k", 6)]) (p := (.nm 6)) rfl sc_law.nd rfl rfl (sw_true rfl rfl rfl (by decide +kernel)) (i_range1 (by rfl) T.m_range (a_cons (xv 3) a_nil)) (blkOk_by (N := N_law) (sc := defScope st_law) (by decide +kernel)) (by decide) (fun _ _ _ _ _ => (g_name (i := 6) sc_law.nd rfl (by first | exact .inl rfl | exact .inr rfl))) (fun _ _ _ _ _ => (ts_one (t_not (t_tru (x_call (ok__law_is_value T) (hr.mono (by decide)) (by rfl) T.g__law_is_value T.F__law_is_value.kp T.b__law_is_value (a_cons (x_ix o_ix f_ix (x_ix o_ix f_ix (xv 13) x_int) (xv 6)) a_nil)))))) (fun _ _ _ _ _ => (xv 6)))
    (s_cons (s_set (i := 15) sc_law.nd rfl (by first | exact .inl rfl | exact .inr rfl) (x_tup a_nil))
    (s_cons (s_if (t_tru (xv 14))
    (s_one (s_set (i := 15) sc_law.nd rfl (by first | exact .inl rfl | exact .inr rfl) (x_tup (a_cons x_str (a_cons (x_ix o_ix f_ix (xv 14) x_int) a_nil)))))
    (s_one (s_set (i := 15) sc_law.nd rfl (by first | exact .inl rfl | exact .inr rfl) (x_call (ok__law_filled T) (hr.mono (by decide)) (by rfl) T.g__law_filled T.F__law_filled.kp T.b__law_filled (a_cons (x_ix o_ix f_ix (xv 13) x_int) (a_cons (x_ix o_ix f_ix (xv 13) x_int) a_nil))))))
    (s_one (s_if (t_not (t_tru (x_call (ok__law_same T 24) (hr.mono (by decide)) (by rfl) T.g__law_same T.F__law_same.kp T.b__law_same (a_cons (x_call (ok__law_told T) (hr.mono (by decide)) (by rfl) T.g__law_told T.F__law_told.kp T.b__law_told (a_cons (x_callT o_tuple f_tuple (by rfl) T.m_tuple bt_tuple (a_cons (x_ix o_ix f_ix (xv 13) x_int) a_nil)) (a_cons (x_callT o_tuple f_tuple (by rfl) T.m_tuple bt_tuple (a_cons (x_ix o_ix f_ix (xv 13) x_int) a_nil)) a_nil))) (a_cons (xv 15) a_nil)))))
    (s_one (s_ret x_bl))
    s_nil))))))
    (s_one (s_ret x_bl)))))))))))))))) 0 true
end
/-! ### the law's own defs: the tape, draws, names -/
structure Tp where
  sc : List Int
  pl : Int
  pd : Int
  sd : Int
def Tp.o (t : Tp) : O := .lst [.lst (t.sc.map T.int), .int t.pl, .int t.pd, .int t.sd]
theorem Tp.clO (t : Tp) : Fx.clO 1 t.o = true := by simp [Tp.o]
theorem draw_raw (t : Tp) (hp : 0 ≤ t.pl) (m : Int) (hm : m < 1073741824) : Ok (runF 4 B__law_draw [.ref 0, .int m] [t.o]) fun r S => ∃ (n : Int) (t' : Tp), r = .int n ∧ S = [t'.o] ∧ 0 ≤ t'.pl ∧ 0 ≤ n ∧ n < max m 1 := by
  have h1 : (0 : Int) < max m 1 := by omega
  have h2 : (0 : Int) < max m 2 ∧ max m 2 < 1073741824 := by omega
  have hb : ∀ i : Int, 0 ≤ i % max m 1 ∧ i % max m 1 < max m 1 := fun i => ⟨Int.emod_nonneg _ (by omega), Int.emod_lt_of_pos _ (by omega)⟩
  have fin : ∀ (i : Int) (t' : Tp), 0 ≤ t'.pl → ∃ (n : Int) (t'' : Tp), T.int (i % max m 1) = .int n ∧ [t'.o] = [t''.o] ∧ 0 ≤ t''.pl ∧ 0 ≤ n ∧ n < max m 1 := fun i t' q => ⟨_, t', rfl, rfl, q, hb i⟩
  by_cases hd : t.pd = 0
  · by_cases hl : t.pl < t.sc.length
    · have hx : L2.atI (t.sc.map T.int) t.pl = some (.int t.sc[t.pl.toNat]) := by
        rw [atI_in _ _ hp (by simpa using hl)]
        simp
      by_cases hn : ((t.sc[t.pl.toNat].natAbs : Nat) : Int) < 1000000000000000000
      · refine Ok.of (a := .int ((((t.sc[t.pl.toNat].natAbs : Nat) : Int) * 48271 + t.pl * 69621 + 5) % 2147483647 * 69621 % 2147483629 % max m 1)) (S := [Tp.o { t with pl := t.pl + 1 }]) ?_ (fin _ _ (by show 0 ≤ t.pl + 1; omega))
        unfold runF B__law_draw
        simp [Tp.o, hd, h1, h2, ixN, hl, hx, hn]
      · refine Ok.of (a := .int (((t.sc[t.pl.toNat].natAbs : Nat) : Int) % max m 1)) (S := [Tp.o { t with pl := t.pl + 1, pd := ((t.sc[t.pl.toNat].natAbs : Nat) : Int) / max m 2 }]) ?_ (fin _ _ (by show 0 ≤ t.pl + 1; omega))
        unfold runF B__law_draw
        simp [Tp.o, hd, h1, h2, ixN, hl, hx, hn]
    · have hn : (t.sd * 48271 + t.pl + 1) % 2147483647 < 1000000000000000000 := by omega
      refine Ok.of (a := .int (((t.sd * 48271 + t.pl + 1) % 2147483647 * 48271 + t.pl * 69621 + 5) % 2147483647 * 69621 % 2147483629 % max m 1)) (S := [Tp.o { t with pl := t.pl + 1, sd := (t.sd * 48271 + t.pl + 1) % 2147483647 }]) ?_ (fin _ _ (by show 0 ≤ t.pl + 1; omega))
      unfold runF B__law_draw
      simp [Tp.o, hd, h1, h2, ixN, hl, hn]
  · refine Ok.of (a := .int (t.pd % max m 1)) (S := [Tp.o { t with pd := t.pd / max m 2 }]) ?_ (fin _ _ hp)
    unfold runF B__law_draw
    simp [Tp.o, hd, h1, h2, ixN]
theorem draw_ok {t : Tp} {m : Int} {rest : Sto} {Q : T → Sto → Prop} (hp : 0 ≤ t.pl) (hm : m < 1073741824) (h : ∀ (n : Int) (t' : Tp), 0 ≤ t'.pl → 0 ≤ n → n < max m 1 → Q (.int n) (t'.o :: rest)) : Ok (F__law_draw [.ref 0, .int m] (t.o :: rest)) Q := by
  unfold F__law_draw
  refine ok_frame1 (by simp) t.clO ((draw_raw t hp m hm).mono ?_)
  rintro r S ⟨n, t', rfl, rfl, h1, h2, h3⟩
  exact ⟨_, [], rfl, t'.clO, by simp, by simpa using h n t' h1 h2 h3⟩
/-! the tape -/
theorem tape_ok {ns : List Int} {Q : T → Sto → Prop} (h : ∀ t : Tp, 0 ≤ t.pl → Q (.ref 0) [t.o]) : Ok (F__law_tape [.kst (ns.map T.int)] []) Q := by
  unfold F__law_tape
  refine ok_run ?_
  unfold B__law_tape
  simp only [List.map_cons, List.map_nil, ev_seq, ev_set, ev_for, ev_it, Ok_bind, ev_C, ev_ok, Ok_ok]
  simp only [List.cons_append, List.nil_append, List.length_cons, List.length_nil, List.replicate, ev_V, List.set_cons_succ, List.set_cons_zero]
  show Ok (sForGo ⟨ns.map T.int, []⟩ (.nm 2) _ (ns.map T.int) [some (.kst (ns.map T.int)), some (.int 7), none] []) _
  refine ok_for (fun _ τ S => ∃ (k : Int) (x : Option T), τ = [some (.kst (ns.map T.int)), some (.int k), x] ∧ S = []) ⟨_, _, rfl, rfl⟩ ?_ ?_
  · rintro i t τ S e ⟨k, x, rfl, rfl⟩
    rw [List.getElem?_map] at e
    obtain ⟨n, _, rfl⟩ := Option.map_eq_some_iff.mp e
    refine ⟨_, bindP_nm _ _ _, ?_⟩
    simp [forQ]
  · rintro τ S ⟨k, x, rfl, rfl⟩
    simp [fListA, seqOf, endQ]
    exact h ⟨ns, 0, 0, k⟩ (Int.le_refl 0)
theorem letters_ok {S : Sto} {Q : T → Sto → Prop} (h : Q (.str "abcdefghijklmnopqrstuvwxyz") S) : Ok (F__law_letters [] S) Q := by
  unfold F__law_letters
  refine ok_frame0 (by simp) (ok_run ?_)
  unfold B__law_letters
  simpa [endQ] using h
/-! texts by their codes -/
def cs (w : Str) : List Nat := w.cps.toList
theorem cs_app (a b : Str) : cs (a ++ b) = cs a ++ cs b := Array.toList_append
theorem cs_len (a : Str) : (cs a).length = a.length := Array.length_toList
theorem cs_inj {a b : Str} (h : cs a = cs b) : a = b := by
  cases a
  cases b
  congr 1
  exact Array.ext' h
theorem cs_one (c : Nat) : cs ⟨#[c]⟩ = [c] := rfl
theorem cs_empty : cs ("" : Str) = [] := by decide +kernel
theorem cs_join0 : ∀ ys : List Str, cs (Txt.join "" ys) = (ys.map cs).flatten
  | [] => by
    show cs (Builtin.Str.glued "" []) = _
    rw [StrLaws.glued_eq_join]
    rfl
  | [x] => by
    show cs (Builtin.Str.glued "" [x]) = _
    rw [StrLaws.glued_eq_join]
    simp [Str.join]
  | x :: y :: r => by
    have ih := cs_join0 (y :: r)
    show cs (Builtin.Str.glued "" (x :: y :: r)) = _
    have ih : cs (Builtin.Str.glued "" (y :: r)) = ((y :: r).map cs).flatten := ih
    rw [StrLaws.glued_eq_join] at ih ⊢
    show cs (x ++ "" ++ Str.join "" (y :: r)) = _
    rw [cs_app, cs_app, ih, cs_empty, List.append_nil]
    rfl
/-- a letter a to z -/
def Lt (c : Nat) : Prop := 97 ≤ c ∧ c ≤ 122
def Low (w : Str) : Prop := ∀ c ∈ cs w, Lt c
instance (w : Str) : Decidable (Low w) := by unfold Low Lt; infer_instance
theorem Low.app {a b : Str} (h : Low a) (h' : Low b) : Low (a ++ b) := fun c m => by
  rw [cs_app] at m
  rcases List.mem_append.mp m with m | m
  · exact h c m
  · exact h' c m
theorem abc : cs ("abcdefghijklmnopqrstuvwxyz" : Str) = (List.range 26).map (97 + ·) := by decide +kernel
def ltr (n : Int) : Str := ⟨#[97 + n.toNat]⟩
theorem ltr_low {n : Int} (h0 : 0 ≤ n) (h : n < 26) : Low (ltr n) := fun c m => by
  have m : c = 97 + n.toNat := by simpa [ltr, cs] using m
  unfold Lt
  omega
theorem ltr_len (n : Int) : (ltr n).length = 1 := rfl
theorem abc_at {n : Int} (h0 : 0 ≤ n) (h : n < 26) (S : Sto) : fIx (.str "abcdefghijklmnopqrstuvwxyz") (.int n) S = .ok (.str (ltr n)) S := by
  have e : L2.atI (("abcdefghijklmnopqrstuvwxyz" : Str).cps.toList) n = some (97 + n.toNat) := by
    have := abc
    unfold cs at this
    rw [this, atI_in _ _ h0 (by simpa using h)]
    rw [List.getElem?_map, List.getElem?_range (by omega)]
    rfl
  have l : ("abcdefghijklmnopqrstuvwxyz" : Str).length ≤ 1000000 := by decide +kernel
  show (match L2.atI ("abcdefghijklmnopqrstuvwxyz" : Str).cps.toList n with
      | some c => if ("abcdefghijklmnopqrstuvwxyz" : Str).length ≤ 1000000 then R.ok (T.str ⟨#[c]⟩) S else .bad
      | none => .bad) = _
  rw [e]
  dsimp only
  rw [if_pos l]
  rfl
theorem strsOf_map (ys : List Str) : strsOf (ys.map T.str) = some ys := by
  induction ys with
  | nil => rfl
  | cons y ys ih =>
    show (strsOf (ys.map T.str)).map (fun l => y :: l) = _
    rw [ih]
    rfl
theorem join0_ev (ys : List Str) (S : Sto) (h : (ys.map Str.length).sum ≤ 1000000) : fJoin (.str "") [.lst (ys.map T.str)] S = .ok (.str (Txt.join "" ys)) S := by
  have l : ("" : Str).length = 0 := by decide +kernel
  show (match seqOf S (.lst (ys.map T.str)) with
    | some us => match strsOf us with
      | some ys => if (ys.map Str.length).sum + ys.length * ("" : Str).length ≤ 1000000 then R.ok (T.str (Txt.join "" ys)) S else .bad
      | none => .bad
    | none => .bad) = _
  show (match strsOf (ys.map T.str) with
      | some ys => if (ys.map Str.length).sum + ys.length * ("" : Str).length ≤ 1000000 then R.ok (T.str (Txt.join "" ys)) S else .bad
      | none => .bad) = _
  rw [strsOf_map]
  dsimp only
  rw [l, Nat.mul_zero, Nat.add_zero, if_pos h]
theorem run_ok {t : Tp} {m : Int} {rest : Sto} {Q : T → Sto → Prop} (hp : 0 ≤ t.pl) (h0 : 0 ≤ m) (hm : m ≤ 1000) (h : ∀ (w : Str) (t' : Tp), 0 ≤ t'.pl → Low w → (w.length : Int) = m → Q (.str w) (t'.o :: rest)) : Ok (F__law_run [.ref 0, .int m] (t.o :: rest)) Q := by
  unfold F__law_run
  refine ok_frame1 (by simp) t.clO (ok_run ?_)
  unfold B__law_run
  simp only [List.map_cons, List.map_nil, List.cons_append, List.nil_append, List.length_cons, List.length_nil, List.replicate, ev_ret, ev_meth, ev_cons, ev_lc, ev_itN, ev_nil, ev_C, ev_ok, ev_V, Ok_bind, Ok_ok, Nat.reduceAdd, Nat.reduceSub, isStr, if_true, List.getElem?_cons_succ, List.getElem?_cons_zero, range1_ev, wipeT, List.set_cons_succ, List.set_cons_zero]
  rw [range1_ev _ _ (by omega)]
  simp only [Ok_ok]
  refine ok_lc (fun k acc S => ∃ (ys : List Str) (t' : Tp), acc = ys.map T.str ∧ S = [t'.o] ∧ 0 ≤ t'.pl ∧ ys.length = k ∧ (∀ y ∈ ys, Low y ∧ y.length = 1)) ⟨[], t, rfl, rfl, hp, rfl, fun _ h => nomatch h⟩ ?_ ?_
  · rintro i x acc S e ⟨ys, t', rfl, rfl, hp', hl, hy⟩
    obtain ⟨hi, rfl⟩ := rangeT_at e
    refine ⟨_, bindP_nm _ _ _, ?_⟩
    simp only [ev_true, Ok_ok, if_true, ev_bin, ev_fn, ev_nil, ev_cons, ev_C, ev_V, ev_ok, Ok_bind, List.set_cons_succ, List.set_cons_zero, List.getElem?_cons_succ, List.getElem?_cons_zero, List.length_cons, List.length_nil, Nat.reduceAdd]
    refine letters_ok ?_
    try simp only [ev_ok, Ok_ok]
    refine draw_ok hp' (by omega) fun n t2 hp2 hn0 hn => ?_
    rw [abc_at hn0 (by omega), Ok_ok]
    refine ⟨by simp; omega, ys ++ [ltr n], t2, by simp, rfl, hp2, by simp [hl], fun y m => ?_⟩
    rcases List.mem_append.mp m with m | m
    · exact hy y m
    · rw [List.mem_singleton.mp m]; exact ⟨ltr_low hn0 (by omega), ltr_len n⟩
  · rintro acc S ⟨ys, t', rfl, rfl, hp', hl, hy⟩
    have hs : (ys.map Str.length).sum = ys.length := by
      clear hl
      induction ys with
      | nil => rfl
      | cons y ys ih =>
        rw [List.map_cons, List.sum_cons, ih fun y m => hy y (List.mem_cons_of_mem _ m), (hy y List.mem_cons_self).2, List.length_cons]
        omega
    have hl' : ys.length = m.toNat := by simpa using hl
    simp only [ev_newT, Ok_ok]
    rw [join0_ev ys _ (by omega)]
    simp only [Ok_ok, endQ]
    have hj : cs (Txt.join "" ys) = (ys.map cs).flatten := cs_join0 ys
    have hlen : (Txt.join "" ys).length = ys.length := by
      rw [← cs_len, hj, List.length_flatten, List.map_map, ← hs]
      congr 1
    refine ⟨_, [], rfl, t'.clO, by simp, ?_⟩
    simp only [thaw_str]
    refine h _ t' hp' (fun c m => ?_) (by rw [hlen]; omega)
    rw [hj, List.mem_flatten] at m
    obtain ⟨l, hl2, hc⟩ := m
    obtain ⟨y, hy2, rfl⟩ := List.mem_map.mp hl2
    exact (hy y hy2).1 c hc
/-! an order drawn -/
def intsN (xs : List Nat) : List T := xs.map fun i : Nat => T.int (i : Int)
theorem intsN_len (xs : List Nat) : (intsN xs).length = xs.length := List.length_map ..
theorem rangeT_0 (n : Nat) : Fx.rangeT 0 n = intsN (List.range n) := by
  unfold Fx.rangeT intsN
  exact List.map_congr_left fun i _ => by rw [Int.zero_add]
theorem cls_intsN (n : Nat) (xs : List Nat) : cls n (intsN xs) = true := cls_all n _ fun t m => by
  obtain ⟨i, _, rfl⟩ := List.mem_map.mp m
  simp
theorem intsN_at {xs : List Nat} {i : Nat} (h : i < xs.length) : (intsN xs)[i]? = some (.int xs[i]) := by
  unfold intsN
  rw [List.getElem?_map, List.getElem?_eq_getElem h]
  rfl
theorem map_erase {α β : Type} (f : α → β) : ∀ (xs : List α) (i : Nat), (xs.map f).eraseIdx i = (xs.eraseIdx i).map f
  | [], _ => by simp
  | _ :: _, 0 => by simp
  | x :: xs, i + 1 => by simp [map_erase f xs i]
theorem at_erase_perm {α : Type} : ∀ {xs : List α} {i : Nat} (h : i < xs.length), (xs[i] :: xs.eraseIdx i).Perm xs
  | [], _, h => by simp at h
  | x :: xs, 0, _ => by simp
  | x :: xs, i + 1, h => by
    have ih := at_erase_perm (xs := xs) (i := i) (by simpa using h)
    simp only [List.getElem_cons_succ, List.eraseIdx_cons_succ]
    exact (List.Perm.swap _ _ _).trans (ih.cons x)
theorem intsN_erase (xs : List Nat) (i : Nat) : (intsN xs).eraseIdx i = intsN (xs.eraseIdx i) := by
  unfold intsN
  exact map_erase _ xs i
theorem popAt_ev {S : Sto} {k j : Nat} {us : List T} {n : Int} {t : T} (hk : S[k]? = some (.lst us)) (h0 : 0 ≤ n) (hn : n < us.length) (ht : us[n.toNat]? = some t) (hl : us.length ≤ 100000) : fPopAt (.ref k) [.int n] S = .ok t (S.set k (.lst (us.eraseIdx n.toNat))) := by
  unfold fPopAt
  dsimp only
  rw [hk]
  dsimp only
  rw [ixN_in _ _ h0 hn]
  dsimp only
  rw [ht]
  dsimp only
  rw [if_pos hl]
theorem append_ev {S : Sto} {k : Nat} {us : List T} {t : T} (hk : S[k]? = some (.lst us)) (hl : us.length < 100000) : fAppend (.ref k) [t] S = .ok .non (S.set k (.lst (us ++ [t]))) := by
  unfold fAppend
  dsimp only
  rw [hk]
  dsimp only
  rw [if_pos hl]
/-! names drawn -/
def resv : List Str := ["sectors", "accounts", "type", "to", "if", "then", "each", "of", "not", "and", "or", "all", "none", "assume", "claim", "drop", "profiles", "distinguish", "conserved", "obligations", "evaluate", "decide", "bound", "by", "statuses", "core", "verdict", "refutes", "minimize", "types"]
theorem split_resv : Txt.split (("sectors accounts type to if then each of not and or all none assume claim drop profiles distinguish" : Str) ++ (" conserved obligations evaluate decide bound by statuses core verdict refutes minimize types" : Str)) " " = resv := by decide +kernel
theorem ev_split (a b : Str) (S : Sto) : fSplit true (.str a) [.str b] S = if (b.length == 0) = false ∧ a.length ≤ 1000000 then .ok (.lst ((Txt.split a b).map T.str)) S else .bad := id rfl
theorem reserved_gen {a b c : Str} {Q : T → Sto → Prop} (l1 : a.length + b.length ≤ 1000000) (l2 : (c.length == 0) = false ∧ (a ++ b).length ≤ 1000000) (h : Q (.lst ((Txt.split (a ++ b) c).map T.str)) []) :
    Ok ((sSeq (sSet 0 (mC (.str a))) (sSeq (sSet 0 (mBin (fAddA true) (mVar 0) (mC (.str b)))) (sRet (mMeth isStr (fSplit true) (mVar 0) (mCons (mC (.str c)) mNil))))) [none] []) (endQ Q) := by
  have e1 : fAddA true (.str a) (.str b) [] = .ok (.str (a ++ b)) [] := if_pos l1
  have e2 : fSplit true (.str (a ++ b)) [.str c] [] = .ok (.lst ((Txt.split (a ++ b) c).map T.str)) [] := by rw [ev_split, if_pos l2]
  clear l1 l2
  simp only [ev_seq, ev_set, ev_C, ev_ok, ev_bin, ev_V, ev_ret, ev_meth, ev_cons, ev_nil, isStr, Ok_bind, Ok_ok, List.set_cons_zero, List.getElem?_cons_zero, e1, if_true, e2, endQ]
  exact h
theorem reserved_ok {S : Sto} {Q : T → Sto → Prop} (h : Q (.lst (resv.map T.str)) S) : Ok (F__law_reserved [] S) Q := by
  unfold F__law_reserved
  refine ok_frame0 (by simp) (ok_run ?_)
  refine reserved_gen (by decide +kernel) (by decide +kernel) ?_
  rw [split_resv]
  exact ⟨by show cl 0 (.lst (resv.map T.str)) = true; rw [cl_lst]; exact cls_strs 0 resv, h⟩
instance (c : Nat) : Decidable (Lt c) := by unfold Lt; infer_instance
structure Nm (w : Str) : Prop where
  low : Low w
  pos : 1 ≤ w.length
  le : w.length ≤ 12
  nr : w ∉ resv
instance (w : Str) : Decidable (Nm w) := decidable_of_iff (Low w ∧ 1 ≤ w.length ∧ w.length ≤ 12 ∧ w ∉ resv) ⟨fun h => ⟨h.1, h.2.1, h.2.2.1, h.2.2.2⟩, fun h => ⟨h.1, h.2, h.3, h.4⟩⟩
theorem resv_len : ∀ w ∈ resv, w.length ≤ 11 := by decide +kernel
theorem resv_x : ∀ w ∈ resv, w ++ ("x" : Str) ∉ resv := by decide +kernel
theorem inF_strs (w : Str) (xs : List Str) : inF (.str w) (xs.map T.str) = decide (w ∈ xs) := by
  induction xs with
  | nil => rfl
  | cons x xs ih =>
    unfold inF at ih ⊢
    rw [List.map_cons, List.any_cons, ih]
    show ((x == w) || decide (w ∈ xs)) = decide (w ∈ x :: xs)
    by_cases h : x = w
    · rw [beq_iff_eq.mpr h, Bool.true_or, decide_eq_true (by rw [h]; exact List.mem_cons_self)]
    · rw [beq_eq_false_iff_ne.mpr h, Bool.false_or]
      by_cases m : w ∈ xs
      · rw [decide_eq_true m, decide_eq_true (List.mem_cons_of_mem _ m)]
      · rw [decide_eq_false m, decide_eq_false (fun q => (List.mem_cons.mp q).elim (fun e => h e.symm) m)]
theorem flat_strs (xs : List Str) : (xs.map T.str).all flatT = true := by
  rw [List.all_eq_true]
  intro t m
  obtain ⟨w, _, rfl⟩ := List.mem_map.mp m
  rfl
theorem in_ev {S : Sto} {y : T} {w : Str} {xs : List Str} (h : seqOf S y = some (xs.map T.str)) (hy : ∀ z, y ≠ .str z) : fIn false (.str w) y S = .ok (.bl (decide (w ∈ xs))) S := by
  have e : fIn false (.str w) y S = match seqOf S y with
    | some ts => if (flatT (.str w) && ts.all flatT) = true then .ok (.bl (inF (.str w) ts)) S
      else match toD (.str w), toD y with
        | some d, some (.list ds) => if (SeqAt.shaped d && SeqAt.shaped (.list ds)) = true then .ok (.bl (ds.any fun z => PyData.eqv z d)) S else .bad
        | _, _ => .bad
    | none => .bad := by cases y <;> first | rfl | exact absurd rfl (hy _)
  rw [e, h]
  dsimp only
  rw [flat_strs, show flatT (.str w) = true from rfl, inF_strs]
  rfl
theorem ni_ev {S : Sto} {y : T} {w : Str} {xs : List Str} (h : seqOf S y = some (xs.map T.str)) (hy : ∀ z, y ≠ .str z) : fIn true (.str w) y S = .ok (.bl (!decide (w ∈ xs))) S := by
  have e : fIn true (.str w) y S = match seqOf S y with
    | some ts => if (flatT (.str w) && ts.all flatT) = true then .ok (.bl (!inF (.str w) ts)) S
      else match toD (.str w), toD y with
        | some d, some (.list ds) => if (SeqAt.shaped d && SeqAt.shaped (.list ds)) = true then .ok (.bl (!ds.any fun z => PyData.eqv z d)) S else .bad
        | _, _ => .bad
    | none => .bad := by cases y <;> first | rfl | exact absurd rfl (hy _)
  rw [e, h]
  dsimp only
  rw [flat_strs, show flatT (.str w) = true from rfl, inF_strs]
  rfl
/-- what stands behind a stem tells the names apart -/
def keyOf (stem w : Str) : Option Nat := (cs w)[stem.length]?
theorem keyOf_app {stem a b : Str} {c : Nat} (h : cs a = [c]) : keyOf stem (stem ++ a ++ b) = some c := by
  unfold keyOf
  rw [cs_app, cs_app, h, ← cs_len stem, List.append_assoc, List.getElem?_append_right (Nat.le_refl _), Nat.sub_self]
  rfl
theorem len_app (a b : Str) : (a ++ b).length = a.length + b.length := by rw [← cs_len, cs_app, List.length_append, cs_len, cs_len]
def chT (c : Nat) : T := .str ⟨#[c]⟩
theorem nodup_set {α : Type} [DecidableEq α] {xs : List α} (h : xs.Nodup) {w : α} (hw : w ∉ xs) (i : Nat) : (xs.set i w).Nodup := by
  induction xs generalizing i with
  | nil => simp
  | cons x xs ih =>
    rw [List.nodup_cons] at h
    rw [List.mem_cons, not_or] at hw
    cases i with
    | zero =>
      rw [List.set_cons_zero, List.nodup_cons]
      exact ⟨hw.2, h.2⟩
    | succ i =>
      rw [List.set_cons_succ, List.nodup_cons]
      refine ⟨fun m => ?_, ih h.2 hw.2 i⟩
      rcases List.mem_or_eq_of_mem_set m with m | m
      · exact h.1 m
      · exact hw.1 m.symm
theorem strT_abc : strT "abcdefghijklmnopqrstuvwxyz" = ((List.range 26).map (97 + ·)).map chT := by
  have := abc
  unfold cs at this
  unfold strT
  rw [this]
  rfl
theorem names_ok {t : Tp} {m : Int} {rest : Sto} {Q : T → Sto → Prop} (hp : 0 ≤ t.pl) (h0 : 0 ≤ m) (hm : m ≤ 26) (h : ∀ (ns : List Str) (t' : Tp), 0 ≤ t'.pl → ns.length = m.toNat → ns.Nodup → (∀ w ∈ ns, Nm w) → Q (.lst (ns.map T.str)) (t'.o :: rest)) : Ok (F__law_names [.ref 0, .int m] (t.o :: rest)) Q := by
  unfold F__law_names
  refine ok_frame1 (by simp) t.clO (ok_run ?_)
  unfold B__law_names
  try simp_arith only []
  refine draw_ok hp (by omega) fun n1 t1 hp1 hn1 hn1' => ?_
  try simp_arith only []
  refine run_ok hp1 hn1 (by omega) fun w1 t2 hp2 hw1 hl1 => ?_
  try simp_arith only []
  refine run_ok hp2 (by omega) (by omega) fun w2 t3 hp3 hw2 hl2 => ?_
  try simp_arith only []
  refine draw_ok hp3 (by omega) fun n2 t4 hp4 hn2 hn2' => ?_
  try simp_arith only []
  -- the stem
  have hstem : ∃ stem : Str, L2.atI [T.str "", .str "", .str "", .str "al", .str "no", .str "claim", .str "sector", .str w1, .str w2] n2 = some (.str stem) ∧ Low stem ∧ stem.length ≤ 9 := by
    have hs : ∀ i : Nat, i < 9 → ∃ stem : Str, [T.str "", .str "", .str "", .str "al", .str "no", .str "claim", .str "sector", .str w1, .str w2][i]? = some (.str stem) ∧ Low stem ∧ stem.length ≤ 9 := by
      intro i hi9
      match i, hi9 with
      | 0, _ => exact ⟨"", rfl, by decide +kernel, by decide +kernel⟩
      | 1, _ => exact ⟨"", rfl, by decide +kernel, by decide +kernel⟩
      | 2, _ => exact ⟨"", rfl, by decide +kernel, by decide +kernel⟩
      | 3, _ => exact ⟨"al", rfl, by decide +kernel, by decide +kernel⟩
      | 4, _ => exact ⟨"no", rfl, by decide +kernel, by decide +kernel⟩
      | 5, _ => exact ⟨"claim", rfl, by decide +kernel, by decide +kernel⟩
      | 6, _ => exact ⟨"sector", rfl, by decide +kernel, by decide +kernel⟩
      | 7, _ => exact ⟨w1, rfl, hw1, by omega⟩
      | 8, _ => exact ⟨w2, rfl, hw2, by omega⟩
      | i + 9, q => exact absurd q (by omega)
    obtain ⟨stem, e, h1, h2⟩ := hs n2.toNat (by omega)
    exact ⟨stem, by rw [atI_in _ _ hn2 (by simp only [List.length_cons, List.length_nil]; omega)]; exact e, h1, h2⟩
  obtain ⟨stem, hstem, hslow, hslen⟩ := hstem
  rw [hstem]
  try simp_arith only []
  refine reserved_ok ?_
  try simp_arith only []
  refine letters_ok ?_
  have labc : ("abcdefghijklmnopqrstuvwxyz" : Str).length ≤ 100000 := by decide +kernel
  try simp_arith only [fListA, labc, strT_abc]
  rw [range1_ev _ _ (by omega)]
  try simp_arith only [rangeT_0]
  refine ok_for (fun k τ S => ∃ (ls us : List Nat) (ns : List Str) (t' : Tp) (x y z : Option T), τ = [some (.ref 0), some (.int m), some (.lst [T.str "", .str "", .str "", .str "al", .str "no", .str "claim", .str "sector", .str w1, .str w2]), some (.str stem), some (.lst [T.str "sector", .str "sum", .str "number", .str "end", .str "name", .str "symbol", .str "invalid", .str "holds"]), some (.lst (resv.map T.str)), some (.ref 1), some (.ref 2), x, y, z]
      ∧ S = [t'.o, .lst (ls.map chT), .lst (ns.map T.str)] ∧ 0 ≤ t'.pl ∧ ns.map (keyOf stem) = us.map some ∧ (us ++ ls).Nodup ∧ (∀ c ∈ ls, Lt c) ∧ ns.length = k ∧ ls.length = 26 - k ∧ ∀ w ∈ ns, Nm w)
    ⟨_, [], [], t4, none, none, none, rfl, rfl, hp4, rfl, by decide +kernel, by decide +kernel, rfl, by simp, fun _ h => nomatch h⟩ ?_ ?_
  · rintro i x0 τ S e ⟨ls, us, ns, t', x, y, z, rfl, rfl, hp', hkey, hnd, hlt, hk, hll, hns⟩
    have hi : i < m.toNat := by
      obtain ⟨q, _⟩ := List.getElem?_eq_some_iff.mp e
      rw [intsN_len, List.length_range] at q
      exact q
    refine ⟨_, bindP_nm _ _ _, ?_⟩
    try simp_arith only [List.length_map]
    refine draw_ok hp' (by omega) fun n t2 hp2 hn0 hn => ?_
    have hx : n.toNat < ls.length := by omega
    try simp_arith only []
    rw [popAt_ev (S := [t2.o, .lst (ls.map chT), .lst (ns.map T.str)]) (k := 1) (j := 0) rfl hn0 (by rw [List.length_map]; omega) (by rw [List.getElem?_map, List.getElem?_eq_getElem hx]; rfl) (by rw [List.length_map]; omega)]
    have hc : Lt ls[n.toNat] := hlt _ (List.getElem_mem hx)
    generalize hcd : ls[n.toNat] = c at hc ⊢
    have hlc : (⟨#[c]⟩ : Str).length = 1 := rfl
    try simp_arith only [chT]
    rw [if_pos (show stem.length + (⟨#[c]⟩ : Str).length ≤ 1000000 by omega)]
    try simp_arith only []
    refine draw_ok hp2 (by omega) fun n3 t3 hp3 hn3 hn3' => ?_
    try simp_arith only []
    have hsz : ∃ k : Int, L2.atI [T.int 0, .int 0, .int 1, .int 2] n3 = some (.int k) ∧ 0 ≤ k ∧ k ≤ 2 := by
      have hs : ∀ i : Nat, i < 4 → ∃ k : Int, [T.int 0, .int 0, .int 1, .int 2][i]? = some (.int k) ∧ 0 ≤ k ∧ k ≤ 2 := by
        intro i hi9
        match i, hi9 with
        | 0, _ => exact ⟨0, rfl, by decide, by decide⟩
        | 1, _ => exact ⟨0, rfl, by decide, by decide⟩
        | 2, _ => exact ⟨1, rfl, by decide, by decide⟩
        | 3, _ => exact ⟨2, rfl, by decide, by decide⟩
        | i + 4, q => exact absurd q (by omega)
      obtain ⟨k, e, h1⟩ := hs n3.toNat (by omega)
      exact ⟨k, by rw [atI_in _ _ hn3 (by simp only [List.length_cons, List.length_nil]; omega)]; exact e, h1⟩
    obtain ⟨k3, hk3, hk30, hk31⟩ := hsz
    rw [hk3]
    try simp_arith only []
    refine run_ok hp3 hk30 (by omega) fun w4 t5 hp5 hw4 hl4 => ?_
    have hl5 : (stem ++ ⟨#[c]⟩ : Str).length = stem.length + 1 := by rw [len_app]; rfl
    try simp_arith only []
    rw [if_pos (show (stem ++ ⟨#[c]⟩ : Str).length + w4.length ≤ 1000000 by omega)]
    try simp_arith only []
    rw [in_ev (y := .lst (resv.map T.str)) (xs := resv) rfl (fun z h => nomatch h)]
    have hlow : Low (stem ++ ⟨#[c]⟩ ++ w4) := (hslow.app (fun d md => by rw [cs_one] at md; rw [List.mem_singleton.mp md]; exact hc)).app hw4
    have hl6 : (stem ++ ⟨#[c]⟩ ++ w4).length = stem.length + 1 + w4.length := by rw [len_app, hl5]
    have hperm : (us ++ [c] ++ ls.eraseIdx n.toNat).Perm (us ++ ls) := by
      rw [List.append_assoc]
      refine List.Perm.append_left us ?_
      rw [← hcd]
      exact at_erase_perm hx
    have fin : ∀ (w : Str) (y z : Option T), Nm w → keyOf stem w = some c → ∃ (ls' us' : List Nat) (ns' : List Str) (t' : Tp) (x y' z' : Option T), [some (.ref 0), some (.int m), some (.lst [T.str "", .str "", .str "", .str "al", .str "no", .str "claim", .str "sector", .str w1, .str w2]), some (.str stem), some (.lst [T.str "sector", .str "sum", .str "number", .str "end", .str "name", .str "symbol", .str "invalid", .str "holds"]), some (.lst (resv.map T.str)), some (.ref 1), some (.ref 2), some x0, y, z] = [some (.ref 0), some (.int m), some (.lst [T.str "", .str "", .str "", .str "al", .str "no", .str "claim", .str "sector", .str w1, .str w2]), some (.str stem), some (.lst [T.str "sector", .str "sum", .str "number", .str "end", .str "name", .str "symbol", .str "invalid", .str "holds"]), some (.lst (resv.map T.str)), some (.ref 1), some (.ref 2), x, y', z']
      ∧ [t5.o, .lst ((ls.eraseIdx n.toNat).map chT), .lst (ns.map T.str ++ [.str w])] = [t'.o, .lst (ls'.map chT), .lst (ns'.map T.str)] ∧ 0 ≤ t'.pl ∧ ns'.map (keyOf stem) = us'.map some ∧ (us' ++ ls').Nodup ∧ (∀ c ∈ ls', Lt c) ∧ ns'.length = i + 1 ∧ ls'.length = 26 - (i + 1) ∧ ∀ w ∈ ns', Nm w := fun w y z hw hkw =>
      ⟨ls.eraseIdx n.toNat, us ++ [c], ns ++ [w], t5, _, y, z, rfl, by simp, hp5, by simp [hkey, hkw], hperm.nodup_iff.mpr hnd, fun d md => hlt d (List.mem_of_mem_eraseIdx md), by simp [hk], by rw [List.length_eraseIdx_of_lt hx]; omega, fun v mv => by
        rcases List.mem_append.mp mv with mv | mv
        · exact hns v mv
        · rw [List.mem_singleton.mp mv]; exact hw⟩
    by_cases hr : (stem ++ ⟨#[c]⟩ ++ w4) ∈ resv
    · have hlr := resv_len _ hr
      have lx : ("x" : Str).length = 1 := by decide +kernel
      rw [decide_eq_true hr]
      try simp_arith only []
      rw [if_pos (show (stem ++ ⟨#[c]⟩ ++ w4).length + ("x" : Str).length ≤ 1000000 by omega)]
      try simp_arith only []
      rw [append_ev (k := 2) rfl (by rw [List.length_map]; omega)]
      try simp_arith only [forQ, map_erase]
      refine fin _ _ _ ⟨hlow.app (by decide +kernel), by rw [len_app]; omega, by rw [len_app]; omega, resv_x _ hr⟩ ?_
      have : stem ++ ⟨#[c]⟩ ++ w4 ++ ("x" : Str) = stem ++ ⟨#[c]⟩ ++ (w4 ++ ("x" : Str)) := cs_inj (by simp only [cs_app, List.append_assoc])
      rw [this]
      exact keyOf_app (cs_one c)
    · rw [decide_eq_false hr]
      try simp_arith only []
      rw [append_ev (k := 2) rfl (by rw [List.length_map]; omega)]
      try simp_arith only [forQ, map_erase]
      exact fin _ _ _ ⟨hlow, by omega, by omega, hr⟩ (keyOf_app (cs_one c))
  · rintro τ S ⟨ls, us, ns, t', x, y, z, rfl, rfl, hp', hkey, hnd, hlt, hk, hll, hns⟩
    rw [intsN_len, List.length_range] at hk
    have hnd1 : ns.Nodup := by
      have : (ns.map (keyOf stem)).Nodup := by
        rw [hkey]
        exact List.Pairwise.map some (fun a b e q => e (Option.some.inj q)) (List.nodup_append.mp hnd).1
      exact List.Pairwise.of_map (keyOf stem) (fun a b e q => e (by rw [q])) this
    try simp_arith only []
    refine draw_ok hp' (by omega) fun n t2 hp2 hn0 hn => ?_
    try simp_arith only []
    have hthen : ∀ (ns : List Str) (t' : Tp), 0 ≤ t'.pl → ns.length = m.toNat → ns.Nodup → (∀ w ∈ ns, Nm w) → endQ (fun t S1 => ∃ o' g, S1 = o' :: g ∧ Fx.clO 1 o' = true ∧ cl 1 (thaw 1 true t S1) = true ∧ Q (thaw 1 true t S1) (o' :: rest)) (.rt (.ref 2)) [t'.o, .lst (ls.map chT), .lst (ns.map T.str)] := by
      intro ns t' hp' hk hnd hns
      refine ⟨_, _, rfl, t'.clO, ?_, ?_⟩
      · show cl 1 (.lst (ns.map T.str)) = true
        rw [cl_lst]
        exact cls_strs 1 ns
      · exact h ns t' hp' hk hnd hns
    by_cases hz : n = 0
    · subst hz
      try simp_arith only []
      rw [range1_ev _ _ (by omega)]
      try simp_arith only [rangeT_0]
      refine ok_for (fun k τ S => ∃ (ns : List Str) (t' : Tp) (x y z : Option T), τ = [some (.ref 0), some (.int m), some (.lst [T.str "", .str "", .str "", .str "al", .str "no", .str "claim", .str "sector", .str w1, .str w2]), some (.str stem), some (.lst [T.str "sector", .str "sum", .str "number", .str "end", .str "name", .str "symbol", .str "invalid", .str "holds"]), some (.lst (resv.map T.str)), some (.ref 1), some (.ref 2), x, y, z]
        ∧ S = [t'.o, .lst (ls.map chT), .lst (ns.map T.str)] ∧ 0 ≤ t'.pl ∧ ns.length = m.toNat ∧ ns.Nodup ∧ ∀ w ∈ ns, Nm w) ⟨ns, t2, x, y, z, rfl, rfl, hp2, hk, hnd1, hns⟩ ?_ ?_
      · rintro i x0 τ S e ⟨ns, t', x, y, z, rfl, rfl, hp', hk, hnd, hns⟩
        obtain ⟨hi, e⟩ := List.getElem?_eq_some_iff.mp e
        have hi' : i < (min m 4).toNat := by
          have := hi
          rw [intsN_len, List.length_range] at this
          exact this
        have e : x0 = .int (i : Int) := by
          rw [← e]
          simp [intsN]
        subst e
        refine ⟨_, bindP_nm _ _ _, ?_⟩
        try simp_arith only []
        refine draw_ok hp' (by omega) fun n t2 hp2 hn0 hn => ?_
        try simp_arith only []
        have hwd : ∃ w : Str, L2.atI [T.str "sector", .str "sum", .str "number", .str "end", .str "name", .str "symbol", .str "invalid", .str "holds"] n = some (.str w) ∧ Nm w := by
          have hs : ∀ i : Nat, i < 8 → ∃ w : Str, [T.str "sector", .str "sum", .str "number", .str "end", .str "name", .str "symbol", .str "invalid", .str "holds"][i]? = some (.str w) ∧ Nm w := by
            intro i hi9
            match i, hi9 with
            | 0, _ => exact ⟨_, rfl, by decide +kernel⟩
            | 1, _ => exact ⟨_, rfl, by decide +kernel⟩
            | 2, _ => exact ⟨_, rfl, by decide +kernel⟩
            | 3, _ => exact ⟨_, rfl, by decide +kernel⟩
            | 4, _ => exact ⟨_, rfl, by decide +kernel⟩
            | 5, _ => exact ⟨_, rfl, by decide +kernel⟩
            | 6, _ => exact ⟨_, rfl, by decide +kernel⟩
            | 7, _ => exact ⟨_, rfl, by decide +kernel⟩
            | i + 8, q => exact absurd q (by omega)
          obtain ⟨w, e, h1⟩ := hs n.toNat (by omega)
          exact ⟨w, by rw [atI_in _ _ hn0 (by simp only [List.length_cons, List.length_nil]; omega)]; exact e, h1⟩
        obtain ⟨w, hw, hnw⟩ := hwd
        rw [hw]
        try simp_arith only []
        rw [ni_ev (S := [t2.o, .lst (ls.map chT), .lst (ns.map T.str)]) (y := .ref 2) (xs := ns) rfl (fun z h => nomatch h)]
        try simp_arith only []
        by_cases hin : w ∈ ns
        · rw [decide_eq_true hin]
          try simp_arith only [forQ]
          exact ⟨ns, t2, _, _, _, rfl, rfl, hp2, hk, hnd, hns⟩
        · rw [decide_eq_false hin]
          try simp_arith only [List.length_map]
          rw [ixN_in _ _ (by omega) (by omega)]
          try simp_arith only [forQ]
          refine ⟨ns.set i w, t2, _, _, _, rfl, by simp, hp2, by simp [hk], nodup_set hnd hin i, fun v mv => ?_⟩
          rcases List.mem_or_eq_of_mem_set mv with mv | mv
          · exact hns v mv
          · rw [mv]; exact hnw
      · rintro τ S ⟨ns, t', x, y, z, rfl, rfl, hp', hk, hnd, hns⟩
        try simp_arith only []
        exact hthen ns t' hp' hk hnd hns
    · rw [decide_eq_false hz]
      try simp_arith only []
      exact hthen ns t2 hp2 hk hnd1 hns
/-! two values are the same -/
inductive Pl : Nat → T → Prop
  | non (n : Nat) : Pl n .non
  | bl (n : Nat) (b : Bool) : Pl n (.bl b)
  | int (n : Nat) (i : Int) : Pl n (.int i)
  | str (n : Nat) (x : Str) : Pl n (.str x)
  | tup {n : Nat} {ts : List T} : ts.length ≤ 1000000 → (∀ t ∈ ts, Pl n t) → Pl (n + 1) (.tup ts)
theorem Pl.cl {n m : Nat} {t : T} (h : Pl n t) : Fx.cl m t = true := by
  induction h with
  | non => simp
  | bl => simp
  | int => simp
  | str => simp
  | tup _ _ ih => rw [cl_tup]; exact cls_all m _ ih
theorem Pl.up {n : Nat} {t : T} (h : Pl n t) : ∀ k, Pl (n + k) t := by
  induction h with
  | non => exact fun k => .non _
  | bl => exact fun k => .bl _ _
  | int => exact fun k => .int _ _
  | str => exact fun k => .str _ _
  | tup q _ ih =>
    intro k
    rw [Nat.add_right_comm]
    exact .tup q fun t m => ih t m k
theorem Pl.le {n m : Nat} {t : T} (h : Pl n t) (hm : n ≤ m) : Pl m t := by
  rw [show m = n + (m - n) by omega]
  exact h.up _
theorem isi_ev {S : Sto} {x : T} {a n : String} {b : Bool} (h1 : tyN S x = some a) (h2 : kitB a n = some b) : fIsi [x, .ty n] S = .ok (.bl b) S := by
  show (match tyN S x with
    | some a => match kitB a n with
      | some b => R.ok (T.bl b) S
      | none => .bad
    | none => .bad) = _
  rw [h1]
  dsimp only
  rw [h2]
section
variable {S : Sto}
theorem isi_nt : fIsi [.non, .ty "tuple"] S = .ok (.bl false) S := isi_ev (a := "NoneType") rfl (by decide +kernel)
theorem isi_bt {b} : fIsi [.bl b, .ty "tuple"] S = .ok (.bl false) S := isi_ev (a := "bool") rfl (by decide +kernel)
theorem isi_it {b} : fIsi [.int b, .ty "tuple"] S = .ok (.bl false) S := isi_ev (a := "int") rfl (by decide +kernel)
theorem isi_st {b} : fIsi [.str b, .ty "tuple"] S = .ok (.bl false) S := isi_ev (a := "str") rfl (by decide +kernel)
theorem isi_tt {b} : fIsi [.tup b, .ty "tuple"] S = .ok (.bl true) S := isi_ev (a := "tuple") rfl (by decide +kernel)
theorem isi_nb : fIsi [.non, .ty "bool"] S = .ok (.bl false) S := isi_ev (a := "NoneType") rfl (by decide +kernel)
theorem isi_bb {b} : fIsi [.bl b, .ty "bool"] S = .ok (.bl true) S := isi_ev (a := "bool") rfl (by decide +kernel)
theorem isi_ib {b} : fIsi [.int b, .ty "bool"] S = .ok (.bl false) S := isi_ev (a := "int") rfl (by decide +kernel)
theorem isi_sb {b} : fIsi [.str b, .ty "bool"] S = .ok (.bl false) S := isi_ev (a := "str") rfl (by decide +kernel)
theorem isi_tb {b} : fIsi [.tup b, .ty "bool"] S = .ok (.bl false) S := isi_ev (a := "tuple") rfl (by decide +kernel)
theorem isi_ns : fIsi [.non, .ty "str"] S = .ok (.bl false) S := isi_ev (a := "NoneType") rfl (by decide +kernel)
theorem isi_bs {b} : fIsi [.bl b, .ty "str"] S = .ok (.bl false) S := isi_ev (a := "bool") rfl (by decide +kernel)
theorem isi_is {b} : fIsi [.int b, .ty "str"] S = .ok (.bl false) S := isi_ev (a := "int") rfl (by decide +kernel)
theorem isi_ss {b} : fIsi [.str b, .ty "str"] S = .ok (.bl true) S := isi_ev (a := "str") rfl (by decide +kernel)
theorem isi_ts {b} : fIsi [.tup b, .ty "str"] S = .ok (.bl false) S := isi_ev (a := "tuple") rfl (by decide +kernel)
theorem isi_ni : fIsi [.non, .ty "int"] S = .ok (.bl false) S := isi_ev (a := "NoneType") rfl (by decide +kernel)
theorem isi_bi {b} : fIsi [.bl b, .ty "int"] S = .ok (.bl true) S := isi_ev (a := "bool") rfl (by decide +kernel)
theorem isi_ii {b} : fIsi [.int b, .ty "int"] S = .ok (.bl true) S := isi_ev (a := "int") rfl (by decide +kernel)
theorem isi_si {b} : fIsi [.str b, .ty "int"] S = .ok (.bl false) S := isi_ev (a := "str") rfl (by decide +kernel)
theorem isi_ti {b} : fIsi [.tup b, .ty "int"] S = .ok (.bl false) S := isi_ev (a := "tuple") rfl (by decide +kernel)
theorem ev_isN (x : T) : fIsN false x .non S = .ok (.bl (isN x)) S := id rfl
theorem ev_isNb (x : T) : fIsN true x .non S = .ok (.bl (!isN x)) S := id rfl
theorem fTru_bl (b : Bool) : fTru (.bl b) S = .ok b S := id rfl
theorem ev_eqB (i j : Bool) : fEq (.bl i) (.bl j) S = .ok (.bl (decide (i = j))) S := id rfl
end
theorem same_step {d : Nat} {x y : T} {e : Nat} {S : Sto} {Q : T → Sto → Prop} (ih : ∀ {x y : T} {e d' : Nat} {S : Sto} {Q : T → Sto → Prop}, d' + 1 = d → Pl e x → Pl d' y → (∀ b : Bool, (b = true ↔ x = y) → Q (.bl b) S) → Ok (F__law_same d [x, y] S) Q)
    (hx : Pl e x) (hy : Pl d y) (h : ∀ b : Bool, (b = true ↔ x = y) → Q (.bl b) S) : Ok (F__law_same (d + 1) [x, y] S) Q := by
  rw [F__law_same]
  refine ok_frame0 (by simp [hx.cl, hy.cl]) (ok_run ?_)
  have fin : ∀ (b : Bool) (S1 : Sto), (b = true ↔ x = y) → endQ (fun t S1 => cl 0 (thaw 0 true t S1) = true ∧ Q (thaw 0 true t S1) S) (.rt (.bl b)) S1 := fun b S1 hb => ⟨by simp, by simpa using h b hb⟩
  unfold B__law_same
  cases hy with
  | non =>
    try simp_arith only [ev_isN, isN]
    refine fin _ _ ?_
    cases hx <;> simp [isN]
  | bl _ b =>
    try simp_arith only [ev_isN, isN, isi_bt, isi_bb, fTru_bl]
    cases hx with
    | bl _ c =>
      try simp_arith only [isi_bb, ev_eqB]
      exact fin _ _ (by simp)
    | non => try simp_arith only [isi_nb]; exact fin _ _ (by simp)
    | int => try simp_arith only [isi_ib]; exact fin _ _ (by simp)
    | str => try simp_arith only [isi_sb]; exact fin _ _ (by simp)
    | tup => try simp_arith only [isi_tb]; exact fin _ _ (by simp)
  | int _ b =>
    try simp_arith only [ev_isN, isN, isi_it, isi_ib, isi_is, fTru_bl]
    cases hx with
    | bl _ c => try simp_arith only [isi_bi, isi_bb]; exact fin _ _ (by simp)
    | non => try simp_arith only [isi_ni]; exact fin _ _ (by simp)
    | int => try simp_arith only [isi_ii, isi_ib]; exact fin _ _ (by simp)
    | str => try simp_arith only [isi_si]; exact fin _ _ (by simp)
    | tup => try simp_arith only [isi_ti]; exact fin _ _ (by simp)
  | str _ b =>
    try simp_arith only [ev_isN, isN, isi_st, isi_sb, isi_ss, fTru_bl]
    cases hx with
    | bl _ c => try simp_arith only [isi_bs]; exact fin _ _ (by simp)
    | non => try simp_arith only [isi_ns]; exact fin _ _ (by simp)
    | int => try simp_arith only [isi_is]; exact fin _ _ (by simp)
    | str => try simp_arith only [isi_ss]; exact fin _ _ (by simp)
    | tup => try simp_arith only [isi_ts]; exact fin _ _ (by simp)
  | tup hlen hys =>
    rename_i d' ys
    try simp_arith only [ev_isN, isN, isi_tt, fTru_bl]
    cases hx with
    | bl _ c => try simp_arith only [isi_bt, fTru_bl]; exact fin _ _ (by simp)
    | non => try simp_arith only [isi_nt, fTru_bl]; exact fin _ _ (by simp)
    | int => try simp_arith only [isi_it, fTru_bl]; exact fin _ _ (by simp)
    | str => try simp_arith only [isi_st, fTru_bl]; exact fin _ _ (by simp)
    | tup hxl hxs =>
      rename_i e' xs
      try simp_arith only [isi_tt, fTru_bl]
      by_cases hl : (xs.length : Int) = (ys.length : Int)
      · rw [decide_eq_true hl]
        try simp_arith only []
        · rw [range1_ev _ _ (by omega)]
          try simp_arith only [rangeT_0]
          refine ok_for (fun k τ S => S = [] ∧ (∃ z : Option T, τ = [some (.tup xs), some (.tup ys), z]) ∧ ∀ j, j < k → xs[j]? = ys[j]?) ⟨rfl, ⟨_, rfl⟩, fun j h => absurd h (Nat.not_lt_zero j)⟩ ?_ ?_
          · rintro i t τ S1 e ⟨rfl, ⟨z, rfl⟩, hj⟩
            obtain ⟨hi, e⟩ := List.getElem?_eq_some_iff.mp e
            have hi' : i < ys.length := by simpa [intsN] using hi
            have e : t = .int (i : Int) := by
              rw [← e]
              simp [intsN]
            subst e
            have hix : i < xs.length := by omega
            refine ⟨_, bindP_nm _ _ _, ?_⟩
            try simp_arith only []
            rw [atI_in _ _ (by omega) (by omega), atI_in _ _ (by omega) (by omega)]
            rw [Int.toNat_natCast, List.getElem?_eq_getElem hix, List.getElem?_eq_getElem hi']
            try simp_arith only []
            refine ih rfl (hxs _ (List.getElem_mem hix)) (hys _ (List.getElem_mem hi')) fun b hbb => ?_
            try simp_arith only [fTru_bl]
            cases b with
            | true =>
              try simp_arith only [forQ]
              refine ⟨trivial, ⟨_, rfl⟩, fun j h => ?_⟩
              by_cases hji : j = i
              · rw [hji, List.getElem?_eq_getElem hix, List.getElem?_eq_getElem hi', hbb.mp rfl]
              · exact hj j (by omega)
            | false =>
              try simp_arith only [forQ]
              refine fin _ _ ⟨fun h => (nomatch h), fun h => ?_⟩
              injection h with h
              subst h
              exact absurd (hbb.mpr rfl) Bool.false_ne_true
          · rintro τ S1 ⟨rfl, ⟨z, rfl⟩, hj⟩
            try simp_arith only []
            refine fin _ _ ⟨fun _ => ?_, fun _ => rfl⟩
            congr 1
            apply List.ext_getElem?
            intro j
            by_cases hjl : j < ys.length
            · exact hj j (by simpa [intsN] using hjl)
            · rw [List.getElem?_eq_none (by omega), List.getElem?_eq_none (by omega)]
      · rw [decide_eq_false hl]
        try simp_arith only []
        refine fin _ _ ⟨fun h => (nomatch h), fun h => ?_⟩
        injection h with h
        rw [h] at hl
        exact absurd rfl hl
theorem same_ok : ∀ {d : Nat} {x y : T} {e : Nat} {S : Sto} {Q : T → Sto → Prop}, Pl e x → Pl d y → (∀ b : Bool, (b = true ↔ x = y) → Q (.bl b) S) → Ok (F__law_same (d + 1) [x, y] S) Q
  | 0, _, _, _, _, _, hx, hy, h => same_step (fun e _ _ _ => by cases e) hx hy h
  | d + 1, _, _, _, _, _, hx, hy, h => same_step (fun e hx hy h => by cases e; exact same_ok hx hy h) hx hy h
/-! slices -/
theorem cut_to (xs : List T) {i : Int} (h : 0 ≤ i) : cutT xs none (some i) = xs.take i.toNat := by
  obtain ⟨n, rfl⟩ := Int.eq_ofNat_of_zero_le h
  unfold cutT
  rw [HT.sIx_none, HT.sIx_nat, List.drop_zero, Nat.sub_zero, Int.toNat_natCast]
  rcases Nat.le_total n xs.length with c | c
  · rw [Nat.min_eq_left c]
  · rw [Nat.min_eq_right c, List.take_of_length_le (Nat.le_refl _), List.take_of_length_le c]
theorem cut_from (xs : List T) {i : Int} (h : 0 ≤ i) : cutT xs (some i) none = xs.drop i.toNat := by
  obtain ⟨n, rfl⟩ := Int.eq_ofNat_of_zero_le h
  unfold cutT
  rw [HT.sIx_none, HT.sIx_nat, Int.toNat_natCast]
  rcases Nat.le_total n xs.length with c | c
  · rw [Nat.min_eq_left c, List.take_of_length_le (by rw [List.length_drop]; exact Nat.le_refl _)]
  · rw [Nat.min_eq_right c, List.drop_length, List.drop_eq_nil_of_le c, List.take_nil]
theorem cut_mid (xs : List T) {i j : Int} (h : 0 ≤ i) (hj : 0 ≤ j) : cutT xs (some i) (some j) = (xs.drop i.toNat).take (j.toNat - i.toNat) := by
  obtain ⟨n, rfl⟩ := Int.eq_ofNat_of_zero_le h
  obtain ⟨m, rfl⟩ := Int.eq_ofNat_of_zero_le hj
  unfold cutT
  rw [HT.sIx_nat, HT.sIx_nat, Int.toNat_natCast, Int.toNat_natCast]
  rcases Nat.le_total n xs.length with c | c
  · rw [Nat.min_eq_left c]
    rcases Nat.le_total m xs.length with c2 | c2
    · rw [Nat.min_eq_left c2]
    · rw [Nat.min_eq_right c2, List.take_of_length_le (by rw [List.length_drop]; exact Nat.le_refl _), List.take_of_length_le (by rw [List.length_drop]; omega)]
  · rw [Nat.min_eq_right c, List.drop_length, List.drop_eq_nil_of_le c, List.take_nil, List.take_nil]
theorem ev_slL (xs : List T) (lo hi : Option Int) (S : Sto) : fSlA true (.lst xs) lo hi S = .ok (.lst (cutT xs lo hi)) S := id rfl
theorem ev_slT (xs : List T) (lo hi : Option Int) (S : Sto) : fSlA true (.tup xs) lo hi S = .ok (.tup (cutT xs lo hi)) S := id rfl
theorem atI_strs {ns : List Str} {i : Int} (h0 : 0 ≤ i) (h : i < ns.length) : L2.atI (ns.map T.str) i = some (.str (ns.getD i.toNat "")) := by
  have hi : i.toNat < ns.length := by omega
  rw [atI_in _ _ h0 (by rw [List.length_map]; exact h), List.getElem?_map, List.getElem?_eq_getElem hi, List.getD_eq_getElem?_getD, List.getElem?_eq_getElem hi]
  rfl
/-- the same, kept from being looked into -/
@[irreducible] def OkI {α : Type} (r : R α) (Q : α → Sto → Prop) : Prop := Ok r Q
theorem okI_eq {α : Type} (r : R α) (Q : α → Sto → Prop) : OkI r Q = Ok r Q := by unfold OkI; rfl
/-! texts, sign by sign -/
theorem ok_iterW {c : Fx.Env → Sto → R Bool} {b : Fx.Env → Sto → R Fl} {Q : Fl → Sto → Prop} (I : Nat → Fx.Env → Sto → Prop)
    (hs : ∀ m τ S, I m τ S → Ok (c τ S) fun k S1 => if k = true then Ok (b τ S1) (forQ (fun τ2 S2 => ∃ m', m' < m ∧ I m' τ2 S2) Q) else Q (.nx τ) S1) : ∀ (n m : Nat) (τ : Fx.Env) (S : Sto), m < n → I m τ S → Ok (iterW c b n τ S) Q
  | 0, _, _, _, h, _ => absurd h (Nat.not_lt_zero _)
  | n + 1, m, τ, S, h, i => by
    unfold iterW
    rw [Ok_bind]
    refine (hs m τ S i).mono fun k S1 q => ?_
    cases k with
    | false => exact q
    | true =>
      rw [if_pos rfl] at q ⊢
      rw [Ok_bind]
      refine q.mono fun f S2 q2 => ?_
      cases f with
      | nx τ2 =>
        obtain ⟨m', hm, q2⟩ := q2
        exact ok_iterW I hs n m' τ2 S2 (by omega) q2
      | ct τ2 =>
        obtain ⟨m', hm, q2⟩ := q2
        exact ok_iterW I hs n m' τ2 S2 (by omega) q2
      | bk τ2 => exact q2
      | rt t => exact q2
theorem ok_while {c : Fx.Env → Sto → R Bool} {b : Fx.Env → Sto → R Fl} {Q : Fl → Sto → Prop} {τ : Fx.Env} {S : Sto} (I : Nat → Fx.Env → Sto → Prop) (m : Nat) (h0 : I m τ S)
    (hs : ∀ m τ S, I m τ S → Ok (c τ S) fun k S1 => if k = true then Ok (b τ S1) (forQ (fun τ2 S2 => ∃ m', m' < m ∧ I m' τ2 S2) Q) else Q (.nx τ) S1) : Ok (sWhile c b τ S) Q := by
  have h := ok_iterW I hs (m + 1) m τ S (Nat.lt_succ_self _) h0
  obtain ⟨a, S1, e, q⟩ := h.get
  rw [sWhile_of e (by intro x; cases x)]
  exact q
theorem ev_aug (i : Nat) (f : T → T → Sto → R T) (a : Fx.Env → Sto → R T) (τ : Fx.Env) (S : Sto) : sAug i f a τ S = (mVar i τ S).bind fun x S0 => (a τ S0).bind fun y S1 => (f x y S1).bind fun z S2 => .ok (.nx (τ.set i (some z))) S2 := id rfl
theorem ev_ipadd (i j : Int) (S : Sto) : fIpadd (.int i) (.int j) S = .ok (.int (i + j)) S := id rfl
theorem ev_asg (p : Pat) (a : Fx.Env → Sto → R T) (τ : Fx.Env) (S : Sto) : sAsg p a τ S = (a τ S).bind fun x S1 => match bindP p x τ with
  | some τ1 => .ok (.nx τ1) S1
  | none => .bad := id rfl
theorem bindP_two (i j : Nat) (a b : T) (τ : Fx.Env) : bindP (.tp [.nm i, .nm j]) (.tup [a, b]) τ = some ((τ.set i (some a)).set j (some b)) := by
  rw [bindP, bindPs, bindP, Option.bind_some, bindPs, bindP, Option.bind_some, bindPs]
theorem ev_brk (τ : Fx.Env) (S : Sto) : sBreak τ S = .ok (.bk τ) S := id rfl
theorem ev_cnt (τ : Fx.Env) (S : Sto) : sCont τ S = .ok (.ct τ) S := id rfl
theorem ev_while (c : Fx.Env → Sto → R Bool) (b : Fx.Env → Sto → R Fl) (τ : Fx.Env) (S : Sto) : sSeq (sWhile c b) sNext τ S = sSeq (sWhile c b) sNext τ S := rfl
/-- the sign at a place -/
def sgn (c : Nat) : Str := ⟨#[c]⟩
def at_ (x : Str) (p : Nat) : Nat := (cs x).getD p 0
def tx (l : List Nat) : Str := ⟨l.toArray⟩
theorem cs_tx (l : List Nat) : cs (tx l) = l := rfl
theorem tx_cs (x : Str) : tx (cs x) = x := cs_inj rfl
theorem ix_at {x : Str} {p : Nat} (h : p < x.length) (hl : x.length ≤ 1000000) (S : Sto) : fIx (.str x) (.int (p : Int)) S = .ok (.str (sgn (at_ x p))) S := by
  show (match L2.atI (cs x) (p : Int) with
      | some c => if x.length ≤ 1000000 then R.ok (T.str ⟨#[c]⟩) S else .bad
      | none => .bad) = _
  have hp : p < (cs x).length := by rw [cs_len]; exact h
  rw [atI_in _ _ (by omega) (by omega), Int.toNat_natCast, List.getElem?_eq_getElem hp]
  dsimp only
  rw [if_pos hl]
  unfold sgn at_
  rw [List.getD_eq_getElem?_getD, List.getElem?_eq_getElem hp]
  rfl
theorem in_sgn (c : Nat) (z : Str) (S : Sto) : fIn false (.str (sgn c)) (.str z) S = .ok (.bl (decide (c ∈ cs z))) S := by
  show R.ok (T.bl (inS (sgn c) z)) S = _
  rw [inS_one (n := c) rfl]
  rfl
theorem ni_sgn (c : Nat) (z : Str) (S : Sto) : fIn true (.str (sgn c)) (.str z) S = .ok (.bl (!decide (c ∈ cs z))) S := by
  show R.ok (T.bl (!inS (sgn c) z)) S = _
  rw [inS_one (n := c) rfl]
  rfl
def seg (x : Str) (p q : Nat) : Str := tx (((cs x).drop p).take (q - p))
theorem sl_at {x : Str} {p q : Nat} (hl : x.length ≤ 1000000) (S : Sto) : fSlA true (.str x) (some (p : Int)) (some (q : Int)) S = .ok (.str (seg x p q)) S := by
  show (if x.length ≤ 1000000 then R.ok (T.str (Txt.slice x (some (p : Int)) (some (q : Int)))) S else .bad) = _
  rw [if_pos hl, ← C8.cutS_slice]
  congr 2
  unfold cutS seg tx
  congr 2
  rw [HT.sIx_nat, HT.sIx_nat]
  have e : x.cps.toList = cs x := rfl
  have l := cs_len x
  rw [e, ← l]
  rcases Nat.le_total p (cs x).length with c | c
  · rw [Nat.min_eq_left c]
    rcases Nat.le_total q (cs x).length with c2 | c2
    · rw [Nat.min_eq_left c2]
    · rw [Nat.min_eq_right c2, List.take_of_length_le (by rw [List.length_drop]; exact Nat.le_refl _), List.take_of_length_le (by rw [List.length_drop]; omega)]
  · rw [Nat.min_eq_right c, List.drop_length, List.drop_eq_nil_of_le c, List.take_nil, List.take_nil]
theorem sl_to_at {x : Str} {q : Int} (hq : 0 ≤ q) (hl : x.length ≤ 1000000) (S : Sto) : fSlA true (.str x) none (some q) S = .ok (.str (tx ((cs x).take q.toNat))) S := by
  show (if x.length ≤ 1000000 then R.ok (T.str (Txt.slice x none (some q))) S else .bad) = _
  rw [if_pos hl]
  have := SX.slice_to (a := cs x) hq
  rw [show SX.S (cs x) = x from tx_cs x] at this
  rw [this]
  rfl
/-- where a run ends -/
def endR (P : Nat → Bool) (x : Str) (p : Nat) : Nat := p + (((cs x).drop p).takeWhile P).length
theorem drop_at {x : Str} {p : Nat} (h : p < x.length) : (cs x).drop p = at_ x p :: (cs x).drop (p + 1) := by
  have hp : p < (cs x).length := by rw [cs_len]; exact h
  rw [List.drop_eq_getElem_cons hp]
  unfold at_
  rw [List.getD_eq_getElem?_getD, List.getElem?_eq_getElem hp]
  rfl
theorem endR_end {P : Nat → Bool} {x : Str} {p : Nat} (h : x.length ≤ p) : endR P x p = p := by
  unfold endR
  rw [List.drop_eq_nil_of_le (by rw [cs_len]; exact h)]
  rfl
theorem endR_go {P : Nat → Bool} {x : Str} {p : Nat} (h : p < x.length) (hP : P (at_ x p) = true) : endR P x p = endR P x (p + 1) := by
  unfold endR
  rw [drop_at h, List.takeWhile_cons, if_pos hP, List.length_cons]
  omega
theorem endR_stop {P : Nat → Bool} {x : Str} {p : Nat} (h : p < x.length) (hP : P (at_ x p) = false) : endR P x p = p := by
  unfold endR
  rw [drop_at h, List.takeWhile_cons, if_neg (by rw [hP]; exact Bool.false_ne_true)]
  rfl
theorem endR_ge {P : Nat → Bool} {x : Str} {p : Nat} : p ≤ endR P x p := Nat.le_add_right _ _
theorem endR_le {P : Nat → Bool} {x : Str} {p : Nat} (h : p ≤ x.length) : endR P x p ≤ x.length := by
  unfold endR
  have h1 : (((cs x).drop p).takeWhile P).length ≤ ((cs x).drop p).length := (List.takeWhile_sublist _).length_le
  rw [List.length_drop, cs_len] at h1
  omega
theorem seg_run {P : Nat → Bool} {x : Str} {p : Nat} : cs (seg x p (endR P x p)) = ((cs x).drop p).takeWhile P := by
  unfold seg endR
  rw [cs_tx, Nat.add_sub_cancel_left]
  exact (List.prefix_iff_eq_take.mp (List.takeWhile_prefix P)).symm
theorem seg_len {x : Str} {p q : Nat} (h : p ≤ q) (hq : q ≤ x.length) : (seg x p q).length = q - p := by
  rw [← cs_len]
  unfold seg
  rw [cs_tx, List.length_take, List.length_drop, cs_len]
  omega
theorem ev_lenS' {x : Str} (h : x.length ≤ 1000000) (S : Sto) : fLen [.str x] S = .ok (.int x.length) S := by rw [ev_lenS, if_pos h]
theorem run_end_ok {x z : Str} {p : Nat} {S : Sto} {Q : T → Sto → Prop} (hp : p ≤ x.length) (hl : x.length ≤ 1000000) (h : Q (.int (endR (fun c => decide (c ∈ cs z)) x p : Nat)) S) : Ok (F__run_end [.str x, .int (p : Int), .str z] S) Q := by
  unfold F__run_end
  refine ok_frame0 (by simp) (ok_run ?_)
  unfold B__run_end
  try simp_arith only []
  generalize hP : (fun c => decide (c ∈ cs z)) = P at h
  refine ok_while (fun m τ S => ∃ q : Nat, τ = [some (.str x), some (.int (p : Int)), some (.str z), some (.int (q : Int))] ∧ S = [] ∧ q ≤ x.length ∧ endR P x q = endR P x p ∧ m = x.length - q) _ ⟨p, rfl, rfl, hp, rfl, rfl⟩ ?_
  rintro m τ S1 ⟨q, rfl, rfl, hq, he, rfl⟩
  try simp_arith only [ev_lenS' hl]
  by_cases c : (q : Int) < (x.length : Int)
  · have c' : q < x.length := by omega
    try simp_arith only [decide_eq_true c, ix_at c' hl, in_sgn]
    by_cases k : at_ x q ∈ cs z
    · try simp_arith only [decide_eq_true k, ev_aug, ev_ipadd, forQ]
      refine ⟨x.length - (q + 1), by omega, q + 1, rfl, trivial, by omega, ?_, rfl⟩
      rw [← he]
      exact (endR_go c' (by rw [← hP]; exact decide_eq_true k)).symm
    · try simp_arith only [decide_eq_false k, endQ]
      rw [endR_stop c' (by rw [← hP]; exact decide_eq_false k)] at he
      rw [he]
      simpa using h
  · try simp_arith only [decide_eq_false c, endQ]
    rw [endR_end (by omega)] at he
    rw [he]
    simpa using h
/-! tokens -/
theorem range2_ev (i j : Int) (S : Sto) (h : -4611686018427387904 ≤ i ∧ i < 4611686018427387904 ∧ -4611686018427387904 ≤ j ∧ j < 4611686018427387904) : fRange2 [.int i, .int j] S = .ok ⟨rangeT i (j - i).toNat, []⟩ S := by
  show (if ((decide (-(2 ^ 62) ≤ i) && decide (i < 2 ^ 62)) && (decide (-(2 ^ 62) ≤ j) && decide (j < 2 ^ 62))) = true then R.ok (⟨rangeT i (j - i).toNat, []⟩ : Its) S else .bad) = _
  rw [if_pos (by simp only [Bool.and_eq_true, decide_eq_true_eq]; omega)]
def zL : Str := "abcdefghijklmnopqrstuvwxyz"
def zD : Str := "0123456789"
def zB : Str := " \n"
def zS : Str := "()+,-:;=[]"
def PZ (z : Str) (c : Nat) : Bool := decide (c ∈ cs z)
theorem PL_iff (c : Nat) : PZ zL c = true ↔ 97 ≤ c ∧ c ≤ 122 := by
  have e : cs zL = (List.range 26).map (97 + ·) := abc
  unfold PZ
  rw [decide_eq_true_iff, e, List.mem_map]
  constructor
  · rintro ⟨a, ha, rfl⟩
    have := List.mem_range.mp ha
    omega
  · exact fun h => ⟨c - 97, List.mem_range.mpr (by omega), by omega⟩
theorem PD_iff (c : Nat) : PZ zD c = true ↔ 48 ≤ c ∧ c ≤ 57 := by
  have e : cs zD = (List.range 10).map (48 + ·) := by decide +kernel
  unfold PZ
  rw [decide_eq_true_iff, e, List.mem_map]
  constructor
  · rintro ⟨a, ha, rfl⟩
    have := List.mem_range.mp ha
    omega
  · exact fun h => ⟨c - 48, List.mem_range.mpr (by omega), by omega⟩
theorem sgn_inj {a b : Nat} (h : sgn a = sgn b) : a = b := by
  have := congrArg cs h
  simpa [cs, sgn] using this
theorem sgn_len (a : Nat) : (sgn a).length = 1 := rfl
theorem ix_0 {x : Str} (h : 0 < x.length) (hl : x.length ≤ 1000000) (S : Sto) : fIx (.str x) (.int 0) S = .ok (.str (sgn (at_ x 0))) S := ix_at h hl S
theorem sl_two {x : Str} {p : Nat} (hl : x.length ≤ 1000000) (S : Sto) : fSlA true (.str x) (some (p : Int)) (some ((p : Int) + 2)) S = .ok (.str (seg x p (p + 2))) S := sl_at hl S
theorem int_dig {w : Str} (hd : ∀ c ∈ cs w, PZ zD c = true) (h1 : 1 ≤ w.length) (hl : w.length ≤ 640) (S : Sto) : fInt [.str w] S = .ok (.int (NumText.digitsVal (cs w))) S := by
  have e : intText? w = some ((NumText.digitsVal (cs w) : Nat) : Int) := PySem.intText_digits (fun c m => (PD_iff c).mp (hd c m)) (fun e => by
    have := cs_len w
    rw [show cs w = [] from e] at this
    simp at this
    omega) (by omega)
  show (match intText? w with
    | some n => if w.length ≤ 640 then R.ok (T.int n) S else .bad
    | none => .bad) = _
  rw [e]
  dsimp only
  rw [if_pos hl]
theorem law_stop_ok {x z : Str} {p : Nat} {S : Sto} {Q : T → Sto → Prop} (hp : p < x.length) (hl : x.length ≤ 1000000) (hz : (if at_ x p ∈ cs zL then zL else zD) = z) (h : Q (.int (endR (PZ z) x (p + 1) : Nat)) S) : Ok (F__law_stop [.str x, .int (p : Int)] S) Q := by
  unfold F__law_stop
  refine ok_frame0 (by simp) ?_
  generalize hB : B__law_stop = B
  refine ok_run ?_
  subst hB
  unfold B__law_stop
  have fin : Ok ((sSeq (sFor (mItN fRange2 (mCons (mBin (fAddA true) (mVar 1) (mC (.int 1))) (mCons (mFn fLen (mCons (mVar 0) mNil)) mNil))) (.nm 3)
    (sIf (mTst (mBin (fIn true) (mBin fIx (mVar 0) (mVar 3)) (mVar 2)))
    (sRet (mVar 3))
    sNext))
    (sRet (mFn fLen (mCons (mVar 0) mNil)))) [some (.str x), some (.int (p : Int)), some (.str z), none] []) (endQ fun t S1 => Fx.cl 0 (thaw 0 true t S1) = true ∧ Q (thaw 0 true t S1) S) := by
    try simp_arith only [ev_lenS' hl]
    rw [range2_ev _ _ _ (by omega)]
    try simp_arith only []
    refine ok_for (fun k τ S => ∃ y : Option T, τ = [some (.str x), some (.int (p : Int)), some (.str z), y] ∧ S = [] ∧ endR (PZ z) x (p + 1 + k) = endR (PZ z) x (p + 1)) ⟨_, rfl, rfl, rfl⟩ ?_ ?_
    · rintro i u τ S1 e ⟨y, rfl, rfl, he⟩
      obtain ⟨hi, rfl⟩ := rangeT_at e
      refine ⟨_, bindP_nm _ _ _, ?_⟩
      have ei : ((p : Int) + 1 + (i : Int)) = ((p + 1 + i : Nat) : Int) := by omega
      have hi' : p + 1 + i < x.length := by omega
      rw [ei]
      try simp_arith only [ix_at hi' hl, ni_sgn]
      by_cases k : at_ x (p + 1 + i) ∈ cs z
      · try simp_arith only [decide_eq_true k, forQ]
        exact ⟨_, rfl, trivial, by rw [← he, endR_go hi' (decide_eq_true k)]; rfl⟩
      · try simp_arith only [decide_eq_false k, forQ, endQ]
        rw [endR_stop hi' (decide_eq_false k)] at he
        rw [he]
        simpa using h
    · rintro τ S1 ⟨y, rfl, rfl, he⟩
      rw [rangeT_length] at he
      try simp_arith only [ev_lenS' hl, endQ]
      have e2 : p + 1 + ((x.length : Int) - ((p : Int) + 1)).toNat = x.length := by omega
      rw [e2, endR_end (Nat.le_refl _)] at he
      rw [he]
      simpa using h
  try simp_arith only [ix_at hp hl]
  refine letters_ok ?_
  try simp_arith only [in_sgn]
  by_cases c : at_ x p ∈ cs zL
  · rw [if_pos c] at hz
    try simp_arith only [show decide (at_ x p ∈ cs ("abcdefghijklmnopqrstuvwxyz" : Str)) = true from decide_eq_true c]
    refine letters_ok ?_
    subst hz
    try simp_arith only [] at fin ⊢
    exact fin
  · rw [if_neg c] at hz
    try simp_arith only [show decide (at_ x p ∈ cs ("abcdefghijklmnopqrstuvwxyz" : Str)) = false from decide_eq_false c]
    subst hz
    try simp_arith only [] at fin ⊢
    exact fin
/-- the token at a place: kind, value, length -/
def badK : Str × T × Nat := ("invalid", .str "", 0)
def tokK (x : Str) (p : Nat) : Str × T × Nat :=
  if at_ x p ∈ cs zL then
    if seg x p (endR (PZ zL) x p) ∈ resv then ("word", .str (seg x p (endR (PZ zL) x p)), (seg x p (endR (PZ zL) x p)).length)
    else if (seg x p (endR (PZ zL) x p)).length < 13 then ("name", .str (seg x p (endR (PZ zL) x p)), (seg x p (endR (PZ zL) x p)).length) else badK
  else if at_ x p ∈ cs zD then
    if (seg x p (endR (PZ zD) x p)).length = 1 ∨ ((seg x p (endR (PZ zD) x p)).length < 5 ∧ sgn (at_ (seg x p (endR (PZ zD) x p)) 0) ≠ "0") then ("number", .int (NumText.digitsVal (cs (seg x p (endR (PZ zD) x p)))), (seg x p (endR (PZ zD) x p)).length) else badK
  else if seg x p (p + 2) = ">=" then ("symbol", .str ">=", 2)
  else if at_ x p ∈ cs zS then ("symbol", .str (sgn (at_ x p)), 1) else badK
theorem seg_all {P : Nat → Bool} {x : Str} {p : Nat} : ∀ c ∈ cs (seg x p (endR P x p)), P c = true := fun c m => by
  rw [seg_run] at m
  have := List.all_takeWhile (l := (cs x).drop p) (p := P)
  exact List.all_eq_true.mp this c m
theorem law_token_ok {x : Str} {p : Nat} {S : Sto} {Q : T → Sto → Prop} (hp : p < x.length) (hl : x.length ≤ 1000000) (h : Q (.tup [.str (tokK x p).1, (tokK x p).2.1, .int ((tokK x p).2.2 : Nat)]) S) : Ok (F__law_token [.str x, .int (p : Int)] S) Q := by
  unfold F__law_token
  refine ok_frame0 (by simp) ?_
  generalize hB : B__law_token = B
  refine ok_run ?_
  subst hB
  unfold B__law_token
  have fin : ∀ (k : Str) (v : T) (n : Nat) (S1 : Sto), tokK x p = (k, v, n) → (∃ i, v = .int i) ∨ (∃ z, v = .str z) → endQ (fun t S1 => Fx.cl 0 (thaw 0 true t S1) = true ∧ Q (thaw 0 true t S1) S) (.rt (.tup [.str k, v, .int n])) S1 := fun k v n S1 e hv => by
    rw [e] at h
    refine ⟨?_, by rw [thaw_tup]; exact h⟩
    rw [thaw_tup]
    rcases hv with ⟨i, rfl⟩ | ⟨z, rfl⟩ <;> simp
  try simp_arith only [ix_at hp hl]
  refine letters_ok ?_
  try simp_arith only [in_sgn]
  by_cases c : at_ x p ∈ cs zL
  · have hgo : endR (PZ zL) x (p + 1) = endR (PZ zL) x p := (endR_go hp (decide_eq_true c)).symm
    have hle := endR_le (P := PZ zL) (x := x) (p := p) (by omega)
    have hwl : (seg x p (endR (PZ zL) x p)).length ≤ 1000000 := by
      rw [seg_len endR_ge hle]
      omega
    unfold tokK at fin
    rw [if_pos c] at fin
    try simp_arith only [show decide (at_ x p ∈ cs ("abcdefghijklmnopqrstuvwxyz" : Str)) = true from decide_eq_true c]
    refine law_stop_ok hp hl (if_pos c) ?_
    rw [hgo]
    try simp_arith only [sl_at hl]
    generalize seg x p (endR (PZ zL) x p) = w at hwl fin ⊢
    refine reserved_ok ?_
    rw [in_ev (y := .lst (resv.map T.str)) (xs := resv) rfl (fun z e => nomatch e)]
    by_cases k : w ∈ resv
    · rw [if_pos k] at fin
      try simp_arith only [decide_eq_true k, ev_lenS' hwl, hwl]
      exact fin _ _ _ _ rfl (.inr ⟨_, rfl⟩)
    · rw [if_neg k] at fin
      try simp_arith only [decide_eq_false k, ev_lenS' hwl, hwl]
      by_cases k2 : w.length < 13
      · rw [if_pos k2] at fin
        try simp_arith only [decide_eq_true (show (w.length : Int) < 13 by omega), ev_lenS' hwl, hwl]
        exact fin _ _ _ _ rfl (.inr ⟨_, rfl⟩)
      · rw [if_neg k2] at fin
        try simp_arith only [decide_eq_false (show ¬ (w.length : Int) < 13 by omega), hwl]
        exact fin _ _ _ _ rfl (.inr ⟨_, rfl⟩)
  · unfold tokK at fin
    rw [if_neg c] at fin
    try simp_arith only [show decide (at_ x p ∈ cs ("abcdefghijklmnopqrstuvwxyz" : Str)) = false from decide_eq_false c, ix_at hp hl, in_sgn]
    by_cases d : at_ x p ∈ cs zD
    · have hgo : endR (PZ zD) x (p + 1) = endR (PZ zD) x p := (endR_go hp (decide_eq_true d)).symm
      have hle := endR_le (P := PZ zD) (x := x) (p := p) (by omega)
      have hge := endR_ge (P := PZ zD) (x := x) (p := p + 1)
      have hl2 := seg_len (x := x) (endR_ge (P := PZ zD) (x := x) (p := p)) hle
      have hwl : (seg x p (endR (PZ zD) x p)).length ≤ 1000000 := by omega
      have hw1 : 1 ≤ (seg x p (endR (PZ zD) x p)).length := by omega
      have hall := seg_all (P := PZ zD) (x := x) (p := p)
      rw [if_pos d] at fin
      try simp_arith only [show decide (at_ x p ∈ cs ("0123456789" : Str)) = true from decide_eq_true d]
      refine law_stop_ok hp hl (if_neg c) ?_
      rw [hgo]
      try simp_arith only [sl_at hl]
      generalize seg x p (endR (PZ zD) x p) = w at hwl hw1 hall fin ⊢
      try simp_arith only [ev_lenS' hwl, hwl]
      by_cases k1 : w.length = 1
      · rw [if_pos (.inl k1)] at fin
        try simp_arith only [decide_eq_true (show (w.length : Int) = 1 by omega), int_dig hall hw1 (by omega), ev_lenS' hwl, hwl]
        exact fin _ _ _ _ rfl (.inl ⟨_, rfl⟩)
      · try simp_arith only [decide_eq_false (show ¬ (w.length : Int) = 1 by omega), ev_lenS' hwl, hwl]
        by_cases k2 : w.length < 5
        · try simp_arith only [decide_eq_true (show (w.length : Int) < 5 by omega), ix_0 hw1 hwl, hwl]
          by_cases k3 : sgn (at_ w 0) = "0"
          · rw [if_neg (by rintro (q | q); exact k1 q; exact q.2 k3)] at fin
            try simp_arith only [decide_eq_true k3]
            exact fin _ _ _ _ rfl (.inr ⟨_, rfl⟩)
          · rw [if_pos (.inr ⟨k2, k3⟩)] at fin
            try simp_arith only [decide_eq_false k3, int_dig hall hw1 (by omega), ev_lenS' hwl, hwl]
            exact fin _ _ _ _ rfl (.inl ⟨_, rfl⟩)
        · rw [if_neg (by rintro (q | q); exact k1 q; exact k2 q.1)] at fin
          try simp_arith only [decide_eq_false (show ¬ (w.length : Int) < 5 by omega), hwl]
          exact fin _ _ _ _ rfl (.inr ⟨_, rfl⟩)
    · rw [if_neg d] at fin
      try simp_arith only [show decide (at_ x p ∈ cs ("0123456789" : Str)) = false from decide_eq_false d, sl_two hl]
      by_cases k : seg x p (p + 2) = ">="
      · rw [if_pos k] at fin
        try simp_arith only [decide_eq_true k]
        exact fin _ _ _ _ rfl (.inr ⟨_, rfl⟩)
      · rw [if_neg k] at fin
        try simp_arith only [decide_eq_false k, ix_at hp hl, in_sgn]
        by_cases k2 : at_ x p ∈ cs zS
        · rw [if_pos k2] at fin
          try simp_arith only [show decide (at_ x p ∈ cs ("()+,-:;=[]" : Str)) = true from decide_eq_true k2, ix_at hp hl]
          exact fin _ _ _ _ rfl (.inr ⟨_, rfl⟩)
        · rw [if_neg k2] at fin
          try simp_arith only [show decide (at_ x p ∈ cs ("()+,-:;=[]" : Str)) = false from decide_eq_false k2]
          exact fin _ _ _ _ rfl (.inr ⟨_, rfl⟩)
/-! the tokens of a text -/
def tokT (p : Nat) (k : Str) (v : T) : T := .tup [.int (p : Int), .str k, v]
inductive Tk (x : Str) : Nat → List T → Prop
  | fin {p : Nat} : x.length ≤ p → Tk x p [tokT x.length "end" (.str "")]
  | blank {p : Nat} {ts : List T} : p < x.length → at_ x p ∈ cs zB → Tk x (p + 1) ts → Tk x p ts
  | bad {p : Nat} : p < x.length → at_ x p ∉ cs zB → (tokK x p).1 = "invalid" → Tk x p [tokT p (tokK x p).1 (tokK x p).2.1]
  | tok {p : Nat} {ts : List T} : p < x.length → at_ x p ∉ cs zB → (tokK x p).1 ≠ "invalid" → Tk x (p + (tokK x p).2.2) ts → Tk x p (tokT p (tokK x p).1 (tokK x p).2.1 :: ts)
theorem Tk.uniq {x : Str} {p : Nat} {ts us : List T} (h : Tk x p ts) (h' : Tk x p us) : ts = us := by
  induction h generalizing us with
  | fin h1 => cases h' with
    | fin _ => rfl
    | blank a _ _ => omega
    | bad a _ _ => omega
    | tok a _ _ _ => omega
  | blank h1 h2 h3 ih => cases h' with
    | fin _ => omega
    | blank _ _ c => exact ih c
    | bad _ b _ => exact absurd h2 b
    | tok _ b _ _ => exact absurd h2 b
  | bad h1 h2 h3 => cases h' with
    | fin _ => omega
    | blank _ b _ => exact absurd b h2
    | bad _ _ _ => rfl
    | tok _ _ c _ => exact absurd h3 c
  | tok h1 h2 h3 h4 ih => cases h' with
    | fin _ => omega
    | blank _ b _ => exact absurd b h2
    | bad _ _ c => exact absurd c h3
    | tok _ _ _ d => rw [ih d]
theorem tokK_val (x : Str) (p : Nat) : (∃ i, (tokK x p).2.1 = .int i) ∨ ∃ z, (tokK x p).2.1 = .str z := by
  unfold tokK badK
  repeat' split
  all_goals first | exact .inl ⟨_, rfl⟩ | exact .inr ⟨_, rfl⟩
theorem tokT_pl {x : Str} {p q : Nat} {k : Str} : Pl 1 (tokT q k (tokK x p).2.1) := by
  refine .tup (by simp) fun t m => ?_
  simp only [List.mem_cons, List.not_mem_nil, or_false] at m
  rcases m with rfl | rfl | rfl
  · exact .int _ _
  · exact .str _ _
  · rcases tokK_val x p with ⟨i, e⟩ | ⟨z, e⟩ <;> rw [e]
    · exact .int _ _
    · exact .str _ _
theorem Tk.pl {x : Str} {p : Nat} {ts : List T} (h : Tk x p ts) : ∀ t ∈ ts, Pl 1 t := by
  induction h with
  | fin h1 =>
    intro t m
    rw [List.mem_singleton.mp m]
    refine .tup (by simp) fun t m => ?_
    simp only [List.mem_cons, List.not_mem_nil, or_false] at m
    rcases m with rfl | rfl | rfl
    · exact .int _ _
    · exact .str _ _
    · exact .str _ _
  | blank _ _ _ ih => exact ih
  | bad _ _ _ =>
    intro t m
    rw [List.mem_singleton.mp m]
    exact tokT_pl
  | tok _ _ _ _ ih =>
    intro t m
    rcases List.mem_cons.mp m with rfl | m
    · exact tokT_pl
    · exact ih t m
theorem tokK_len {x : Str} {p : Nat} (hp : p < x.length) (hv : (tokK x p).1 ≠ "invalid") : 1 ≤ (tokK x p).2.2 ∧ p + (tokK x p).2.2 ≤ x.length := by
  have run : ∀ P : Nat → Bool, P (at_ x p) = true → 1 ≤ (seg x p (endR P x p)).length ∧ p + (seg x p (endR P x p)).length ≤ x.length := fun P hP => by
    have h1 := endR_le (P := P) (x := x) (p := p) (by omega)
    have h2 := endR_go hp hP
    have h3 := endR_ge (P := P) (x := x) (p := p + 1)
    rw [seg_len endR_ge h1]
    omega
  unfold tokK badK at hv ⊢
  by_cases c : at_ x p ∈ cs zL
  · rw [if_pos c] at hv ⊢
    have := run (PZ zL) (decide_eq_true c)
    by_cases d : seg x p (endR (PZ zL) x p) ∈ resv
    · rw [if_pos d]; exact this
    · rw [if_neg d] at hv ⊢
      by_cases e : (seg x p (endR (PZ zL) x p)).length < 13
      · rw [if_pos e]; exact this
      · rw [if_neg e] at hv; exact absurd rfl hv
  · rw [if_neg c] at hv ⊢
    by_cases c2 : at_ x p ∈ cs zD
    · rw [if_pos c2] at hv ⊢
      have := run (PZ zD) (decide_eq_true c2)
      split
      · exact this
      · rename_i e
        rw [if_neg e] at hv
        exact absurd rfl hv
    · rw [if_neg c2] at hv ⊢
      by_cases c3 : seg x p (p + 2) = ">="
      · rw [if_pos c3]
        refine ⟨by decide, ?_⟩
        have h1 : (seg x p (p + 2)).length = 2 := by rw [c3]; decide +kernel
        have h2 : (seg x p (p + 2)).length ≤ x.length - p := by
          rw [← cs_len]
          unfold seg
          rw [cs_tx, List.length_take, List.length_drop, cs_len]
          omega
        show p + 2 ≤ _
        omega
      · rw [if_neg c3] at hv ⊢
        by_cases c4 : at_ x p ∈ cs zS
        · rw [if_pos c4]
          exact ⟨Nat.le_refl _, hp⟩
        · rw [if_neg c4] at hv
          exact absurd rfl hv
theorem Tk.len {x : Str} {p : Nat} {ts : List T} (h : Tk x p ts) : p ≤ x.length → ts.length + p ≤ x.length + 1 := by
  induction h with
  | fin h1 => intro h; simp; omega
  | blank h1 _ _ ih =>
    intro _
    have := ih (by omega)
    omega
  | bad h1 _ _ => intro h; simp; omega
  | tok h1 h2 h3 h4 ih =>
    intro _
    have := tokK_len h1 h3
    have := ih (by omega)
    rw [List.length_cons]
    omega
theorem Tk.ex {x : Str} : ∀ (n p : Nat), x.length - p < n → ∃ ts, Tk x p ts
  | 0, _, h => absurd h (Nat.not_lt_zero _)
  | n + 1, p, h => by
    by_cases c : p < x.length
    · by_cases d : at_ x p ∈ cs zB
      · obtain ⟨ts, h⟩ := Tk.ex (x := x) n (p + 1) (by omega)
        exact ⟨ts, .blank c d h⟩
      · by_cases e : (tokK x p).1 = "invalid"
        · exact ⟨_, .bad c d e⟩
        · have := tokK_len c e
          obtain ⟨ts, h⟩ := Tk.ex (x := x) n (p + (tokK x p).2.2) (by omega)
          exact ⟨_, .tok c d e h⟩
    · exact ⟨_, .fin (by omega)⟩
/-- blanks ahead -/
theorem Tk.skip {x : Str} {ts : List T} : ∀ (n p : Nat), x.length - p < n → Tk x (endR (PZ zB) x p) ts → Tk x p ts
  | 0, _, h, _ => absurd h (Nat.not_lt_zero _)
  | n + 1, p, h, k => by
    by_cases c : p < x.length
    · by_cases d : at_ x p ∈ cs zB
      · rw [endR_go c (decide_eq_true d)] at k
        exact .blank c d (Tk.skip n (p + 1) (by omega) k)
      · rw [endR_stop c (decide_eq_false d)] at k
        exact k
    · rw [endR_end (by omega)] at k
      exact k
theorem endR_at {P : Nat → Bool} {x : Str} : ∀ (n p : Nat), x.length - p < n → endR P x p < x.length → P (at_ x (endR P x p)) = false
  | 0, _, h, _ => absurd h (Nat.not_lt_zero _)
  | n + 1, p, h, k => by
    by_cases c : p < x.length
    · cases d : P (at_ x p) with
      | true =>
        rw [endR_go c d] at k ⊢
        exact endR_at n (p + 1) (by omega) k
      | false =>
        rw [endR_stop c d]
        exact d
    · rw [endR_end (by omega)] at k
      omega
theorem tup_ref {S : Sto} {k : Nat} {ts : List T} (h : S[k]? = some (.lst ts)) : fTuple [.ref k] S = .ok (.tup ts) S := by
  show (match lstOf S (.ref k) with
  | some ts => R.ok (T.tup ts) S
  | none => .bad) = _
  rw [ev_lstR, h]
theorem add_refL {S : Sto} {k : Nat} {ts us : List T} (h : S[k]? = some (.lst ts)) (hl : ts.length + us.length ≤ 100000) : fAddA true (.ref k) (.lst us) S = .ok (.lst (ts ++ us)) S := by
  show fCat true (.ref k) (.lst us) S = _
  have e1 : lstD S (.ref k) = some ts := by
    show (match S[k]? with
    | some (.lst ts) => some ts
    | _ => none) = _
    rw [h]
  have e2 : lstD S (.lst us) = some us := rfl
  unfold fCat
  rw [e1, e2]
  dsimp only
  rw [if_pos hl]
  rfl
theorem Tk.cl0 {x : Str} {p : Nat} {ts : List T} (h : Tk x p ts) : Fx.cl 0 (.tup ts) = true := by
  rw [cl_tup]
  exact cls_all _ _ fun t m => (h.pl t m).cl
/-- what the law's own reading gives -/
theorem law_tokens_ok {x : Str} {S : Sto} {Q : T → Sto → Prop} (hl : x.length ≤ 50000) (h : ∀ ts, Tk x 0 ts → Q (.tup ts) S) : Ok (F__law_tokens [.str x] S) Q := by
  unfold F__law_tokens
  refine ok_frame0 (by simp) ?_
  generalize hB : B__law_tokens = B
  refine ok_run ?_
  subst hB
  unfold B__law_tokens
  have hl6 : x.length ≤ 1000000 := by omega
  have fin : ∀ (ts : List T) (S1 : Sto), Tk x 0 ts → endQ (fun t S1 => Fx.cl 0 (thaw 0 true t S1) = true ∧ Q (thaw 0 true t S1) S) (.rt (.tup ts)) S1 := fun ts S1 k => ⟨by rw [thaw_tup]; exact k.cl0, by rw [thaw_tup]; exact h ts k⟩
  try simp_arith only [ev_lenS' hl6]
  rw [range1_ev _ _ (by omega)]
  try simp_arith only [rangeT_0]
  have done : ∀ (q : Nat) (acc : List T) (y z : Option T), q = x.length → acc.length ≤ q → (∀ ts, Tk x q ts → Tk x 0 (acc ++ ts)) →
      Ok (sRet (mFn fTuple (mCons (mBin (fAddA true) (mVar 1) (mLst true (mCons (mTup (mCons (mFn fLen (mCons (mVar 0) mNil)) (mCons (mC (.str "end")) (mCons (mC (.str "")) mNil)))) mNil))) mNil)) [some (.str x), some (.ref 0), some (.int (q : Int)), y, z] [.lst acc]) (endQ fun t S1 => Fx.cl 0 (thaw 0 true t S1) = true ∧ Q (thaw 0 true t S1) S) := fun q acc y z hq ha hk => by
    try simp_arith only [ev_lenS' hl6, hl6]
    rw [add_refL rfl (by simp; omega)]
    try simp_arith only []
    subst hq
    exact fin _ _ (hk _ (.fin (Nat.le_refl _)))
  refine ok_for (fun k τ S1 => ∃ (q : Nat) (acc : List T) (y z : Option T), τ = [some (.str x), some (.ref 0), some (.int (q : Int)), y, z] ∧ S1 = [.lst acc] ∧ q ≤ x.length ∧ k ≤ q ∧ acc.length ≤ q ∧ ∀ ts, Tk x q ts → Tk x 0 (acc ++ ts)) ⟨0, [], _, _, rfl, rfl, Nat.zero_le _, Nat.zero_le _, Nat.zero_le _, fun ts k => k⟩ ?_ ?_
  · rintro i u τ S1 e ⟨q, acc, y, z, rfl, rfl, hq, hi, ha, hk⟩
    refine ⟨_, bindP_nm _ _ _, ?_⟩
    try simp_arith only [ev_lenS' hl6, hl6]
    by_cases c : (q : Int) = (x.length : Int)
    · try simp_arith only [decide_eq_true c, ev_brk, forQ, ev_lenS' hl6, hl6]
      have dn := done q acc (some u) z (by omega) ha hk
      try simp_arith only [ev_lenS' hl6, hl6] at dn
      exact dn
    · have hq' : q < x.length := by omega
      try simp_arith only [decide_eq_false c, ix_at hq' hl6, in_sgn]
      by_cases d : at_ x q ∈ cs zB
      · try simp_arith only [show decide (at_ x q ∈ cs (" \n" : Str)) = true from decide_eq_true d, forQ]
        exact ⟨q + 1, acc, _, _, rfl, rfl, by omega, by omega, by omega, fun ts k => hk ts (.blank hq' d k)⟩
      · try simp_arith only [show decide (at_ x q ∈ cs (" \n" : Str)) = false from decide_eq_false d]
        refine law_token_ok hq' hl6 ?_
        try simp_arith only []
        rw [append_ev (k := 0) rfl (by omega)]
        try simp_arith only []
        by_cases k : (tokK x q).1 = "invalid"
        · try simp_arith only [decide_eq_true k, forQ]
          rw [tup_ref rfl]
          try simp_arith only []
          exact fin _ _ (hk _ (.bad hq' d k))
        · have hle := tokK_len hq' k
          try simp_arith only [decide_eq_false k, forQ]
          exact ⟨q + (tokK x q).2.2, acc ++ [tokT q (tokK x q).1 (tokK x q).2.1], _, _, rfl, rfl, hle.2, by omega, by rw [List.length_append, List.length_singleton]; omega, fun ts t => by
            rw [List.append_assoc]
            exact hk _ (.tok hq' d k t)⟩
  · rintro τ S1 ⟨q, acc, y, z, rfl, rfl, hq, hi, ha, hk⟩
    rw [intsN_len, List.length_range] at hi
    exact done q acc y z (by omega) ha hk
/-! the program's own reading of tokens -/
theorem eL : cs_LETTERS = zL := rfl
theorem eD : cs_DIGITS = zD := rfl
theorem eB : cs_BLANKS = zB := rfl
theorem e12 : cs_LONGEST_NAME = 12 := rfl
theorem e4 : cs_MOST_DIGITS = 4 := rfl
def syms : List Str := (cs zS).map sgn ++ [(">=" : Str)]
theorem eR : cs_RESERVED = resv.map T.str := rfl
theorem eS : cs_SYMBOLS = syms.map T.str := by
  have h : syms = (["(", ")", "+", ",", "-", ":", ";", "=", "[", "]", ">="] : List Str) := by decide +kernel
  rw [h]
  rfl
theorem takeWhile_all_iff {P : Nat → Bool} : ∀ l : List Nat, (l.takeWhile P).length = l.length ↔ ∀ c ∈ l, P c = true
  | [] => by simp
  | c :: l => by
    cases h : P c with
    | true => rw [List.takeWhile_cons, if_pos h, List.length_cons, List.length_cons, Nat.add_right_cancel_iff, takeWhile_all_iff l]; simp [h]
    | false =>
      rw [List.takeWhile_cons, if_neg (by rw [h]; exact Bool.false_ne_true)]
      simp [h]
theorem endR_all {P : Nat → Bool} {x : Str} : endR P x 0 < x.length ↔ ¬ ∀ c ∈ cs x, P c = true := by
  have h1 := endR_le (P := P) (x := x) (p := 0) (Nat.zero_le _)
  have h2 := takeWhile_all_iff (P := P) (cs x)
  unfold endR at h1 ⊢
  rw [List.drop_zero, Nat.zero_add] at h1 ⊢
  rw [← h2, cs_len]
  omega
theorem low_iff {w : Str} : (∀ c ∈ cs w, PZ zL c = true) ↔ Low w := by
  unfold Low Lt
  exact ⟨fun h c m => (PL_iff c).mp (h c m), fun h c m => (PL_iff c).mpr (h c m)⟩
theorem run_end_ok' {x z : Str} {p : Nat} {S : Sto} {Q : T → Sto → Prop} (hp : p ≤ x.length) (hl : x.length ≤ 1000000) (h : Q (.int (endR (PZ z) x p : Nat)) S) : Ok (F__run_end [.str x, .int (p : Int), .str z] S) Q := run_end_ok hp hl h
theorem run_end_0 {x z : Str} {S : Sto} {Q : T → Sto → Prop} (hl : x.length ≤ 1000000) (h : Q (.int (endR (PZ z) x 0 : Nat)) S) : Ok (F__run_end [.str x, .int 0, .str z] S) Q := run_end_ok' (p := 0) (Nat.zero_le _) hl h
theorem str_nil {w : Str} : w = "" ↔ w.length = 0 := by
  constructor
  · rintro rfl
    decide +kernel
  · intro h
    apply cs_inj
    rw [cs_empty]
    exact List.eq_nil_of_length_eq_zero (by rw [cs_len]; exact h)
theorem is_name_ok {w : Str} {S : Sto} {Q : T → Sto → Prop} (hl : w.length ≤ 1000000) (h : Q (.bl (decide (Nm w))) S) : Ok (F_is_name [.str w] S) Q := by
  unfold F_is_name
  refine ok_frame0 (by simp) ?_
  generalize hB : B_is_name = B
  refine ok_run ?_
  subst hB
  unfold B_is_name
  rw [eL, e12, eR]
  have fin : ∀ (b : Bool) (S1 : Sto), b = decide (Nm w) → endQ (fun t S1 => Fx.cl 0 (thaw 0 true t S1) = true ∧ Q (thaw 0 true t S1) S) (.rt (.bl b)) S1 := fun b S1 e => by
    rw [e]
    refine ⟨by simp, by rw [thaw_bl]; exact h⟩
  have nil : ("" : Str).length = 0 := by decide +kernel
  try simp_arith only []
  by_cases c0 : w = ""
  · try simp_arith only [decide_eq_true c0]
    exact fin _ _ (decide_eq_false fun n => by
      have := n.pos
      rw [c0, nil] at this
      omega).symm
  · have c1 : 1 ≤ w.length := by
      have := mt str_nil.mpr c0
      omega
    try simp_arith only [decide_eq_false c0]
    refine run_end_0 hl ?_
    try simp_arith only [ev_lenS' hl, hl]
    by_cases c : (endR (PZ zL) w 0 : Int) < (w.length : Int)
    · try simp_arith only [decide_eq_true c]
      exact fin _ _ (decide_eq_false fun n => endR_all.mp (Int.ofNat_lt.mp c) (low_iff.mpr n.low)).symm
    · have hlow : Low w := low_iff.mp (Decidable.not_not.mp (mt endR_all.mpr (fun q => c (Int.ofNat_lt.mpr q))))
      try simp_arith only [decide_eq_false c, ev_lenS' hl, hl]
      by_cases d : (w.length : Int) ≤ 12
      · try simp_arith only [decide_eq_true d]
        rw [ni_ev (y := .tup (resv.map T.str)) (xs := resv) rfl (fun z e => nomatch e)]
        try simp_arith only []
        refine fin _ _ ?_
        by_cases k : w ∈ resv
        · rw [decide_eq_true k, decide_eq_false fun n : Nm w => n.nr k]; rfl
        · rw [decide_eq_false k, decide_eq_true (show Nm w from ⟨hlow, c1, by omega, k⟩)]; rfl
      · try simp_arith only [decide_eq_false d]
        exact fin _ _ (decide_eq_false fun n => by
          have := n.le
          omega).symm
def isNum (w : Str) : Prop := (∀ c ∈ cs w, PZ zD c = true) ∧ w.length ≤ 4 ∧ (w = "0" ∨ sgn (at_ w 0) ≠ "0")
instance (w : Str) : Decidable (isNum w) := by unfold isNum; infer_instance
theorem is_number_ok {w : Str} {S : Sto} {Q : T → Sto → Prop} (h1 : 1 ≤ w.length) (hl : w.length ≤ 1000000) (h : Q (.bl (decide (isNum w))) S) : Ok (F__is_number [.str w] S) Q := by
  unfold F__is_number
  refine ok_frame0 (by simp) ?_
  generalize hB : B__is_number = B
  refine ok_run ?_
  subst hB
  unfold B__is_number
  rw [eD, e4]
  have fin : ∀ (b : Bool) (S1 : Sto), b = decide (isNum w) → endQ (fun t S1 => Fx.cl 0 (thaw 0 true t S1) = true ∧ Q (thaw 0 true t S1) S) (.rt (.bl b)) S1 := fun b S1 e => by
    rw [e]
    refine ⟨by simp, by rw [thaw_bl]; exact h⟩
  try simp_arith only []
  refine run_end_0 hl ?_
  try simp_arith only [ev_lenS' hl, hl]
  by_cases c : (endR (PZ zD) w 0 : Int) < (w.length : Int)
  · try simp_arith only [decide_eq_true c]
    exact fin _ _ (decide_eq_false fun n => endR_all.mp (Int.ofNat_lt.mp c) n.1).symm
  · have hd : ∀ c ∈ cs w, PZ zD c = true := Decidable.not_not.mp (mt endR_all.mpr (fun q => c (Int.ofNat_lt.mpr q)))
    try simp_arith only [decide_eq_false c, ev_lenS' hl, hl]
    by_cases d : (4 : Int) < (w.length : Int)
    · try simp_arith only [decide_eq_true d]
      exact fin _ _ (decide_eq_false fun n => by
        have := n.2.1
        omega).symm
    · try simp_arith only [decide_eq_false d]
      by_cases e : w = "0"
      · try simp_arith only [decide_eq_true e]
        exact fin _ _ (decide_eq_true (show isNum w from ⟨hd, by omega, .inl e⟩)).symm
      · try simp_arith only [decide_eq_false e, ix_0 h1 hl]
        refine fin _ _ ?_
        by_cases k : sgn (at_ w 0) = "0"
        · rw [decide_eq_true k, decide_eq_false (show ¬ isNum w from fun n => n.2.2.elim e fun q => q k)]; rfl
        · rw [decide_eq_false k, decide_eq_true (show isNum w from ⟨hd, by omega, .inr k⟩)]; rfl
def kvT (w : Str) : Str × T :=
  if w ∈ resv then ("word", .str w) else if Nm w then ("name", .str w) else if isNum w then ("number", .int (NumText.digitsVal (cs w))) else if w ∈ syms then ("symbol", .str w) else ("invalid", .str "")
theorem kv_ok {w : Str} {S : Sto} {Q : T → Sto → Prop} (h1 : 1 ≤ w.length) (hl : w.length ≤ 1000000) (h : Q (.tup [.str (kvT w).1, (kvT w).2]) S) : Ok (F__kind_and_value [.str w] S) Q := by
  unfold F__kind_and_value
  refine ok_frame0 (by simp) ?_
  generalize hB : B__kind_and_value = B
  refine ok_run ?_
  subst hB
  unfold B__kind_and_value
  rw [eR, eS]
  have fin : ∀ (k : Str) (v : T) (S1 : Sto), kvT w = (k, v) → (∃ i, v = .int i) ∨ (∃ z, v = .str z) → endQ (fun t S1 => Fx.cl 0 (thaw 0 true t S1) = true ∧ Q (thaw 0 true t S1) S) (.rt (.tup [.str k, v])) S1 := fun k v S1 e hv => by
    rw [e] at h
    refine ⟨?_, by rw [thaw_tup]; exact h⟩
    rw [thaw_tup]
    rcases hv with ⟨i, rfl⟩ | ⟨z, rfl⟩ <;> simp
  unfold kvT at fin
  try simp_arith only []
  rw [in_ev (y := .tup (resv.map T.str)) (xs := resv) rfl (fun z e => nomatch e)]
  by_cases a : w ∈ resv
  · rw [if_pos a] at fin
    try simp_arith only [decide_eq_true a]
    exact fin _ _ _ rfl (.inr ⟨_, rfl⟩)
  · rw [if_neg a] at fin
    try simp_arith only [decide_eq_false a]
    refine is_name_ok hl ?_
    by_cases b : Nm w
    · rw [if_pos b] at fin
      try simp_arith only [decide_eq_true b, fTru_bl]
      exact fin _ _ _ rfl (.inr ⟨_, rfl⟩)
    · rw [if_neg b] at fin
      try simp_arith only [decide_eq_false b, fTru_bl]
      refine is_number_ok h1 hl ?_
      by_cases c : isNum w
      · rw [if_pos c] at fin
        have := c.2.1
        try simp_arith only [decide_eq_true c, fTru_bl, int_dig c.1 h1 (by omega)]
        exact fin _ _ _ rfl (.inl ⟨_, rfl⟩)
      · rw [if_neg c] at fin
        try simp_arith only [decide_eq_false c, fTru_bl]
        rw [in_ev (y := .tup (syms.map T.str)) (xs := syms) rfl (fun z e => nomatch e)]
        by_cases d : w ∈ syms
        · rw [if_pos d] at fin
          try simp_arith only [decide_eq_true d]
          exact fin _ _ _ rfl (.inr ⟨_, rfl⟩)
        · rw [if_neg d] at fin
          try simp_arith only [decide_eq_false d]
          exact fin _ _ _ rfl (.inr ⟨_, rfl⟩)
def tokE (x : Str) (p : Nat) : Nat := if at_ x p ∈ cs zL then endR (PZ zL) x p else if at_ x p ∈ cs zD then endR (PZ zD) x p else if seg x p (p + 2) = ">=" then p + 2 else p + 1
theorem forGo_cons (us : List T) (i : Nat) (b : Fx.Env → Sto → R Fl) (t : T) (ts : List T) (τ : Fx.Env) (S : Sto) : sForGo ⟨us, []⟩ (.nm i) b (t :: ts) τ S = (b (τ.set i (some t)) S).bind (stepFl (sForGo ⟨us, []⟩ (.nm i) b ts)) := by
  rw [sForGo, ifP_t (chk_nil _ _), Fx.bound, bindP_nm]
theorem forGo_nil (us : List T) (p : Pat) (b : Fx.Env → Sto → R Fl) (τ : Fx.Env) (S : Sto) : sForGo ⟨us, []⟩ p b [] τ S = .ok (.nx τ) S := by
  rw [sForGo, ifP_t (chk_nil _ _)]
theorem step_nx (go : Fx.Env → Sto → R Fl) (τ : Fx.Env) (S : Sto) : stepFl go (.nx τ) S = go τ S := rfl
theorem step_rt (go : Fx.Env → Sto → R Fl) (t : T) (S : Sto) : stepFl go (.rt t) S = .ok (.rt t) S := rfl
theorem add_two (p : Nat) : (p : Int) + 2 = ((p + 2 : Nat) : Int) := by omega
theorem add_one (p : Nat) : (p : Int) + 1 = ((p + 1 : Nat) : Int) := by omega
theorem token_end_ok {x : Str} {p : Nat} {S : Sto} {Q : T → Sto → Prop} (hp : p < x.length) (hl : x.length ≤ 1000000) (h : Q (.int (tokE x p : Nat)) S) : Ok (F__token_end [.str x, .int (p : Int)] S) Q := by
  unfold F__token_end
  refine ok_frame0 (by simp) ?_
  generalize hB : B__token_end = B
  refine ok_run ?_
  subst hB
  unfold B__token_end
  rw [eL, eD]
  have fin : ∀ (n : Nat) (S1 : Sto), tokE x p = n → endQ (fun t S1 => Fx.cl 0 (thaw 0 true t S1) = true ∧ Q (thaw 0 true t S1) S) (.rt (.int n)) S1 := fun n S1 e => by
    rw [e] at h
    exact ⟨by simp, by rw [thaw_int]; exact h⟩
  unfold tokE at fin
  try simp_arith only [forGo_cons, forGo_nil, ix_at hp hl, in_sgn]
  by_cases a : at_ x p ∈ cs zL
  · rw [if_pos a] at fin
    try simp_arith only [decide_eq_true a]
    refine run_end_ok' (by omega) hl ?_
    try simp_arith only [step_rt]
    exact fin _ _ rfl
  · rw [if_neg a] at fin
    try simp_arith only [decide_eq_false a, step_nx, forGo_cons, forGo_nil, ix_at hp hl, in_sgn]
    by_cases b : at_ x p ∈ cs zD
    · rw [if_pos b] at fin
      try simp_arith only [decide_eq_true b]
      refine run_end_ok' (by omega) hl ?_
      try simp_arith only [step_rt]
      exact fin _ _ rfl
    · rw [if_neg b] at fin
      try simp_arith only [decide_eq_false b, step_nx, forGo_nil, sl_two hl]
      by_cases c : seg x p (p + 2) = ">="
      · rw [if_pos c] at fin
        try simp_arith only [decide_eq_true c]
        rw [add_two]
        exact fin _ _ rfl
      · rw [if_neg c] at fin
        try simp_arith only [decide_eq_false c]
        rw [add_one]
        exact fin _ _ rfl
/-! both readings agree -/
theorem resv_low : ∀ w ∈ resv, Low w ∧ 1 ≤ w.length := by decide +kernel
theorem syms_not : ∀ w ∈ syms, ∀ c ∈ cs w, PZ zL c = false ∧ PZ zD c = false := by decide +kernel
theorem at_mem {w : Str} (h : 1 ≤ w.length) : at_ w 0 ∈ cs w := by
  have := cs_len w
  cases e : cs w with
  | nil => rw [e] at this; simp at this; omega
  | cons c l => unfold at_; rw [e]; simp
theorem seg_at {x : Str} {p q : Nat} (hp : p < x.length) (hq : p < q) : at_ (seg x p q) 0 = at_ x p := by
  unfold seg
  rw [drop_at hp]
  cases e : q - p with
  | zero => omega
  | succ n => rfl
theorem seg_one {x : Str} {p : Nat} (hp : p < x.length) : seg x p (p + 1) = sgn (at_ x p) := by
  unfold seg
  rw [drop_at hp, Nat.add_sub_cancel_left]
  rfl
theorem kv_tok {x : Str} {p : Nat} (hp : p < x.length) : kvT (seg x p (tokE x p)) = ((tokK x p).1, (tokK x p).2.1) ∧ ((tokK x p).1 ≠ "invalid" → tokE x p = p + (tokK x p).2.2) ∧ p < tokE x p ∧ 1 ≤ (seg x p (tokE x p)).length := by
  have run : ∀ P : Nat → Bool, P (at_ x p) = true → p < endR P x p ∧ endR P x p ≤ x.length ∧ (seg x p (endR P x p)).length = endR P x p - p := fun P hP => by
    have h1 := endR_le (P := P) (x := x) (p := p) (by omega)
    have h2 := endR_go hp hP
    have h3 := endR_ge (P := P) (x := x) (p := p + 1)
    exact ⟨by omega, h1, seg_len endR_ge h1⟩
  by_cases a : at_ x p ∈ cs zL
  · obtain ⟨r1, r2, r3⟩ := run (PZ zL) (decide_eq_true a)
    have hall := seg_all (P := PZ zL) (x := x) (p := p)
    have hat := seg_at hp r1
    unfold tokE tokK badK
    rw [if_pos a, if_pos a]
    generalize hw : seg x p (endR (PZ zL) x p) = w at r3 hall hat ⊢
    have h0 := at_mem (w := w) (by omega)
    have hlow : Low w := low_iff.mp hall
    have hl0 := hall _ h0
    unfold kvT
    by_cases b : w ∈ resv
    · rw [if_pos b, if_pos b]
      exact ⟨rfl, fun _ => by show _ = p + w.length; omega, r1, by omega⟩
    · rw [if_neg b, if_neg b]
      by_cases c : w.length < 13
      · rw [if_pos c, if_pos ⟨hlow, by omega, by omega, b⟩]
        exact ⟨rfl, fun _ => by show _ = p + w.length; omega, r1, by omega⟩
      · rw [if_neg c, if_neg fun n : Nm w => by
          have := n.le
          omega]
        rw [if_neg fun n : isNum w => by
          have := (PD_iff _).mp (n.1 _ h0)
          have := (PL_iff _).mp hl0
          omega]
        rw [if_neg fun m => by
          have := (syms_not w m _ h0).1
          rw [hl0] at this
          cases this]
        exact ⟨rfl, fun h => absurd rfl h, r1, by omega⟩
  · by_cases b : at_ x p ∈ cs zD
    · obtain ⟨r1, r2, r3⟩ := run (PZ zD) (decide_eq_true b)
      have hall := seg_all (P := PZ zD) (x := x) (p := p)
      have hat := seg_at hp r1
      unfold tokE tokK badK
      rw [if_neg a, if_neg a, if_pos b, if_pos b]
      generalize hw : seg x p (endR (PZ zD) x p) = w at r3 hall hat ⊢
      have h0 := at_mem (w := w) (by omega)
      have hl0 := hall _ h0
      have nl : ¬ Low w := fun n => by
        have := n _ h0
        unfold Lt at this
        have := (PD_iff _).mp hl0
        omega
      unfold kvT
      rw [if_neg fun m => nl (resv_low w m).1, if_neg fun n : Nm w => nl n.low]
      by_cases c : w.length = 1 ∨ (w.length < 5 ∧ sgn (at_ w 0) ≠ "0")
      · rw [if_pos c]
        have hn : isNum w := by
          refine ⟨hall, by omega, ?_⟩
          rcases c with c | c
          · by_cases z : sgn (at_ w 0) = "0"
            · refine .inl ?_
              rw [← z]
              apply cs_inj
              have l := cs_len w
              have h0' := h0
              unfold at_ at h0' ⊢
              cases e : cs w with
              | nil => rw [e] at l; simp at l; omega
              | cons d l2 =>
                rw [e] at l
                rw [List.length_cons] at l
                have : l2 = [] := List.eq_nil_of_length_eq_zero (by omega)
                rw [this]
                rfl
            · exact .inr z
          · exact .inr c.2
        rw [if_pos hn]
        exact ⟨rfl, fun _ => by show _ = p + w.length; omega, r1, by omega⟩
      · rw [if_neg c, if_neg fun n : isNum w => by
          rcases n.2.2 with e | e
          · refine c (.inl ?_)
            rw [e]
            decide +kernel
          · exact c (.inr ⟨by have := n.2.1; omega, e⟩)]
        rw [if_neg fun m => by
          have := (syms_not w m _ h0).2
          rw [hl0] at this
          cases this]
        exact ⟨rfl, fun h => absurd rfl h, r1, by omega⟩
    · unfold tokE tokK badK
      rw [if_neg a, if_neg a, if_neg b, if_neg b]
      by_cases c : seg x p (p + 2) = ">="
      · rw [if_pos c, if_pos c, c]
        have l2 : (">=" : Str).length = 2 := by decide +kernel
        refine ⟨?_, fun _ => rfl, by omega, by rw [l2]; decide⟩
        unfold kvT
        rw [if_neg (by decide +kernel), if_neg (by decide +kernel), if_neg (by decide +kernel), if_pos (by decide +kernel)]
      · rw [if_neg c, if_neg c, seg_one hp]
        have nL : PZ zL (at_ x p) = false := decide_eq_false a
        have nD : PZ zD (at_ x p) = false := decide_eq_false b
        have hm : ∀ c ∈ cs (sgn (at_ x p)), c = at_ x p := fun c m => List.mem_singleton.mp m
        have nl : ¬ Low (sgn (at_ x p)) := fun n => by
          have := (low_iff.mpr n) (at_ x p) (List.mem_singleton.mpr rfl)
          rw [nL] at this
          cases this
        have iS : sgn (at_ x p) ∈ syms ↔ at_ x p ∈ cs zS := by
          unfold syms
          rw [List.mem_append, List.mem_map, List.mem_singleton]
          constructor
          · rintro (⟨d, hd, e⟩ | e)
            · rw [← sgn_inj e]; exact hd
            · have := congrArg Str.length e
              rw [sgn_len] at this
              exact absurd this (by decide +kernel)
          · exact fun h => .inl ⟨_, h, rfl⟩
        unfold kvT
        rw [if_neg fun m => nl (resv_low _ m).1, if_neg fun n : Nm _ => nl n.low, if_neg fun n : isNum _ => by
          have := n.1 (at_ x p) (List.mem_singleton.mpr rfl)
          rw [nD] at this
          cases this]
        by_cases d : at_ x p ∈ cs zS
        · rw [if_pos d, if_pos (iS.mpr d)]
          exact ⟨rfl, fun _ => rfl, by omega, by rw [sgn_len]; decide⟩
        · rw [if_neg d, if_neg (mt iS.mp d)]
          exact ⟨rfl, fun h => absurd rfl h, by omega, by rw [sgn_len]; decide⟩
theorem seg_le {x : Str} {p q : Nat} : (seg x p q).length ≤ x.length := by
  rw [← cs_len, ← cs_len]
  unfold seg
  rw [cs_tx, List.length_take, List.length_drop]
  omega
theorem split_text_ok {x : Str} {S : Sto} {Q : T → Sto → Prop} (hl : x.length ≤ 50000) (h : ∀ ts, Tk x 0 ts → Q (.tup ts) S) : Ok (F_split_text [.str x] S) Q := by
  unfold F_split_text
  refine ok_frame0 (by simp) ?_
  generalize hB : B_split_text = B
  refine ok_run ?_
  subst hB
  unfold B_split_text
  rw [eB]
  have hl6 : x.length ≤ 1000000 := by omega
  have fin : ∀ (ts : List T) (S1 : Sto), Tk x 0 ts → endQ (fun t S1 => Fx.cl 0 (thaw 0 true t S1) = true ∧ Q (thaw 0 true t S1) S) (.rt (.tup ts)) S1 := fun ts S1 k => ⟨by rw [thaw_tup]; exact k.cl0, by rw [thaw_tup]; exact h ts k⟩
  try simp_arith only []
  refine run_end_0 hl6 ?_
  try simp_arith only []
  refine ok_while (fun m τ S1 => ∃ (q : Nat) (acc : List T) (u v w : Option T), τ = [some (.str x), some (.ref 0), some (.int (q : Int)), u, v, w] ∧ S1 = [.lst acc] ∧ q ≤ x.length ∧ acc.length ≤ q ∧ (q < x.length → at_ x q ∉ cs zB) ∧ (∀ ts, Tk x q ts → Tk x 0 (acc ++ ts)) ∧ m = x.length - q) _ ⟨endR (PZ zB) x 0, [], _, _, _, rfl, rfl, endR_le (Nat.zero_le _), Nat.zero_le _, fun k => of_decide_eq_false (endR_at _ 0 (Nat.lt_succ_self _) k), fun ts k => k.skip _ 0 (Nat.lt_succ_self _), rfl⟩ ?_
  rintro m τ S1 ⟨q, acc, u, v, w, rfl, rfl, hq, ha, hb, hk, rfl⟩
  try simp_arith only [ev_lenS' hl6, hl6]
  by_cases c : (q : Int) < (x.length : Int)
  · have hq' : q < x.length := by omega
    obtain ⟨k1, k2, k3, k4⟩ := kv_tok hq'
    try simp_arith only [decide_eq_true c]
    refine token_end_ok hq' hl6 ?_
    try simp_arith only [sl_at hl6, ev_asg]
    refine kv_ok k4 (Nat.le_trans seg_le hl6) ?_
    rw [k1]
    try simp_arith only [bindP_two]
    rw [append_ev (k := 0) rfl (by omega)]
    try simp_arith only []
    by_cases k : (tokK x q).1 = "invalid"
    · try simp_arith only [decide_eq_true k, forQ]
      rw [tup_ref rfl]
      try simp_arith only [forQ]
      exact fin _ _ (hk _ (.bad hq' (hb hq') k))
    · have hle := tokK_len hq' k
      have hE := k2 k
      try simp_arith only [decide_eq_false k, forQ]
      refine run_end_ok' (by omega) hl6 ?_
      try simp_arith only [forQ]
      have hge := endR_ge (P := PZ zB) (x := x) (p := tokE x q)
      refine ⟨x.length - endR (PZ zB) x (tokE x q), ?_, endR (PZ zB) x (tokE x q), acc ++ [tokT q (tokK x q).1 (tokK x q).2.1], _, _, _, rfl, rfl, endR_le (by omega), ?_, fun k => of_decide_eq_false (endR_at _ _ (Nat.lt_succ_self _) k), fun ts t => ?_, rfl⟩
      · have := endR_le (P := PZ zB) (x := x) (p := tokE x q) (by omega)
        omega
      · rw [List.length_append, List.length_singleton]
        omega
      · rw [List.append_assoc]
        have t2 := t.skip _ _ (Nat.lt_succ_self _)
        rw [hE] at t2
        exact hk _ (.tok hq' (hb hq') k t2)
  · try simp_arith only [decide_eq_false c, ev_lenS' hl6, hl6]
    rw [append_ev (k := 0) rfl (by omega)]
    try simp_arith only []
    rw [tup_ref rfl]
    try simp_arith only []
    exact fin _ _ (hk _ (.fin (by omega)))
/-! pieces drawn -/
theorem pickS (ns : List Str) {us : List T} {n : Int} (e : us = ns.map T.str) (h0 : 0 ≤ n) (h : n < ns.length) : ∃ w, L2.atI us n = some (.str w) ∧ w ∈ ns := by
  subst e
  have hi : n.toNat < ns.length := by omega
  refine ⟨ns[n.toNat], ?_, List.getElem_mem hi⟩
  rw [atI_in _ _ h0 (by rw [List.length_map]; exact h), List.getElem?_map, List.getElem?_eq_getElem hi]
  rfl
theorem pickI' (xs : List Int) {us : List T} {n : Int} (e : us = xs.map T.int) (h0 : 0 ≤ n) (h : n < xs.length) : ∃ k : Int, L2.atI us n = some (.int k) ∧ k ∈ xs := by
  subst e
  have hi : n.toNat < xs.length := by omega
  refine ⟨xs[n.toNat], ?_, List.getElem_mem hi⟩
  rw [atI_in _ _ h0 (by rw [List.length_map]; exact h), List.getElem?_map, List.getElem?_eq_getElem hi]
  rfl
def numS (n : Nat) : Str := Str.ofString (toString (n : Int))
theorem cs_num (n : Nat) : cs (numS n) = TL.numL n := TL.tl_num n
theorem numS_le {n : Nat} (h : n < 10000) : (numS n).length ≤ 4 := by
  rw [← cs_len, cs_num]
  exact TL.numL_len (k := 4) (by decide) (by omega)
theorem numS_pos (n : Nat) : 1 ≤ (numS n).length := by
  rw [← cs_len, cs_num]
  exact Nat.pos_of_ne_zero fun e => TL.numL_ne n (List.eq_nil_of_length_eq_zero e)
theorem numS_of {w : Str} {n : Nat} (h : cs w = TL.numL n) : w = numS n := cs_inj (by rw [cs_num]; exact h)
theorem str_num {n : Nat} (h : n < 10000) (S : Sto) : fStr [.int (n : Int)] S = .ok (.str (numS n)) S := by
  show (if (n : Int).natAbs.log2 < 1920 then R.ok (T.str (toString (n : Int))) S else .bad) = _
  have e : (n : Int).natAbs = n := rfl
  rw [e, if_pos (by
    by_cases h0 : n = 0
    · subst h0; decide
    · exact Nat.lt_of_lt_of_le ((Nat.log2_lt h0).mpr (show n < 2 ^ 14 by omega)) (by decide))]
  rfl
theorem number_text_ok {t : Tp} {rest : Sto} {Q : T → Sto → Prop} (hp : 0 ≤ t.pl) (h : ∀ (n : Nat) (t' : Tp), 0 ≤ t'.pl → n < 10000 → Q (.str (numS n)) (t'.o :: rest)) : Ok (F__law_number_text [.ref 0] (t.o :: rest)) Q := by
  unfold F__law_number_text
  refine ok_frame1 (by simp) t.clO (ok_run ?_)
  unfold B__law_number_text
  try simp_arith only []
  refine draw_ok hp (by decide) fun n t1 hp1 h0 hn => ?_
  obtain ⟨m, rfl⟩ := Int.eq_ofNat_of_zero_le h0
  have hm : m < 10000 := by omega
  rw [str_num hm]
  try simp_arith only []
  refine draw_ok hp1 (by decide) fun j t2 hp2 hj0 hj => ?_
  obtain ⟨w, hw, hwm⟩ := pickS ["0", "1", "9", "10", "100", "9999", numS m] (us := [.str "0", .str "1", .str "9", .str "10", .str "100", .str "9999", .str (numS m)]) rfl hj0 (by show j < 7; omega)
  try simp_arith only [hw, endQ]
  have : ∃ n, n < 10000 ∧ w = numS n := by
    simp only [List.mem_cons, List.not_mem_nil, or_false] at hwm
    rcases hwm with rfl | rfl | rfl | rfl | rfl | rfl | rfl
    · exact ⟨0, by decide, numS_of (by decide +kernel)⟩
    · exact ⟨1, by decide, numS_of (by decide +kernel)⟩
    · exact ⟨9, by decide, numS_of (by decide +kernel)⟩
    · exact ⟨10, by decide, numS_of (by decide +kernel)⟩
    · exact ⟨100, by decide, numS_of (by decide +kernel)⟩
    · exact ⟨9999, by decide, numS_of (by decide +kernel)⟩
    · exact ⟨m, hm, rfl⟩
  obtain ⟨n, hn, rfl⟩ := this
  refine ⟨t2.o, _, rfl, t2.clO, by simp, ?_⟩
  rw [thaw_str]
  exact h n t2 hp2 hn
theorem symbol_ok {t : Tp} {rest : Sto} {Q : T → Sto → Prop} (hp : 0 ≤ t.pl) (h : ∀ (w : Str) (t' : Tp), 0 ≤ t'.pl → w ∈ syms → Q (.str w) (t'.o :: rest)) : Ok (F__law_symbol [.ref 0] (t.o :: rest)) Q := by
  unfold F__law_symbol
  refine ok_frame1 (by simp) t.clO (ok_run ?_)
  unfold B__law_symbol
  have e : syms = (["(", ")", "+", ",", "-", ":", ";", "=", "[", "]", ">="] : List Str) := by decide +kernel
  try simp_arith only []
  refine draw_ok hp (by decide) fun j t2 hp2 hj0 hj => ?_
  obtain ⟨w, hw, hwm⟩ := pickS ["(", ")", "+", ",", "-", ":", ";", "=", "[", "]", ">="] (us := [.str "(", .str ")", .str "+", .str ",", .str "-", .str ":", .str ";", .str "=", .str "[", .str "]", .str ">="]) rfl hj0 (by show j < 11; omega)
  try simp_arith only [hw, endQ]
  refine ⟨t2.o, _, rfl, t2.clO, by simp, ?_⟩
  rw [thaw_str]
  exact h w t2 hp2 (by rw [e]; exact hwm)
theorem syms_len : ∀ w ∈ syms, 1 ≤ w.length ∧ w.length ≤ 2 := by decide +kernel
def badL : List Str := ["007", "00", "01", "12345", "0000", ">", "<", "#", "_", ".", "A", "Z9"]
theorem badL_len : ∀ w ∈ badL, 1 ≤ w.length ∧ w.length ≤ 5 := by decide +kernel
def Badp (w : Str) : Prop := w ∈ badL ∨ (∃ k, 1 ≤ k ∧ k ≤ 9 ∧ w = strRep "99999" k) ∨ (Low w ∧ 13 ≤ w.length ∧ w.length ≤ 73)
theorem Badp.len {w : Str} (h : Badp w) : 1 ≤ w.length ∧ w.length ≤ 73 := by
  rcases h with h | ⟨k, h1, h2, rfl⟩ | h
  · have := badL_len w h
    omega
  · rw [strRep_len, show ("99999" : Str).length = 5 by decide +kernel]
    omega
  · omega
theorem bad_piece_ok {t : Tp} {rest : Sto} {Q : T → Sto → Prop} (hp : 0 ≤ t.pl) (h : ∀ (w : Str) (t' : Tp), 0 ≤ t'.pl → Badp w → Q (.str w) (t'.o :: rest)) : Ok (F__law_bad_piece [.ref 0] (t.o :: rest)) Q := by
  unfold F__law_bad_piece
  refine ok_frame1 (by simp) t.clO (ok_run ?_)
  unfold B__law_bad_piece
  have l5 : ("99999" : Str).length = 5 := by decide +kernel
  try simp_arith only []
  refine draw_ok hp (by decide) fun n t1 hp1 h0 hn => ?_
  obtain ⟨m, rfl⟩ := Int.eq_ofNat_of_zero_le h0
  try simp_arith only [ev_mulS]
  rw [if_pos (by rw [l5]; omega)]
  have e1 : (1 + (m : Int)).toNat = 1 + m := by omega
  rw [e1]
  try simp_arith only []
  refine run_ok hp1 (by decide) (by decide) fun w1 t2 hp2 hw1 hl1 => ?_
  try simp_arith only []
  refine draw_ok hp2 (by decide) fun j t3 hp3 hj0 hj => ?_
  try simp_arith only []
  refine run_ok hp3 (by omega) (by omega) fun w2 t4 hp4 hw2 hl2 => ?_
  try simp_arith only []
  refine draw_ok hp4 (by decide) fun i t5 hp5 hi0 hi => ?_
  obtain ⟨w, hw, hwm⟩ := pickS ["007", "00", "01", "12345", "0000", strRep "99999" (1 + m), w1, w2, ">", ">", "<", "#", "_", ".", "A", "Z9"] (us := [.str "007", .str "00", .str "01", .str "12345", .str "0000", .str (strRep "99999" (1 + m)), .str w1, .str w2, .str ">", .str ">", .str "<", .str "#", .str "_", .str ".", .str "A", .str "Z9"]) rfl hi0 (by show i < 16; omega)
  try simp_arith only [hw, endQ]
  refine ⟨t5.o, _, rfl, t5.clO, by simp, ?_⟩
  rw [thaw_str]
  refine h w t5 hp5 ?_
  have b : ∀ z, z ∈ badL → Badp z := fun z m => .inl m
  simp only [List.mem_cons, List.not_mem_nil, or_false] at hwm
  rcases hwm with rfl | rfl | rfl | rfl | rfl | rfl | rfl | rfl | rfl | rfl | rfl | rfl | rfl | rfl | rfl | rfl
  · exact b _ (by decide +kernel)
  · exact b _ (by decide +kernel)
  · exact b _ (by decide +kernel)
  · exact b _ (by decide +kernel)
  · exact b _ (by decide +kernel)
  · exact .inr (.inl ⟨1 + m, by omega, by omega, rfl⟩)
  · exact .inr (.inr ⟨hw1, by omega, by omega⟩)
  · exact .inr (.inr ⟨hw2, by omega, by omega⟩)
  · exact b _ (by decide +kernel)
  · exact b _ (by decide +kernel)
  · exact b _ (by decide +kernel)
  · exact b _ (by decide +kernel)
  · exact b _ (by decide +kernel)
  · exact b _ (by decide +kernel)
  · exact b _ (by decide +kernel)
  · exact b _ (by decide +kernel)
/-! texts drawn -/
def sgs : Str := " !\"#$&'()*+,-./0123456789:;<=>?@ABCDEFGHIJKLMNOPQRSTUVWXYZ[\\]^_" ++ "`abcdefghijklmnopqrstuvwxyz{|}~"
theorem signs_gen {a b : Str} {S : Sto} {Q : T → Sto → Prop} (l : a.length + b.length ≤ 1000000) (h : Q (.str (a ++ b)) S) :
    Ok ((sSeq (sSet 0 (mC (.str a))) (sRet (mBin (fAddA true) (mVar 0) (mC (.str b))))) [none] []) (endQ fun t S1 => Fx.cl 0 (thaw 0 true t S1) = true ∧ Q (thaw 0 true t S1) S) := by
  have e1 : fAddA true (.str a) (.str b) [] = .ok (.str (a ++ b)) [] := if_pos l
  clear l
  simp only [ev_seq, ev_set, ev_C, ev_ok, ev_bin, ev_V, ev_ret, Ok_bind, Ok_ok, List.set_cons_zero, List.getElem?_cons_zero, e1, if_true, endQ]
  exact ⟨by simp, by rw [thaw_str]; exact h⟩
theorem signs_ok {S : Sto} {Q : T → Sto → Prop} (h : Q (.str sgs) S) : Ok (F__law_signs [] S) Q := by
  unfold F__law_signs
  refine ok_frame0 (by simp) (ok_run ?_)
  exact signs_gen (by decide +kernel) h
theorem sgs_len : sgs.length = 94 := by decide +kernel
theorem piece_ok {t : Tp} {ns : List Str} {wild : Int} {rest : Sto} {Q : T → Sto → Prop} (hp : 0 ≤ t.pl) (h1 : 1 ≤ ns.length) (h2 : ns.length ≤ 1000) (hn : ∀ w ∈ ns, w.length ≤ 12) (h : ∀ (w : Str) (t' : Tp), 0 ≤ t'.pl → w.length ≤ 73 → Q (.str w) (t'.o :: rest)) :
    Ok (F__law_piece [.ref 0, .lst (ns.map T.str), .int wild] (t.o :: rest)) Q := by
  unfold F__law_piece
  refine ok_frame1 (by simp) t.clO (ok_run ?_)
  unfold B__law_piece
  have fin : ∀ (w : Str) (t1 : Tp), 0 ≤ t1.pl → w.length ≤ 73 → endQ (fun t S1 => ∃ o' g, S1 = o' :: g ∧ clO 1 o' = true ∧ Fx.cl 1 (Fx.thaw 1 true t S1) = true ∧ Q (Fx.thaw 1 true t S1) (o' :: rest)) (.rt (.str w)) [t1.o] := fun w t1 hp1 hw => ⟨t1.o, [], rfl, t1.clO, by simp, by rw [thaw_str]; exact h w t1 hp1 hw⟩
  try simp_arith only []
  refine draw_ok hp (by decide) fun ch t1 hp1 hc0 hc => ?_
  try simp_arith only []
  by_cases c1 : ch < 3
  · try simp_arith only [decide_eq_true c1]
    refine reserved_ok ?_
    try simp_arith only []
    refine reserved_ok ?_
    try simp_arith only [List.length_map]
    refine draw_ok hp1 (by decide) fun j t2 hp2 hj0 hj => ?_
    have hr : (resv.length : Int) = 30 := by decide
    obtain ⟨w, hw, hwm⟩ := pickS resv rfl hj0 (by omega)
    try simp_arith only [hw]
    exact fin w t2 hp2 (by have := resv_len w hwm; omega)
  · try simp_arith only [decide_eq_false c1]
    by_cases c2 : ch < 5
    · try simp_arith only [decide_eq_true c2, List.length_map]
      refine draw_ok hp1 (by omega) fun j t2 hp2 hj0 hj => ?_
      obtain ⟨w, hw, hwm⟩ := pickS ns rfl hj0 (by omega)
      try simp_arith only [hw]
      exact fin w t2 hp2 (by have := hn w hwm; omega)
    · try simp_arith only [decide_eq_false c2]
      by_cases c3 : ch < 7
      · try simp_arith only [decide_eq_true c3]
        refine number_text_ok hp1 fun n t2 hp2 hn => ?_
        try simp_arith only []
        exact fin _ t2 hp2 (by have := numS_le hn; omega)
      · try simp_arith only [decide_eq_false c3]
        by_cases c4 : ch < 9
        · try simp_arith only [decide_eq_true c4]
          refine symbol_ok hp1 fun w t2 hp2 hw => ?_
          try simp_arith only []
          exact fin w t2 hp2 (by have := syms_len w hw; omega)
        · try simp_arith only [decide_eq_false c4]
          by_cases c5 : ch = 9
          · try simp_arith only [decide_eq_true c5]
            refine draw_ok hp1 (by decide) fun j t2 hp2 hj0 hj => ?_
            obtain ⟨w, hw, hwm⟩ := pickS [" ", "\n", "  ", " \n "] (us := [.str " ", .str "\n", .str "  ", .str " \n "]) rfl hj0 (by show j < 4; omega)
            try simp_arith only [hw]
            have hl : ∀ w ∈ ([" ", "\n", "  ", " \n "] : List Str), w.length ≤ 73 := by decide +kernel
            exact fin w t2 hp2 (hl w hwm)
          · try simp_arith only [decide_eq_false c5]
            have last : ∀ t1 : Tp, 0 ≤ t1.pl → Ok ((sRet (mBin fIx (mLst true (mCons (mC (.str " ")) (mCons (mFn (fun ts S => if ts.length = 2 then F__law_run ts S else .bad) (mCons (mVar 0) (mCons (mC (.int 1)) mNil))) (mCons (mFn (fun ts S => if ts.length = 2 then F__law_run ts S else .bad) (mCons (mVar 0) (mCons (mC (.int 12)) mNil))) (mCons (mC (.str "ofof")) (mCons (mC (.str "al")) (mCons (mC (.str "not")) mNil))))))) (mFn (fun ts S => if ts.length = 2 then F__law_draw ts S else .bad) (mCons (mVar 0) (mCons (mC (.int 6)) mNil))))) [some (.ref 0), some (.lst (ns.map T.str)), some (.int wild), some (.int ch)] [t1.o]) (endQ fun t S1 => ∃ o' g, S1 = o' :: g ∧ clO 1 o' = true ∧ Fx.cl 1 (Fx.thaw 1 true t S1) = true ∧ Q (Fx.thaw 1 true t S1) (o' :: rest)) := fun t1 hp1 => by
              try simp_arith only []
              refine run_ok hp1 (by decide) (by decide) fun w1 t2 hp2 hw1 hl1 => ?_
              try simp_arith only []
              refine run_ok hp2 (by decide) (by decide) fun w2 t3 hp3 hw2 hl2 => ?_
              try simp_arith only []
              refine draw_ok hp3 (by decide) fun j t4 hp4 hj0 hj => ?_
              obtain ⟨w, hw, hwm⟩ := pickS [" ", w1, w2, "ofof", "al", "not"] (us := [.str " ", .str w1, .str w2, .str "ofof", .str "al", .str "not"]) rfl hj0 (by show j < 6; omega)
              try simp_arith only [hw]
              refine fin w t4 hp4 ?_
              have hl : ∀ w ∈ ([" ", "ofof", "al", "not"] : List Str), w.length ≤ 73 := by decide +kernel
              simp only [List.mem_cons, List.not_mem_nil, or_false] at hwm hl
              rcases hwm with rfl | rfl | rfl | rfl | rfl | rfl
              · exact hl _ (by simp)
              · omega
              · omega
              · exact hl _ (by simp)
              · exact hl _ (by simp)
              · exact hl _ (by simp)
            by_cases c6 : ch = 10
            · try simp_arith only [decide_eq_true c6]
              have c7 : ¬ ch = 11 := by omega
              by_cases d : 0 < wild
              · try simp_arith only [decide_eq_true d]
                refine draw_ok hp1 (by decide) fun j t2 hp2 hj0 hj => ?_
                try simp_arith only []
                by_cases e : j = 0
                · try simp_arith only [decide_eq_true e]
                  refine bad_piece_ok hp2 fun w t3 hp3 hb => ?_
                  try simp_arith only []
                  exact fin w t3 hp3 hb.len.2
                · have := last t2 hp2
                  try simp_arith only [decide_eq_false e, decide_eq_false c7] at this ⊢
                  exact this
              · have := last t1 hp1
                try simp_arith only [decide_eq_false d, decide_eq_false c7] at this ⊢
                exact this
            · try simp_arith only [decide_eq_false c6]
              by_cases c7 : ch = 11
              · try simp_arith only [decide_eq_true c7]
                by_cases d : 1 < wild
                · try simp_arith only [decide_eq_true d]
                  refine signs_ok ?_
                  try simp_arith only []
                  refine signs_ok ?_
                  try simp_arith only [ev_lenS' (show sgs.length ≤ 1000000 by rw [sgs_len]; decide), show sgs.length ≤ 1000000 by rw [sgs_len]; decide]
                  refine draw_ok hp1 (by rw [sgs_len]; decide) fun j t2 hp2 hj0 hj => ?_
                  obtain ⟨k, rfl⟩ := Int.eq_ofNat_of_zero_le hj0
                  rw [ix_at (by rw [sgs_len] at hj ⊢; omega) (by rw [sgs_len]; decide)]
                  try simp_arith only []
                  exact fin _ t2 hp2 (by rw [sgn_len]; decide)
                · have := last t1 hp1
                  try simp_arith only [decide_eq_false d] at this ⊢
                  exact this
              · have := last t1 hp1
                try simp_arith only [decide_eq_false c7] at this ⊢
                exact this
theorem len_join0 (ys : List Str) : (Txt.join "" ys).length = (ys.map Str.length).sum := by
  rw [← cs_len, cs_join0, List.length_flatten, List.map_map]
  congr 1
theorem sum_le {ys : List Str} {b : Nat} (h : ∀ y ∈ ys, y.length ≤ b) : (ys.map Str.length).sum ≤ ys.length * b := by
  induction ys with
  | nil => simp
  | cons y ys ih =>
    have h1 := h y List.mem_cons_self
    have h2 := ih fun z m => h z (List.mem_cons_of_mem _ m)
    rw [List.map_cons, List.sum_cons, List.length_cons, Nat.succ_mul]
    omega
theorem tx_take_len (x : Str) (n : Nat) : (tx ((cs x).take n)).length = min n x.length := by
  rw [← cs_len, cs_tx, List.length_take, cs_len]
def strsT (xs : List Str) : T := .tup (xs.map T.str)
/-! equal rows of texts and numbers -/
def okS (x : Str) : Bool := x.cps.all (· < 0x110000)
theorem Low.okS {x : Str} (h : Low x) : okS x = true := by
  unfold Go.okS
  rw [Array.all_eq_true_iff_forall_mem]
  intro c m
  have := h c (Array.mem_toList_iff.mpr m)
  unfold Lt at this
  rw [decide_eq_true_eq]
  omega
theorem toDs_strs : ∀ xs : List Str, toDs (xs.map T.str) = some (xs.map PyData.str)
  | [] => by rw [List.map_nil, toDs]; rfl
  | x :: xs => by
    rw [List.map_cons, toDs, toD, toDs_strs xs]
    rfl
theorem toDs_ints : ∀ xs : List Int, toDs (xs.map T.int) = some (xs.map PyData.int)
  | [] => by rw [List.map_nil, toDs]; rfl
  | x :: xs => by
    rw [List.map_cons, toDs, toD, toDs_ints xs]
    rfl
theorem lay_strs : ∀ xs : List Str, (∀ x ∈ xs, okS x = true) → PyData.canLayAll0 (xs.map PyData.str) = true
  | [], _ => by rw [List.map_nil, PyData.canLayAll0]
  | x :: xs, h => by
    rw [List.map_cons, PyData.canLayAll0, lay_strs xs fun y m => h y (List.mem_cons_of_mem _ m), PyData.canLay0]
    rw [Bool.and_true]
    exact h x List.mem_cons_self
theorem lay_ints : ∀ xs : List Int, PyData.canLayAll0 (xs.map PyData.int) = true
  | [] => by rw [List.map_nil, PyData.canLayAll0]
  | x :: xs => by
    rw [List.map_cons, PyData.canLayAll0, lay_ints xs, PyData.canLay0]
    rfl
theorem dep_strs : ∀ xs : List Str, PyData.depthAll (xs.map PyData.str) = 0
  | [] => by rw [List.map_nil, PyData.depthAll]
  | x :: xs => by
    rw [List.map_cons, PyData.depthAll, dep_strs xs, PyData.depth]
    rfl
theorem dep_ints : ∀ xs : List Int, PyData.depthAll (xs.map PyData.int) = 0
  | [] => by rw [List.map_nil, PyData.depthAll]
  | x :: xs => by
    rw [List.map_cons, PyData.depthAll, dep_ints xs, PyData.depth]
    rfl
theorem eqv_strs : ∀ xs ys : List Str, PyData.eqvAll (xs.map PyData.str) (ys.map PyData.str) = decide (xs = ys)
  | [], [] => by rw [List.map_nil, PyData.eqvAll]; simp
  | [], y :: ys => by rw [List.map_nil, List.map_cons, PyData.eqvAll]; simp
  | x :: xs, [] => by rw [List.map_nil, List.map_cons, PyData.eqvAll]; simp
  | x :: xs, y :: ys => by
    rw [List.map_cons, List.map_cons, PyData.eqvAll, eqv_strs xs ys, PyData.eqv]
    rw [Bool.eq_iff_iff]
    simp
theorem eqv_ints : ∀ xs ys : List Int, PyData.eqvAll (xs.map PyData.int) (ys.map PyData.int) = decide (xs = ys)
  | [], [] => by rw [List.map_nil, PyData.eqvAll]; simp
  | [], y :: ys => by rw [List.map_nil, List.map_cons, PyData.eqvAll]; simp
  | x :: xs, [] => by rw [List.map_nil, List.map_cons, PyData.eqvAll]; simp
  | x :: xs, y :: ys => by
    rw [List.map_cons, List.map_cons, PyData.eqvAll, eqv_ints xs ys, PyData.eqv]
    rw [Bool.eq_iff_iff]
    simp
theorem eqT_tup {as bs : List T} {ds es : List PyData} (ha : toDs as = some ds) (hb : toDs bs = some es) (la : PyData.canLayAll0 ds = true) (lb : PyData.canLayAll0 es = true) (da : PyData.depthAll ds ≤ 63) (db : PyData.depthAll es ≤ 63) : eqT (.tup as) (.tup bs) = some (PyData.eqvAll ds es) := by
  show (match toD (.tup as), toD (.tup bs) with
    | some d, some e => if (SeqAt.shaped d && SeqAt.shaped e) = true then some (PyData.eqv d e) else none
    | _, _ => none) = _
  rw [toD, toD, ha, hb]
  show (if (SeqAt.shaped (.tuple ds) && SeqAt.shaped (.tuple es)) = true then some (PyData.eqv (.tuple ds) (.tuple es)) else none) = _
  have s1 : SeqAt.shaped (.tuple ds) = true := by
    unfold SeqAt.shaped
    rw [PyData.canLay0, PyData.depth, la, decide_eq_true (by omega)]
    rfl
  have s2 : SeqAt.shaped (.tuple es) = true := by
    unfold SeqAt.shaped
    rw [PyData.canLay0, PyData.depth, lb, decide_eq_true (by omega)]
    rfl
  rw [s1, s2, if_pos (show (true && true) = true from rfl), PyData.eqv]
theorem eqT_lst {as bs : List T} {ds es : List PyData} (ha : toDs as = some ds) (hb : toDs bs = some es) (la : PyData.canLayAll0 ds = true) (lb : PyData.canLayAll0 es = true) (da : PyData.depthAll ds ≤ 63) (db : PyData.depthAll es ≤ 63) : eqT (.lst as) (.lst bs) = some (PyData.eqvAll ds es) := by
  show (match toD (.lst as), toD (.lst bs) with
    | some d, some e => if (SeqAt.shaped d && SeqAt.shaped e) = true then some (PyData.eqv d e) else none
    | _, _ => none) = _
  rw [toD, toD, ha, hb]
  show (if (SeqAt.shaped (.list ds) && SeqAt.shaped (.list es)) = true then some (PyData.eqv (.list ds) (.list es)) else none) = _
  have s1 : SeqAt.shaped (.list ds) = true := by
    unfold SeqAt.shaped
    rw [PyData.canLay0, PyData.depth, la, decide_eq_true (by omega)]
    rfl
  have s2 : SeqAt.shaped (.list es) = true := by
    unfold SeqAt.shaped
    rw [PyData.canLay0, PyData.depth, lb, decide_eq_true (by omega)]
    rfl
  rw [s1, s2, if_pos (show (true && true) = true from rfl), PyData.eqv]
theorem eq_strs {a b : List Str} {S : Sto} (ha : ∀ x ∈ a, okS x = true) (hb : ∀ x ∈ b, okS x = true) : fEq (strsT a) (strsT b) S = .ok (.bl (decide (a = b))) S := by
  unfold fEq strsT
  rw [eqT_tup (toDs_strs a) (toDs_strs b) (lay_strs a ha) (lay_strs b hb) (by rw [dep_strs]; omega) (by rw [dep_strs]; omega), eqv_strs]
theorem ne_ints {a b : List Int} {S : Sto} : fNe (.lst (a.map T.int)) (.lst (b.map T.int)) S = .ok (.bl (!decide (a = b))) S := by
  unfold fNe
  rw [eqT_lst (toDs_ints a) (toDs_ints b) (lay_ints a) (lay_ints b) (by rw [dep_ints]; omega) (by rw [dep_ints]; omega), eqv_ints]
theorem eq_tints {a b : List Int} {S : Sto} : fEq (.tup (a.map T.int)) (.tup (b.map T.int)) S = .ok (.bl (decide (a = b))) S := by
  unfold fEq
  rw [eqT_tup (toDs_ints a) (toDs_ints b) (lay_ints a) (lay_ints b) (by rw [dep_ints]; omega) (by rw [dep_ints]; omega), eqv_ints]
/-! what comes out, or is raised -/
def OkX {α : Type} (r : Fx.R α) (Q : α → Sto → Prop) (Z : Exn → Sto → Prop) : Prop := match r with
  | .ok a S => Q a S
  | .err x S => Z x S
  | .bad => False
section
variable {α β : Type} {Z : Exn → Sto → Prop}
@[simp] theorem OkX_ok (a : α) (S : Sto) (Q : α → Sto → Prop) : OkX (.ok a S) Q Z = Q a S := id rfl
@[simp] theorem OkX_err (x : Exn) (S : Sto) (Q : α → Sto → Prop) : OkX (.err x S) Q Z = Z x S := id rfl
theorem OkX_bind (r : Fx.R α) (f : α → Sto → Fx.R β) (Q : β → Sto → Prop) : OkX (r.bind f) Q Z = OkX r (fun a S => OkX (f a S) Q Z) Z := by cases r <;> rfl
theorem OkX_if (c : Prop) [Decidable c] (a b : Fx.R α) (Q : α → Sto → Prop) : OkX (if c then a else b) Q Z = if c then OkX a Q Z else OkX b Q Z := by split <;> rfl
theorem OkX.mono {r : Fx.R α} {Q Q' : α → Sto → Prop} (h : OkX r Q Z) (i : ∀ a S, Q a S → Q' a S) : OkX r Q' Z := by
  cases r with
  | ok a S => exact i a S h
  | err x S => exact h
  | bad => exact h
theorem Ok.x {r : Fx.R α} {Q : α → Sto → Prop} (h : Ok r Q) : OkX r Q Z := by
  obtain ⟨a, S, e, q⟩ := h.get
  rw [e]
  exact q
theorem okX_run {N : Nat} {b : Fx.Env → Sto → Fx.R Fl} {ts : List T} {S : Sto} {Q : T → Sto → Prop} (h : OkX (b (ts.map some ++ List.replicate (N - ts.length) none) S) (endQ Q) Z) : OkX (runFX N b ts S) Q Z := by
  unfold runFX
  rw [OkX_bind]
  refine h.mono fun f S1 q => ?_
  cases f with
  | nx τ => exact q
  | rt t => exact q
  | bk τ => exact q.elim
  | ct τ => exact q.elim
theorem okX_frame0 {F : List T → Sto → Fx.R T} {ts : List T} {S : Sto} {Q : T → Sto → Prop} (hc : Fx.cls 0 ts = true) (h : OkX (F ts []) (fun t S1 => Fx.cl 0 (thaw 0 true t S1) = true ∧ Q (thaw 0 true t S1) S) (fun x _ => Fx.cls 0 x.ts = true ∧ Z x S)) : OkX (frameX 0 true F ts S) Q Z := by
  unfold frameX
  rw [ifP_t ⟨Nat.zero_le _, hc, rfl⟩]
  cases e : F ts (S.take 0) with
  | bad =>
    have e : F ts [] = .bad := e
    rw [e] at h
    exact h.elim
  | err x S1 =>
    have e : F ts [] = .err x S1 := e
    rw [e] at h
    show OkX (ifP (0 ≤ S1.length ∧ (S1.take 0).all (clO 0) = true ∧ Fx.cls 0 x.ts = true) (.err x (S1.take 0 ++ S.drop 0)) .bad) Q Z
    rw [ifP_t ⟨Nat.zero_le _, rfl, h.1⟩]
    exact h.2
  | ok t S1 =>
    have e : F ts [] = .ok t S1 := e
    rw [e] at h
    show OkX (ifP (0 ≤ S1.length ∧ (S1.take 0).all (clO 0) = true ∧ Fx.cl 0 (thaw 0 true t S1) = true) (.ok (thaw 0 true t S1) (S1.take 0 ++ S.drop 0)) .bad) Q Z
    rw [ifP_t ⟨Nat.zero_le _, rfl, h.1⟩]
    exact h.2
theorem okX_forGo {it : Its} {p : Pat} {b : Fx.Env → Sto → Fx.R Fl} {Q : Fl → Sto → Prop} (I : Nat → Fx.Env → Sto → Prop) (hchk : ∀ k τ S, I k τ S → it.chk S) : ∀ (ts : List T) (k : Nat) (τ : Fx.Env) (S : Sto),
    (∀ i t τ S, ts[i]? = some t → I (k + i) τ S → ∃ τ1, bindP p t τ = some τ1 ∧ OkX (b τ1 S) (forQ (I (k + i + 1)) Q) Z) → (∀ τ S, I (k + ts.length) τ S → Q (.nx τ) S) → I k τ S → OkX (sForGo it p b ts τ S) Q Z
  | [], k, τ, S, _, hq, h => by
    rw [sForGo, ifP_t (hchk _ _ _ h)]
    exact hq τ S h
  | t :: ts, k, τ, S, hs, hq, h => by
    obtain ⟨τ1, h1, h2⟩ := hs 0 t τ S rfl h
    rw [sForGo, ifP_t (hchk _ _ _ h), Fx.bound, h1]
    dsimp only
    rw [OkX_bind]
    have go : ∀ τ2 S2, I (k + 0 + 1) τ2 S2 → OkX (sForGo it p b ts τ2 S2) Q Z := fun τ2 S2 q => okX_forGo I hchk ts (k + 1) τ2 S2 (fun i t τ S e q => by
      have := hs (i + 1) t τ S (by simpa using e) (by rw [show k + (i + 1) = k + 1 + i by omega]; exact q)
      rw [show k + (i + 1) = k + 1 + i by omega] at this
      exact this) (fun τ S q => hq τ S (by rw [List.length_cons, show k + (ts.length + 1) = k + 1 + ts.length by omega]; exact q)) q
    refine h2.mono fun f S2 q => ?_
    cases f with
    | nx τ2 => exact go τ2 S2 q
    | ct τ2 => exact go τ2 S2 q
    | bk τ2 => exact q
    | rt t2 => exact q
theorem okX_for {ts : List T} {p : Pat} {b : Fx.Env → Sto → Fx.R Fl} {Q : Fl → Sto → Prop} {τ : Fx.Env} {S : Sto} (I : Nat → Fx.Env → Sto → Prop) (h0 : I 0 τ S)
    (hs : ∀ i t τ S, ts[i]? = some t → I i τ S → ∃ τ1, bindP p t τ = some τ1 ∧ OkX (b τ1 S) (forQ (I (i + 1)) Q) Z) (hq : ∀ τ S, I ts.length τ S → Q (.nx τ) S) : OkX (sForGo ⟨ts, []⟩ p b ts τ S) Q Z :=
  okX_forGo I (fun _ _ S _ => chk_nil ts S) ts 0 τ S (fun i t τ S e q => by rw [Nat.zero_add] at q ⊢; exact hs i t τ S e q) (fun τ S q => hq τ S (by rw [Nat.zero_add] at q; exact q)) h0
theorem OkX.cases {r : Fx.R α} {Q : α → Sto → Prop} (h : OkX r Q Z) : (∃ a S, r = .ok a S ∧ Q a S) ∨ ∃ x S, r = .err x S ∧ Z x S := by
  cases r with
  | ok a S => exact .inl ⟨a, S, rfl, h⟩
  | err x S => exact .inr ⟨x, S, rfl, h⟩
  | bad => exact h.elim
end
theorem ev_raise (c : Str) (ns : List Str) (ms : Fx.Env → Sto → Fx.R (List T)) (τ : Fx.Env) (S : Sto) : mRaise c ns ms τ S = (ms τ S).bind fun ts S1 => if ts.length = ns.length ∧ ts.length ≤ 900 then .err ⟨c, true, ns, ts.reverse⟩ S1 else .bad := rfl
/-! values of templates: names, numbers, others -/
def Val (v : T) : Prop := (∃ w : Str, v = .str w ∧ w.length ≤ 1000 ∧ okS w = true) ∨ ∃ i : Int, v = .int i
noncomputable def gv (v : T) : Bool := match v with
  | .str w => decide (Nm w)
  | .int i => decide (0 ≤ i) && decide (i ≤ 9999)
  | _ => false
theorem isi_s (w : Str) (S : Sto) : fIsi [.str w, .ty "str"] S = .ok (.bl true) S := isi_ev (a := "str") rfl (by decide +kernel)
theorem isi_i (i : Int) (S : Sto) : fIsi [.int i, .ty "str"] S = .ok (.bl false) S := isi_ev (a := "int") rfl (by decide +kernel)
theorem bindP_en (i j : Nat) (a b : T) (τ : Fx.Env) : bindP (.tp [.nm i, .nm j]) (.wt [a, b]) τ = some ((τ.set i (some a)).set j (some b)) := rfl
theorem Val.cl {v : T} (h : Val v) : Fx.cl 0 v = true := by
  rcases h with ⟨w, rfl, _⟩ | ⟨i, rfl⟩ <;> rfl
theorem vals_cl : ∀ {vs : List T}, (∀ v ∈ vs, Val v) → Fx.cls 0 vs = true
  | [], _ => rfl
  | v :: vs, h => by
    show (Fx.cl 0 v && Fx.cls 0 vs) = true
    rw [(h v List.mem_cons_self).cl, vals_cl fun u m => h u (List.mem_cons_of_mem _ m)]
    rfl
theorem check_values_ok {vs : List T} {S : Sto} {Q : T → Sto → Prop} {Z : Exn → Sto → Prop} (hv : ∀ v ∈ vs, Val v) (h1 : (∀ v ∈ vs, gv v = true) → Q .non S)
    (h2 : ∀ (k : Nat) v, vs[k]? = some v → gv v = false → (∀ (j : Nat) u, j < k → vs[j]? = some u → gv u = true) → Z ⟨"BadValue", true, ["number"], [.int (k : Int)]⟩ S) : OkX (F__check_values [.tup vs] S) Q Z := by
  unfold F__check_values
  refine okX_frame0 (by show (Fx.cls 0 vs && true) = true; rw [vals_cl hv]; rfl) ?_
  generalize hB : B__check_values = B
  refine okX_run ?_
  subst hB
  unfold B__check_values
  try simp_arith only [ev_enum]
  refine okX_for (fun k τ S => ∃ (x y z : Option T), τ = [some (.tup vs), x, y, z] ∧ S = [] ∧ ∀ (j : Nat) u, j < k → vs[j]? = some u → gv u = true) ⟨none, none, none, rfl, rfl, fun j u h => absurd h (Nat.not_lt_zero _)⟩ ?_ ?_
  · rintro i t τ S e ⟨x, y, z, rfl, rfl, hg⟩
    obtain ⟨v, hvi, rfl⟩ := enumT_at e
    rw [Nat.zero_add]
    refine ⟨_, bindP_en 1 2 _ _ _, ?_⟩
    have hm : v ∈ vs := List.mem_of_getElem? hvi
    have step : ∀ b : Bool, b = gv v → OkX (sIf (mNot (mTru (mVar 3))) (mRaise "BadValue" ["number"] (mCons (mVar 1) mNil)) sNext [some (.tup vs), some (.int ((i : Nat) : Int)), some v, some (.bl b)] []) (forQ (fun τ S => ∃ (x y z : Option T), τ = [some (.tup vs), x, y, z] ∧ S = [] ∧ ∀ (j : Nat) u, j < i + 1 → vs[j]? = some u → gv u = true) (endQ fun t S1 => Fx.cl 0 (thaw 0 true t S1) = true ∧ Q (thaw 0 true t S1) S)) (fun x _ => Fx.cls 0 x.ts = true ∧ Z x S) := fun b hb => by
      cases b with
      | true =>
        try simp_arith only [fTru_bl]
        refine ⟨_, _, _, rfl, rfl, fun j u hj hu => ?_⟩
        by_cases c : j = i
        · rw [c, hvi] at hu
          cases hu
          exact hb.symm
        · exact hg j u (by omega) hu
      | false =>
        try simp_arith only [fTru_bl, ev_raise]
        exact ⟨rfl, h2 i v hvi hb.symm hg⟩
    rcases hv v hm with ⟨w, rfl, hw, _⟩ | ⟨n, rfl⟩
    · obtain ⟨a, S', e', rfl, rfl⟩ := (is_name_ok (w := w) (S := []) (Q := fun r S => r = .bl (decide (Nm w)) ∧ S = []) (by omega) ⟨rfl, rfl⟩).get
      try simp_arith only [isi_s, fTru_bl, e']
      exact step _ rfl
    · by_cases c : 0 ≤ n
      · try simp_arith only [isi_i, fTru_bl, ev_chain, decide_eq_true c]
        exact step _ (by show _ = (decide (0 ≤ n) && decide (n ≤ 9999)); rw [decide_eq_true c]; rfl)
      · try simp_arith only [isi_i, fTru_bl, ev_chain, decide_eq_false c]
        exact step _ (by show _ = (decide (0 ≤ n) && decide (n ≤ 9999)); rw [decide_eq_false c])
  · rintro τ S ⟨x, y, z, rfl, rfl, hg⟩
    refine ⟨rfl, h1 fun v m => ?_⟩
    obtain ⟨j, hj⟩ := List.mem_iff_getElem?.mp m
    rw [enumT_length] at hg
    exact hg j v (List.getElem?_eq_some_iff.mp hj).1 hj
/-! values drawn -/
theorem good_value_ok {t : Tp} {ns : List Str} {rest : Sto} {Q : T → Sto → Prop} (hp : 0 ≤ t.pl) (h1 : 1 ≤ ns.length) (h2 : ns.length ≤ 1000) (hn : ∀ w ∈ ns, Nm w) (h : ∀ (v : T) (t' : Tp), 0 ≤ t'.pl → Val v → gv v = true → Q v (t'.o :: rest)) :
    Ok (F__law_good_value [.ref 0, .lst (ns.map T.str)] (t.o :: rest)) Q := by
  unfold F__law_good_value
  refine ok_frame1 (by simp) t.clO (ok_run ?_)
  unfold B__law_good_value
  have fin : ∀ (v : T) (t1 : Tp), 0 ≤ t1.pl → Val v → gv v = true → endQ (fun t S1 => ∃ o' g, S1 = o' :: g ∧ clO 1 o' = true ∧ Fx.cl 1 (Fx.thaw 1 true t S1) = true ∧ Q (Fx.thaw 1 true t S1) (o' :: rest)) (.rt v) [t1.o] := fun v t1 hp1 hv hg => by
    have e : Fx.thaw 1 true v [t1.o] = v := by rcases hv with ⟨w, rfl, _⟩ | ⟨i, rfl⟩ <;> rfl
    have c : Fx.cl 1 v = true := by rcases hv with ⟨w, rfl, _⟩ | ⟨i, rfl⟩ <;> rfl
    exact ⟨t1.o, [], rfl, t1.clO, by rw [e]; exact c, by rw [e]; exact h v t1 hp1 hv hg⟩
  try simp_arith only []
  refine draw_ok hp (by decide) fun a t1 hp1 ha0 ha => ?_
  try simp_arith only []
  refine draw_ok hp1 (by decide) fun b t2 hp2 hb0 hb => ?_
  try simp_arith only []
  by_cases c : b = 0
  · try simp_arith only [decide_eq_true c]
    refine draw_ok hp2 (by decide) fun j t3 hp3 hj0 hj => ?_
    obtain ⟨k, hk, hm⟩ := pickI' [0, 1, 7, 10, 9999, a] (us := [.int 0, .int 1, .int 7, .int 10, .int 9999, .int a]) rfl hj0 (by show j < 6; omega)
    try simp_arith only [hk]
    refine fin _ t3 hp3 (.inr ⟨k, rfl⟩) ?_
    simp only [List.mem_cons, List.not_mem_nil, or_false] at hm
    show (decide (0 ≤ k) && decide (k ≤ 9999)) = true
    rw [decide_eq_true (by omega), decide_eq_true (by omega)]
    rfl
  · try simp_arith only [decide_eq_false c, List.length_map]
    refine draw_ok hp2 (by omega) fun j t3 hp3 hj0 hj => ?_
    obtain ⟨w, hw, hwm⟩ := pickS ns rfl hj0 (by omega)
    try simp_arith only [hw]
    exact fin _ t3 hp3 (.inl ⟨w, rfl, by have := (hn w hwm).le; omega, (hn w hwm).low.okS⟩) (decide_eq_true (hn w hwm))
def badS : List Str := ["", "of", "all", "claim", "Cash", "a b", "a1", " a", "a ", "-", "7", "a_"]
theorem badS_len : ∀ w ∈ badS, w.length ≤ 1000 := by decide +kernel
theorem pickV {us : List T} {P : T → Prop} {n : Int} (h0 : 0 ≤ n) (h : n < us.length) (hp : ∀ v ∈ us, P v) : ∃ v, L2.atI us n = some v ∧ P v := by
  obtain ⟨k, rfl⟩ := Int.eq_ofNat_of_zero_le h0
  have hk : k < us.length := by omega
  refine ⟨us[k], ?_, hp _ (List.getElem_mem hk)⟩
  rw [atI_in _ _ h0 h]
  exact List.getElem?_eq_getElem hk
theorem ok_at {us : List T} {i : Int} {P : T → Prop} {S : Sto} {Q : T → Sto → Prop} (h0 : 0 ≤ i) (h : i < us.length) (hp : ∀ v ∈ us, P v) (hq : ∀ v, P v → Q v S) : Ok (match L2.atI us i with | some t => .ok t S | none => .bad) Q := by
  obtain ⟨v, e, hv⟩ := pickV h0 h hp
  rw [e]
  exact hq v hv
theorem any_value_ok {t : Tp} {ns : List Str} {rest : Sto} {Q : T → Sto → Prop} (hp : 0 ≤ t.pl) (h1 : 1 ≤ ns.length) (h2 : ns.length ≤ 1000) (hn : ∀ w ∈ ns, Nm w) (h : ∀ (v : T) (t' : Tp), 0 ≤ t'.pl → Val v → Q v (t'.o :: rest)) :
    Ok (F__law_any_value [.ref 0, .lst (ns.map T.str)] (t.o :: rest)) Q := by
  unfold F__law_any_value
  refine ok_frame1 (by simp) t.clO (ok_run ?_)
  unfold B__law_any_value
  have fin : ∀ (v : T) (t1 : Tp), 0 ≤ t1.pl → Val v → endQ (fun t S1 => ∃ o' g, S1 = o' :: g ∧ clO 1 o' = true ∧ Fx.cl 1 (Fx.thaw 1 true t S1) = true ∧ Q (Fx.thaw 1 true t S1) (o' :: rest)) (.rt v) [t1.o] := fun v t1 hp1 hv => by
    have e : Fx.thaw 1 true v [t1.o] = v := by rcases hv with ⟨w, rfl, _⟩ | ⟨i, rfl⟩ <;> rfl
    have c : Fx.cl 1 v = true := by rcases hv with ⟨w, rfl, _⟩ | ⟨i, rfl⟩ <;> rfl
    exact ⟨t1.o, [], rfl, t1.clO, by rw [e]; exact c, by rw [e]; exact h v t1 hp1 hv⟩
  try simp_arith only []
  refine run_ok hp (by decide) (by decide) fun r1 t1 hp1 hr1 hl1 => ?_
  try simp_arith only []
  refine run_ok hp1 (by decide) (by decide) fun r2 t2 hp2 hr2 hl2 => ?_
  try simp_arith only []
  refine draw_ok hp2 (by decide) fun j t3 hp3 hj0 hj => ?_
  try simp_arith only []
  refine draw_ok hp3 (by decide) fun a t4 hp4 ha0 ha => ?_
  try simp_arith only []
  by_cases c : a > 0
  · try simp_arith only [decide_eq_true c]
    refine good_value_ok hp4 h1 h2 hn fun v t5 hp5 hv _ => ?_
    try simp_arith only []
    exact fin v t5 hp5 hv
  · try simp_arith only [decide_eq_false c]
    refine draw_ok hp4 (by decide) fun i t5 hp5 hi0 hi => ?_
    try simp_arith only []
    refine ok_at (P := Val) hi0 (by show i < 20; omega) (fun v m => ?_) fun v hv => fin v t5 hp5 hv
    repeat (rcases List.mem_cons.mp m with rfl | m; first | exact .inr ⟨_, rfl⟩ | exact .inl ⟨_, rfl, by decide +kernel, by decide +kernel⟩ | exact .inl ⟨_, rfl, by omega, hr1.okS⟩ | exact .inl ⟨_, rfl, by omega, hr2.okS⟩)
    cases m
theorem eq_lstrs {a b : List Str} {S : Sto} (ha : ∀ x ∈ a, okS x = true) (hb : ∀ x ∈ b, okS x = true) : fEq (.lst (a.map T.str)) (.lst (b.map T.str)) S = .ok (.bl (decide (a = b))) S := by
  unfold fEq
  rw [eqT_lst (toDs_strs a) (toDs_strs b) (lay_strs a ha) (lay_strs b hb) (by rw [dep_strs]; omega) (by rw [dep_strs]; omega), eqv_strs]
theorem is_value_ok {v : T} {S : Sto} {Q : T → Sto → Prop} (hv : Val v) (h : Q (.bl (gv v)) S) : Ok (F__law_is_value [v] S) Q := by
  unfold F__law_is_value
  refine ok_frame0 (by show (Fx.cl 0 v && true) = true; rw [hv.cl]; rfl) ?_
  generalize hB : B__law_is_value = B
  refine ok_run ?_
  subst hB
  unfold B__law_is_value
  have fin : ∀ (b : Bool) (S1 : Sto), b = gv v → endQ (fun t S1 => Fx.cl 0 (thaw 0 true t S1) = true ∧ Q (thaw 0 true t S1) S) (.rt (.bl b)) S1 := fun b S1 e => by
    rw [e]
    exact ⟨by simp, by rw [thaw_bl]; exact h⟩
  rcases hv with ⟨w, rfl, hw, ho⟩ | ⟨n, rfl⟩
  · try simp_arith only [isi_s, fTru_bl]
    have e0 : strT w = ((cs w).map sgn).map T.str := by
      rw [List.map_map]
      rfl
    have hlc : mLcGo ⟨strT w, []⟩ (Pat.nm 2) (mTst (mBin (fIn true) (mVar 2) (mFn F__law_letters mNil))) (mVar 2) [some (T.str w), none, none] (strT w) [] [] = .ok (([] : List T) ++ ((strT w).filter fun t => match t with | .str z => !decide (at_ z 0 ∈ cs zL) | _ => false).map id) [] := by
      refine lc_pure _ _ _ _ (by rw [e0, List.length_map, List.length_map, cs_len]; show 0 + w.length ≤ 100000; omega) fun t m => ?_
      obtain ⟨c, hc, rfl⟩ := List.mem_map.mp m
      obtain ⟨a, S', e', rfl, rfl⟩ := (letters_ok (S := []) (Q := fun r S => r = .str zL ∧ S = []) ⟨rfl, rfl⟩).get
      refine ⟨_, bindP_nm _ _ _, ?_, fun _ => by rfl⟩
      try simp_arith only [e']
      show _ = R.ok (!decide (c ∈ cs zL)) _
      have := ni_sgn c zL []
      unfold sgn at this
      try simp_arith only [this]
    rw [hlc, e0, List.nil_append, List.map_id, List.filter_map]
    generalize hbad : List.filter _ ((cs w).map sgn) = bad
    have hb : bad = [] ↔ Low w := by
      rw [← hbad, List.filter_eq_nil_iff]
      simp only [List.mem_map, forall_exists_index, and_imp, forall_apply_eq_imp_iff₂]
      rw [← low_iff]
      refine forall_congr' fun a => forall_congr' fun m => ?_
      show ¬ (!decide (at_ (sgn a) 0 ∈ cs zL)) = true ↔ PZ zL a = true
      have e1 : at_ (sgn a) 0 = a := rfl
      rw [e1]
      unfold PZ
      by_cases q : a ∈ cs zL <;> simp [q]
    have hok : ∀ z ∈ bad, okS z = true := fun z m => by
      rw [← hbad] at m
      obtain ⟨c, hc, rfl⟩ := List.mem_map.mp (List.mem_filter.mp m).1
      have q := ho
      unfold okS at q ⊢
      rw [Array.all_eq_true_iff_forall_mem] at q
      have := q c (Array.mem_toList_iff.mp hc)
      show (#[c] : Array Nat).all _ = true
      simp only [Array.all_eq_true_iff_forall_mem]
      intro d hd
      rw [show d = c by simpa using hd]
      exact this
    have he : ∀ S : Sto, fEq (.lst (bad.map T.str)) (.lst []) S = .ok (.bl (decide (bad = []))) S := fun S => eq_lstrs (b := []) hok (fun _ h => nomatch h)
    have hni : ∀ S : Sto, fIn true (.str w) (.lst (resv.map T.str)) S = .ok (.bl (!decide (w ∈ resv))) S := fun S => ni_ev (y := .lst (resv.map T.str)) rfl fun z h => nomatch h
    have l1 : w.length ≤ 1000000 := by omega
    by_cases c1 : (0 : Int) < w.length
    · by_cases c2 : (w.length : Int) < 13
      · by_cases c3 : bad = []
        · try simp_arith only [decide_eq_true c1, decide_eq_true c2, l1, he, decide_eq_true c3]
          refine reserved_ok ?_
          try simp_arith only [hni]
          refine fin _ _ ?_
          show _ = decide (Nm w)
          by_cases c4 : w ∈ resv
          · rw [decide_eq_true c4, decide_eq_false fun n => n.nr c4]
            rfl
          · rw [decide_eq_false c4, decide_eq_true ⟨hb.mp c3, by omega, by omega, c4⟩]
            rfl
        · try simp_arith only [decide_eq_true c1, decide_eq_true c2, l1, he, decide_eq_false c3]
          exact fin _ _ (decide_eq_false fun n => c3 (hb.mpr n.low)).symm
      · try simp_arith only [decide_eq_true c1, decide_eq_false c2, l1]
        exact fin _ _ (decide_eq_false fun n => c2 (by have := n.le; omega)).symm
    · try simp_arith only [decide_eq_false c1, l1]
      exact fin _ _ (decide_eq_false fun n => c1 (by have := n.pos; omega)).symm
  · try simp_arith only [isi_i, fTru_bl]
    by_cases c : 0 ≤ n
    · try simp_arith only [decide_eq_true c]
      exact fin _ _ (by show _ = (decide (0 ≤ n) && decide (n ≤ 9999)); rw [decide_eq_true c]; rfl)
    · try simp_arith only [decide_eq_false c]
      exact fin _ _ (by show _ = (decide (0 ≤ n) && decide (n ≤ 9999)); rw [decide_eq_false c]; rfl)
/-! the tokens of a template -/
abbrev Row3 := Nat × Str × T
def tk3 (q : Row3) : T := tokT q.1 q.2.1 q.2.2
def mv3 (s : Nat) (q : Row3) : T := tokT (s + q.1) q.2.1 q.2.2
theorem Pl.cl1 {k : Str} {p : Nat} {v : T} (h : Fx.cl 0 (tokT p k v) = true) : Fx.cl 0 v = true := by
  unfold tokT at h
  have h : (true && (true && (Fx.cl 0 v && true))) = true := h
  simpa using h
theorem cls_all : ∀ {ts : List T}, Fx.cls 0 ts = true → ∀ t ∈ ts, Fx.cl 0 t = true
  | t :: ts, h, u, m => by
    have h : (Fx.cl 0 t && Fx.cls 0 ts) = true := h
    rw [Bool.and_eq_true] at h
    rcases List.mem_cons.mp m with rfl | m
    · exact h.1
    · exact cls_all h.2 u m
theorem cls_of : ∀ {ts : List T}, (∀ t ∈ ts, Fx.cl 0 t = true) → Fx.cls 0 ts = true
  | [], _ => rfl
  | t :: ts, h => by
    show (Fx.cl 0 t && Fx.cls 0 ts) = true
    rw [h t List.mem_cons_self, cls_of fun u m => h u (List.mem_cons_of_mem _ m)]
    rfl
theorem Tk.rows {x : Str} {p : Nat} {ts : List T} (h : Tk x p ts) : ∃ l : List Row3, ts = l.map tk3 ∧ l ≠ [] := by
  induction h with
  | fin _ => exact ⟨[(_, _, _)], rfl, by simp⟩
  | blank _ _ _ ih => exact ih
  | bad _ _ _ => exact ⟨[(_, _, _)], rfl, by simp⟩
  | tok _ _ _ _ ih =>
    obtain ⟨l, rfl, _⟩ := ih
    exact ⟨(_, _, _) :: l, rfl, by simp⟩
theorem rows_cl {l : List Row3} (h : Fx.cl 0 (.tup (l.map tk3)) = true) : ∀ q ∈ l, Fx.cl 0 q.2.2 = true := fun q m =>
  Pl.cl1 (cls_all (show Fx.cls 0 (l.map tk3) = true from h) _ (List.mem_map_of_mem m))
theorem tok_cl {p : Nat} {k : Str} {v : T} (h : Fx.cl 0 v = true) : Fx.cl 0 (tokT p k v) = true := by
  show (true && (true && (Fx.cl 0 v && true))) = true
  rw [h]
  rfl
theorem bindP_three (i j k : Nat) (a b c : T) (τ : Fx.Env) : bindP (.tp [.nm i, .nm j, .nm k]) (.tup [a, b, c]) τ = some (((τ.set i (some a)).set j (some b)).set k (some c)) := rfl
theorem moved_ok {l : List Row3} {s : Nat} {S : Sto} {Q : T → Sto → Prop} (hl : l.length ≤ 100000) (hc : Fx.cl 0 (.tup (l.map tk3)) = true) (h : Q (.lst (l.map (mv3 s))) S) : Ok (F__moved [.tup (l.map tk3), .int (s : Int)] S) Q := by
  unfold F__moved
  refine ok_frame0 (by show (Fx.cl 0 (.tup (l.map tk3)) && true) = true; rw [hc]; rfl) ?_
  generalize hB : B__moved = B
  refine ok_run ?_
  subst hB
  unfold B__moved
  try simp_arith only []
  have hlc : ∀ (τ : Fx.Env) (S : Sto), τ = [some (T.tup (l.map tk3)), some (.int (s : Int)), none, none, none] → mLcGo ⟨l.map tk3, []⟩ (.tp [.nm 2, .nm 3, .nm 4]) mTrue (mTup (mCons (mBin (fAddA true) (mVar 1) (mVar 2)) (mCons (mVar 3) (mCons (mVar 4) mNil)))) τ (l.map tk3) [] S = .ok ((l.map tk3).map fun t => match t with
      | .tup [.int p, k, v] => .tup [.int ((s : Int) + p), k, v]
      | t => t) S := fun τ S e => by
    subst e
    refine lc_map _ _ (by rw [List.length_map]; exact hl) fun t m => ?_
    obtain ⟨q, _, rfl⟩ := List.mem_map.mp m
    refine ⟨_, bindP_three 2 3 4 _ _ _ _, ?_⟩
    try simp_arith only []
    rfl
  rw [hlc _ _ rfl]
  have em : ((l.map tk3).map fun t => match t with
      | .tup [.int p, k, v] => T.tup [.int ((s : Int) + p), k, v]
      | t => t) = l.map (mv3 s) := by
    rw [List.map_map]
    refine List.map_congr_left fun q _ => ?_
    show T.tup [.int ((s : Int) + (q.1 : Int)), .str q.2.1, q.2.2] = T.tup [.int ((s + q.1 : Nat) : Int), .str q.2.1, q.2.2]
    rw [Int.natCast_add]
  rw [em]
  refine ⟨?_, h⟩
  show Fx.cls 0 (l.map (mv3 s)) = true
  refine cls_of fun t m => ?_
  obtain ⟨q, mq, rfl⟩ := List.mem_map.mp m
  exact tok_cl (rows_cl hc q mq)
/-- how a value is told, how long its text is -/
def kindT (v : T) : Str := match v with
  | .str _ => "name"
  | _ => "number"
def sText (v : T) : Str := match v with
  | .str w => w
  | .int i => numS i.toNat
  | _ => ""
def lastK (l : List Row3) : Str := match l.getLast? with
  | some q => q.2.1
  | none => ""
def Fil : Nat → List (Str × List Row3) → List T → List T
  | at_, (x, l) :: rest, vs => if lastK l = "invalid" then l.map (mv3 at_) else match rest, vs with
    | r :: rest, v :: vs => l.dropLast.map (mv3 at_) ++ tokT (at_ + x.length) (kindT v) v :: Fil (at_ + x.length + (sText v).length) (r :: rest) vs
    | _, _ => l.map (mv3 at_)
  | _, [], _ => []
theorem ib1 (S : Sto) : fInt [.bl true] S = .ok (.int 1) S := rfl
theorem ib0 (S : Sto) : fInt [.bl false] S = .ok (.int 0) S := rfl
theorem get_lastQ {g : Sto} {a : O} : (g ++ [a])[g.length]? = some a := by
  rw [List.getElem?_append_right (Nat.le_refl _), Nat.sub_self]
  rfl
theorem Fil_inv {at' : Nat} {x : Str} {l : List Row3} {rest : List (Str × List Row3)} {vs : List T} (h : lastK l = "invalid") : Fil at' ((x, l) :: rest) vs = l.map (mv3 at') := by
  cases rest <;> cases vs <;> simp [Fil, h]
theorem Fil_one {at' : Nat} {x : Str} {l : List Row3} {vs : List T} : Fil at' [(x, l)] vs = l.map (mv3 at') := by
  cases vs <;> simp [Fil]
theorem Fil_step {at' : Nat} {x : Str} {l : List Row3} {r : Str × List Row3} {rest : List (Str × List Row3)} {v : T} {vs : List T} (h : lastK l ≠ "invalid") : Fil at' ((x, l) :: r :: rest) (v :: vs) = l.dropLast.map (mv3 at') ++ tokT (at' + x.length) (kindT v) v :: Fil (at' + x.length + (sText v).length) (r :: rest) vs := by
  rw [Fil, if_neg h]
theorem set_lastQ {g : Sto} {a b : O} : List.set (g ++ [a]) g.length b = g ++ [b] := by
  rw [List.set_append_right _ _ (Nat.le_refl _), Nat.sub_self]
  rfl
theorem tk_last {l : List Row3} (h : l ≠ []) : L2.atI (l.map tk3) ((l.length : Int) - 1) = some (tk3 (l.getLast h)) := by
  have hl : 1 ≤ l.length := List.length_pos_iff.mpr h
  rw [atI_in _ _ (by omega) (by rw [List.length_map]; omega)]
  rw [show ((l.length : Int) - 1).toNat = l.length - 1 by omega, List.getElem?_map, ← List.getLast?_eq_getElem?, List.getLast?_eq_some_getLast h]
  rfl
theorem lastK_eq {l : List Row3} (h : l ≠ []) : lastK l = (l.getLast h).2.1 := by
  unfold lastK
  rw [List.getLast?_eq_some_getLast h]
theorem take_last {l : List Row3} : (l.map tk3).take (l.length - 1) = l.dropLast.map tk3 := by
  rw [List.dropLast_eq_take, List.map_take]
theorem add_refF {S : Sto} {k : Nat} {ts us : List T} (h : S[k]? = some (.lst ts)) (hl : ts.length + us.length ≤ 100000) : fAddA false (.ref k) (.lst us) S = .ok (.ref S.length) (S ++ [.lst (ts ++ us)]) := by
  show fCat false (.ref k) (.lst us) S = _
  have e1 : lstD S (.ref k) = some ts := by
    show (match S[k]? with
    | some (.lst ts) => some ts
    | _ => none) = _
    rw [h]
  have e2 : lstD S (.lst us) = some us := rfl
  unfold fCat
  rw [e1, e2]
  dsimp only
  rw [if_pos hl]
  rfl
theorem mvs_lc {l : List Row3} {at' : Nat} (hl : l.length ≤ 100000) (a b c d e f : Option T) (S : Sto) : mLcGo ⟨l.map tk3, []⟩ (.nm 7) mTrue (mTup (mCons (mBin (fAddA true) (mVar 3) (mBin fIx (mVar 7) (mC (.int 0)))) (mCons (mBin fIx (mVar 7) (mC (.int 1))) (mCons (mBin fIx (mVar 7) (mC (.int 2))) mNil)))) [a, b, c, some (.int (at' : Int)), d, e, f, none] (l.map tk3) [] S = .ok (l.map (mv3 at')) S := by
  rw [lc_map (fun t => match t with
      | .tup [.int p, k, v] => T.tup [.int ((at' : Int) + p), k, v]
      | t => t) _ (by rw [List.length_map]; exact hl) fun t m => ?s]
  case s =>
    obtain ⟨q, _, rfl⟩ := List.mem_map.mp m
    refine ⟨_, bindP_nm _ _ _, ?_⟩
    unfold tk3 tokT
    try simp_arith only []
  congr 1
  rw [List.map_map]
  refine List.map_congr_left fun q _ => ?_
  show T.tup [.int ((at' : Int) + (q.1 : Int)), .str q.2.1, q.2.2] = T.tup [.int ((at' + q.1 : Nat) : Int), .str q.2.1, q.2.2]
  rw [Int.natCast_add]
theorem str_val {v : T} (hv : Val v) (hg : gv v = true) (S : Sto) : fStrA [v] S = .ok (.str (sText v)) S ∧ (sText v).length ≤ 12 := by
  rcases hv with ⟨w, rfl, hw, _⟩ | ⟨i, rfl⟩
  · have n : Nm w := of_decide_eq_true hg
    exact ⟨rfl, n.le⟩
  · have hg : (decide (0 ≤ i) && decide (i ≤ 9999)) = true := hg
    rw [Bool.and_eq_true, decide_eq_true_eq, decide_eq_true_eq] at hg
    obtain ⟨n, rfl⟩ := Int.eq_ofNat_of_zero_le hg.1
    refine ⟨str_num (by omega) S, ?_⟩
    have := numS_le (n := n) (by omega)
    show (numS (n : Int).toNat).length ≤ 12
    rw [Int.toNat_natCast]
    omega
theorem law_filled_ok {D : List (Str × List Row3)} {vs : List T} {tx : T} {S : Sto} {Q : T → Sto → Prop} (hD : D ≠ []) (hl : D.length ≤ 30) (hx : ∀ d ∈ D, Tk d.1 0 (d.2.map tk3) ∧ d.1.length ≤ 3000) (hv : ∀ v ∈ vs, Val v ∧ gv v = true) (hlen : vs.length + 1 = D.length)
    (hn : ∀ g, fLen [tx] (S ++ g) = .ok (.int D.length) (S ++ g)) (hix : ∀ g (k : Nat) d, D[k]? = some d → fIx tx (.int (k : Int)) (S ++ g) = .ok (.str d.1) (S ++ g)) (h : ∀ g, Q (.tup (Fil 0 D vs)) (S ++ g)) : Ok (F__law_filled [tx, .lst vs] S) Q := by
  unfold F__law_filled
  refine ok_run ?_
  unfold B__law_filled
  have hn0 : fLen [tx] S = .ok (.int D.length) S := by simpa using hn []
  have hn1 := hn [.lst []]
  try simp_arith only [hn1]
  rw [range1_ev _ _ (by omega)]
  try simp_arith only []
  refine ok_for (fun k τ S1 => ∃ (g : Sto) (j at' : Nat) (acc : List T) (x4 x5 x6 : Option T), τ = [some tx, some (.lst vs), some (.ref j), some (.int (at' : Int)), x4, x5, x6, none] ∧ S1 = S ++ g ∧ S.length ≤ j ∧ (S ++ g)[j]? = some (.lst acc) ∧ acc.length ≤ 3002 * k ∧ k < D.length ∧ Fil 0 D vs = acc ++ Fil at' (D.drop k) (vs.drop k)) ⟨[.lst []], S.length, 0, [], none, none, none, rfl, rfl, Nat.le_refl _, get_lastQ, Nat.zero_le _, by omega, by simp⟩ ?_ ?_
  · rintro i u τ S' e ⟨g, j, at', acc, x4, x5, x6, rfl, rfl, hj, hacc, hal, hiD, hF⟩
    obtain ⟨hi, rfl⟩ := rangeT_at e
    obtain ⟨d, hd⟩ : ∃ d, D[i]? = some d := ⟨_, List.getElem?_eq_getElem hiD⟩
    obtain ⟨hT, hdl⟩ := hx d (List.mem_of_getElem? hd)
    have hdl' := hT.len (Nat.zero_le _)
    rw [List.length_map] at hdl'
    have hne : d.2 ≠ [] := fun h0 => by
      rw [h0] at hT
      obtain ⟨l', e1, e2⟩ := hT.rows
      exact e2 (List.map_eq_nil_iff.mp e1.symm)
    obtain ⟨x, l⟩ := d
    have hl1 : 1 ≤ l.length := List.length_pos_iff.mpr hne
    have hdl : x.length ≤ 3000 := hdl
    have hdl' : l.length + 0 ≤ x.length + 1 := hdl'
    have hL : L2.atI (l.map tk3) ((l.length : Int) - 1) = some (tk3 (l.getLast hne)) := tk_last hne
    have hK := lastK_eq hne
    refine ⟨_, bindP_nm _ _ _, ?_⟩
    try simp_arith only [Int.zero_add, hix g i _ hd]
    refine law_tokens_ok (x := x) (by omega) fun ts hts => ?_
    have e := hts.uniq hT
    subst e
    have h0 : (0 : Int) ≤ (l.length : Int) - 1 := by omega
    have hld : (l.dropLast.map (mv3 at')).length ≤ 3001 := by rw [List.length_map, List.length_dropLast]; omega
    try simp_arith only [List.length_map, hL, ev_slT, cut_to _ h0, show ((l.length : Int) - 1).toNat = l.length - 1 by omega, take_last]
    rw [mvs_lc (by rw [List.length_dropLast]; omega)]
    try simp_arith only []
    rw [add_refF hacc (by omega)]
    have hsp : l.dropLast ++ [l.getLast hne] = l := List.dropLast_concat_getLast hne
    generalize l.getLast hne = q at hK hsp
    have hg2 : (S ++ g ++ [O.lst (acc ++ l.dropLast.map (mv3 at'))])[(S ++ g).length]? = some (.lst (acc ++ l.dropLast.map (mv3 at'))) := get_lastQ
    have hdr : D.drop i = (x, l) :: D.drop (i + 1) := by
      obtain ⟨_, e⟩ := List.getElem?_eq_some_iff.mp hd
      rw [← e]
      exact List.drop_eq_getElem_cons hiD
    have hmq : l.map (mv3 at') = l.dropLast.map (mv3 at') ++ [T.tup [.int ((at' : Int) + (q.1 : Int)), .str q.2.1, q.2.2]] := by
      rw [← Int.natCast_add]
      show _ = l.dropLast.map (mv3 at') ++ [mv3 at' q]
      rw [← List.map_singleton, ← List.map_append, hsp]
    have hll : (acc ++ l.dropLast.map (mv3 at')).length ≤ 99000 := by rw [List.length_append]; omega
    have fin : ∀ (I : Fx.Env → Sto → Prop) (k : Fl → Sto → Prop), Fil at' (D.drop i) (vs.drop i) = l.map (mv3 at') → (∀ t S1, Q t S1 → k (.rt t) S1) → Ok (fAddA true (T.ref (S ++ g).length) (T.lst [T.tup [.int ((at' : Int) + (q.1 : Int)), .str q.2.1, q.2.2]]) (S ++ g ++ [O.lst (acc ++ l.dropLast.map (mv3 at'))])) fun a S1 => Ok (fTuple [a] S1) fun a S2 => forQ I k (.rt a) S2 := fun I k he hk => by
      rw [add_refL hg2 (by show _ + 1 ≤ 100000; omega)]
      try simp_arith only []
      refine hk _ _ ?_
      have := h (g ++ [O.lst (acc ++ l.dropLast.map (mv3 at'))])
      rw [hF, he, hmq] at this
      rw [List.append_assoc, List.append_assoc]
      exact this
    unfold tk3 tokT
    try simp_arith only []
    by_cases c1 : q.2.1 = "invalid"
    · rw [if_pos (decide_eq_true c1)]
      refine fin _ _ ?_ fun t S1 q => q
      rw [hdr, Fil_inv (hK.trans c1)]
    · rw [if_neg (by rw [decide_eq_false c1]; exact Bool.false_ne_true)]
      have hn' : fLen [tx] (S ++ g ++ [O.lst (acc ++ l.dropLast.map (mv3 at'))]) = .ok (.int D.length) (S ++ g ++ [O.lst (acc ++ l.dropLast.map (mv3 at'))]) := by
        rw [List.append_assoc]
        exact hn _
      have hix' : fIx tx (.int (i : Int)) (S ++ g ++ [O.lst (acc ++ l.dropLast.map (mv3 at'))]) = .ok (.str x) (S ++ g ++ [O.lst (acc ++ l.dropLast.map (mv3 at'))]) := by
        rw [List.append_assoc]
        exact hix _ i _ hd
      try simp_arith only [hn']
      by_cases c2 : (i : Int) = (D.length : Int) - 1
      · rw [if_pos (decide_eq_true c2)]
        refine fin _ _ ?_ fun t S1 q => q
        have e3 : D.drop (i + 1) = [] := List.drop_eq_nil_of_le (by omega)
        rw [hdr, e3, Fil_one]
      · rw [if_neg (by rw [decide_eq_false c2]; exact Bool.false_ne_true)]
        have hiv : i < vs.length := by omega
        obtain ⟨v, hvi⟩ : ∃ v, vs[i]? = some v := ⟨_, List.getElem?_eq_getElem hiv⟩
        have hva : L2.atI vs (i : Int) = some v := by
          rw [atI_in _ _ (by omega) (by omega)]
          exact hvi
        obtain ⟨hV, hG⟩ := hv v (List.mem_of_getElem? hvi)
        have hs := fun S1 => (str_val hV hG S1).1
        have hs2 := (str_val hV hG S).2
        try simp_arith only [hix', ev_lenS' (show x.length ≤ 1000000 by omega), show x.length ≤ 1000000 by omega, hva, hg2]
        have hvd : vs.drop i = v :: vs.drop (i + 1) := by
          obtain ⟨_, e⟩ := List.getElem?_eq_some_iff.mp hvi
          rw [← e]
          exact List.drop_eq_getElem_cons hiv
        obtain ⟨d2, hd2⟩ : ∃ d2, D.drop (i + 1) = d2 :: D.drop (i + 2) := ⟨_, List.drop_eq_getElem_cons (by omega)⟩
        have hstep : Fil at' (D.drop i) (vs.drop i) = l.dropLast.map (mv3 at') ++ T.tup [.int ((at' : Int) + (x.length : Int)), .str (kindT v), v] :: Fil (at' + x.length + (sText v).length) (D.drop (i + 1)) (vs.drop (i + 1)) := by
          rw [hdr, hvd, hd2, Fil_step (fun z => c1 (hK.symm.trans z)), ← Int.natCast_add]
          rfl
        have last : ∀ (S1 : Sto) (k : Fl → Sto → Prop) (y5 y6 : Option T), S1 = S ++ g ++ [O.lst (acc ++ l.dropLast.map (mv3 at') ++ [T.tup [.int ((at' : Int) + (x.length : Int)), .str (kindT v), v]])] →
            ∃ (g' : Sto) (j' at2 : Nat) (acc' : List T) (x4 x5 x6 : Option T), [some tx, some (T.lst vs), some (T.ref (S ++ g).length), some (.int ((at' : Int) + (x.length : Int) + ((sText v).length : Int))), some (T.int (i : Int)), y5, y6, none] = [some tx, some (.lst vs), some (.ref j'), some (.int (at2 : Int)), x4, x5, x6, none] ∧ S1 = S ++ g' ∧ S.length ≤ j' ∧ (S ++ g')[j']? = some (.lst acc') ∧ acc'.length ≤ 3002 * (i + 1) ∧ i + 1 < D.length ∧ Fil 0 D vs = acc' ++ Fil at2 (D.drop (i + 1)) (vs.drop (i + 1)) := fun S1 k y5 y6 e1 => by
          refine ⟨g ++ [O.lst (acc ++ l.dropLast.map (mv3 at') ++ [T.tup [.int ((at' : Int) + (x.length : Int)), .str (kindT v), v]])], (S ++ g).length, at' + x.length + (sText v).length, _, some (T.int (i : Int)), y5, y6, ?_, by rw [e1, List.append_assoc], by rw [List.length_append]; omega, by rw [← List.append_assoc]; exact get_lastQ, ?_, by omega, ?_⟩
          · rw [Int.natCast_add, Int.natCast_add]
          · rw [List.length_append, List.length_append, List.length_singleton]
            omega
          · rw [hF, hstep]
            simp only [List.append_assoc, List.cons_append, List.nil_append, List.singleton_append]
        have hal9 : (acc ++ l.dropLast.map (mv3 at')).length < 100000 := by omega
        have hs3 : (sText v).length ≤ 1000000 := by omega
        rcases hV with ⟨w, rfl, _⟩ | ⟨n, rfl⟩
        · try simp_arith only [isi_s, ib1]
          rw [append_ev hg2 hal9, set_lastQ]
          try simp_arith only [hs, ev_lenS' hs3, hs3]
          exact last _ (fun _ _ => True) _ _ rfl
        · try simp_arith only [isi_i, ib0]
          rw [append_ev hg2 hal9, set_lastQ]
          try simp_arith only [hs, ev_lenS' hs3, hs3]
          exact last _ (fun _ _ => True) _ _ rfl
  · rintro τ S' ⟨g, j, at', acc, x4, x5, x6, rfl, rfl, hj, hacc, hal, hiD, hF⟩
    rw [rangeT_length] at hiD
    omega
theorem atI_m1 (xs : List T) (t : T) : L2.atI (xs ++ [t]) (-1) = some t := by
  have hl : (xs ++ [t]).length = xs.length + 1 := by simp
  unfold L2.atI
  have e : ixN (xs ++ [t]).length (-1) = some xs.length := by
    rw [hl]
    unfold ixN
    rw [if_neg (by decide), if_pos (by omega)]
    congr 1
    omega
  rw [e]
  show (xs ++ [t])[xs.length]? = some t
  rw [List.getElem?_append_right (Nat.le_refl _), Nat.sub_self]
  rfl
theorem cut_m1 (xs : List T) (t : T) : cutT (xs ++ [t]) none (some (-1)) = xs := by
  unfold cutT
  have hl : (xs ++ [t]).length = xs.length + 1 := by simp
  rw [HT.sIx_none, List.drop_zero, hl]
  show List.take ((if (-1 : Int) < 0 then ((-1 : Int) + ((xs.length + 1 : Nat) : Int)).toNat else min (-1 : Int).toNat (xs.length + 1)) - 0) (xs ++ [t]) = xs
  rw [if_pos (by decide), show ((-1 : Int) + ((xs.length + 1 : Nat) : Int)).toNat - 0 = xs.length by omega, List.take_left]
theorem fIx_rm1 {S : Sto} {k : Nat} {xs : List T} {t : T} (h : S[k]? = some (.lst (xs ++ [t]))) : fIx (.ref k) (.int (-1)) S = .ok t S := by
  show (match seqOf S (.ref k) with
      | some ts => match L2.atI ts (-1) with
        | some t => R.ok t S
        | none => R.bad
      | none => R.bad) = _
  have e : seqOf S (.ref k) = some (xs ++ [t]) := by
    show (match S[k]? with
    | some (.lst ts) => some ts
    | _ => none) = _
    rw [h]
  rw [e]
  dsimp only
  rw [atI_m1]
theorem pop_ev {S : Sto} {k : Nat} {xs : List T} {t : T} (h : S[k]? = some (.lst (xs ++ [t]))) : fPop (.ref k) [] S = .ok t (S.set k (.lst xs)) := by
  show (match S[k]? with
    | some (.lst us) => match us[us.length - 1]? with
      | some t => R.ok t (S.set k (.lst us.dropLast))
      | none => R.bad
    | _ => R.bad) = _
  rw [h]
  dsimp only
  rw [List.length_append, List.length_singleton, Nat.add_sub_cancel, List.getElem?_append_right (Nat.le_refl _), Nat.sub_self, List.dropLast_concat]
  rfl
theorem extend_ev {S : Sto} {k : Nat} {xs us : List T} (h : S[k]? = some (.lst xs)) (hl : xs.length + us.length ≤ 100000) : fExtend (.ref k) [.lst us] S = .ok .non (S.set k (.lst (xs ++ us))) := by
  have e : lstD S (.lst us) = some us := rfl
  show (match S[k]?, lstD S (.lst us) with
    | some (.lst us), some ws => if us.length + ws.length ≤ 100000 then R.ok T.non (S.set k (.lst (us ++ ws))) else R.bad
    | _, _ => R.bad) = _
  rw [h, e]
  dsimp only
  rw [if_pos hl]
theorem zip_ev (xs ys : List T) (S : Sto) : fZip [.tup xs, .tup ys] S = .ok ⟨zipT xs ys, []⟩ S := rfl
theorem mv_cl {l : List Row3} {at' : Nat} (hc : Fx.cl 0 (.tup (l.map tk3)) = true) : ∀ t ∈ l.map (mv3 at'), Fx.cl 0 t = true := fun t m => by
  obtain ⟨q, mq, rfl⟩ := List.mem_map.mp m
  exact tok_cl (rows_cl hc q mq)
theorem Fil_cl : ∀ {D : List (Str × List Row3)} {vs : List T} {at' : Nat}, (∀ d ∈ D, Fx.cl 0 (.tup (d.2.map tk3)) = true) → (∀ v ∈ vs, Val v) → ∀ t ∈ Fil at' D vs, Fx.cl 0 t = true
  | [], vs, at', _, _, t, m => by rw [Fil] at m; cases m
  | [(x, l)], vs, at', h, _, t, m => by
    rw [Fil_one] at m
    exact mv_cl (h (x, l) List.mem_cons_self) t m
  | (x, l) :: r :: D, vs, at', h, hv, t, m => by
    have h0 := mv_cl (at' := at') (h (x, l) List.mem_cons_self)
    by_cases c : lastK l = "invalid"
    · rw [Fil_inv c] at m
      exact h0 t m
    · cases vs with
      | nil =>
        have e : Fil at' ((x, l) :: r :: D) [] = l.map (mv3 at') := by simp [Fil]
        rw [e] at m
        exact h0 t m
      | cons v vs =>
        rw [Fil_step c] at m
        rcases List.mem_append.mp m with m | m
        · refine h0 t ?_
          obtain ⟨q, mq, rfl⟩ := List.mem_map.mp m
          exact List.mem_map_of_mem (List.dropLast_subset _ mq)
        · rcases List.mem_cons.mp m with rfl | m
          · exact tok_cl (hv v List.mem_cons_self).cl
          · exact Fil_cl (D := r :: D) (vs := vs) (fun d md => h d (List.mem_cons_of_mem _ md)) (fun u mu => hv u (List.mem_cons_of_mem _ mu)) t m
theorem filled_ok {D : List (Str × List Row3)} {vs : List T} {S : Sto} {Q : T → Sto → Prop} {Z : Exn → Sto → Prop} (hD : D ≠ []) (hl : D.length ≤ 30) (hx : ∀ d ∈ D, Tk d.1 0 (d.2.map tk3) ∧ d.1.length ≤ 3000) (hv : ∀ v ∈ vs, Val v) (hlen : vs.length + 1 = D.length)
    (h1 : (∀ v ∈ vs, gv v = true) → Q (.tup (Fil 0 D vs)) S)
    (h2 : ∀ (k : Nat) v, vs[k]? = some v → gv v = false → (∀ (j : Nat) u, j < k → vs[j]? = some u → gv u = true) → Z ⟨"BadValue", true, ["number"], [.int (k : Int)]⟩ S) : OkX (F_filled [.tup (D.map fun d => T.str d.1), .tup vs] S) Q Z := by
  unfold F_filled
  refine okX_frame0 (by
    show (Fx.cls 0 (D.map fun d => T.str d.1) && (Fx.cls 0 vs && true)) = true
    rw [vals_cl hv, cls_of fun t m => by obtain ⟨d, _, rfl⟩ := List.mem_map.mp m; rfl]
    rfl) ?_
  generalize hB : B_filled = B
  refine okX_run ?_
  subst hB
  unfold B_filled
  have eD : D.map (fun d => T.str d.1) = D.dropLast.map (fun d => T.str d.1) ++ [T.str (D.getLast hD).1] := by
    rw [← List.map_singleton (f := fun d : Str × List Row3 => T.str d.1), ← List.map_append, List.dropLast_concat_getLast hD]
  try simp_arith only []
  rw [OkX_bind, OkX_bind]
  refine check_values_ok hv (fun hg => ?_) fun k v a b c => ⟨rfl, h2 k v a b c⟩
  rw [OkX_ok]
  dsimp only
  refine Ok.x ?_
  have hcl : Fx.cl 0 (thaw 0 true (.tup (Fil 0 D vs)) []) = true := by
    show Fx.cls 0 (Fil 0 D vs) = true
    exact cls_of (Fil_cl (fun d m => (hx d m).1.cl0) hv)
  have hld : D.dropLast.length = vs.length := by rw [List.length_dropLast]; omega
  have hzl : (zipT (D.dropLast.map fun d => T.str d.1) vs).length = vs.length := by
    rw [zipT_length, List.length_map, hld, Nat.min_self]
  try simp_arith only [eD, ev_slT, cut_m1, zip_ev]
  refine ok_for (fun k τ S1 => ∃ (at' : Nat) (acc : List T) (x4 x5 : Option T), τ = [some (T.tup (D.dropLast.map (fun d => T.str d.1) ++ [T.str (D.getLast hD).1])), some (.tup vs), some (.ref 0), some (.int (at' : Int)), x4, x5] ∧ S1 = [.lst acc] ∧ acc.length ≤ 3002 * k ∧ k < D.length ∧ Fil 0 D vs = acc ++ Fil at' (D.drop k) (vs.drop k)) ⟨0, [], none, none, rfl, rfl, Nat.zero_le _, by omega, by simp⟩ ?_ ?_
  · rintro i u τ S' e ⟨at', acc, x4, x5, rfl, rfl, hal, hiD, hF⟩
    obtain ⟨t1, v, hd1, hvi, rfl⟩ := zipT_at e
    have hiv : i < vs.length := (List.getElem?_eq_some_iff.mp hvi).1
    obtain ⟨d, hd0, rfl⟩ : ∃ d, D[i]? = some d ∧ t1 = .str d.1 := by
      rw [List.getElem?_map, List.dropLast_eq_take, List.getElem?_take, if_pos (by omega)] at hd1
      obtain ⟨d, e1, e2⟩ := Option.map_eq_some_iff.mp hd1
      exact ⟨d, e1, e2.symm⟩
    obtain ⟨x, l⟩ := d
    obtain ⟨hT, hdl⟩ := hx _ (List.mem_of_getElem? hd0)
    have hT : Tk x 0 (l.map tk3) := hT
    have hdl : x.length ≤ 3000 := hdl
    have hdl' := hT.len (Nat.zero_le _)
    rw [List.length_map] at hdl'
    have hne : l ≠ [] := fun h0 => by
      rw [h0] at hT
      obtain ⟨l', e1, e2⟩ := hT.rows
      exact e2 (List.map_eq_nil_iff.mp e1.symm)
    have hl1 : 1 ≤ l.length := List.length_pos_iff.mpr hne
    have hK := lastK_eq hne
    have hsp : l.dropLast ++ [l.getLast hne] = l := List.dropLast_concat_getLast hne
    generalize l.getLast hne = q at hK hsp
    have hdr : D.drop i = (x, l) :: D.drop (i + 1) := by
      obtain ⟨_, e⟩ := List.getElem?_eq_some_iff.mp hd0
      rw [← e]
      exact List.drop_eq_getElem_cons hiD
    have hmq : l.map (mv3 at') = l.dropLast.map (mv3 at') ++ [T.tup [.int ((at' : Int) + (q.1 : Int)), .str q.2.1, q.2.2]] := by
      rw [← Int.natCast_add]
      show _ = l.dropLast.map (mv3 at') ++ [mv3 at' q]
      rw [← List.map_singleton, ← List.map_append, hsp]
    have hll : (acc ++ l.dropLast.map (mv3 at')).length ≤ 99000 := by rw [List.length_append, List.length_map, List.length_dropLast]; omega
    refine ⟨_, bindP_en 4 5 _ _ _, ?_⟩
    try simp_arith only []
    refine split_text_ok (x := x) (by omega) fun ts hts => ?_
    have e := hts.uniq hT
    subst e
    try simp_arith only []
    refine moved_ok (by omega) hT.cl0 ?_
    try simp_arith only []
    rw [extend_ev (k := 0) (xs := acc) rfl (by rw [List.length_map]; omega), hmq, ← List.append_assoc]
    try simp_arith only [atI_m1]
    by_cases c1 : q.2.1 = "invalid"
    · try simp_arith only [decide_eq_true c1]
      rw [tup_ref (k := 0) (ts := acc ++ l.dropLast.map (mv3 at') ++ [T.tup [.int ((at' : Int) + (q.1 : Int)), .str q.2.1, q.2.2]]) rfl]
      try simp_arith only []
      have e4 : acc ++ l.dropLast.map (mv3 at') ++ [T.tup [.int ((at' : Int) + (q.1 : Int)), .str q.2.1, q.2.2]] = Fil 0 D vs := by
        rw [hF, hdr, Fil_inv (hK.trans c1), hmq, List.append_assoc]
      rw [e4]
      exact ⟨hcl, h1 hg⟩
    · try simp_arith only [decide_eq_false c1]
      rw [pop_ev (k := 0) (xs := acc ++ l.dropLast.map (mv3 at')) rfl]
      have hV := hv v (List.mem_of_getElem? hvi)
      have hG := hg v (List.mem_of_getElem? hvi)
      have hs := fun S1 => (str_val hV hG S1).1
      have hs2 := (str_val hV hG S).2
      have hvd : vs.drop i = v :: vs.drop (i + 1) := by
        obtain ⟨_, e⟩ := List.getElem?_eq_some_iff.mp hvi
        rw [← e]
        exact List.drop_eq_getElem_cons hiv
      obtain ⟨d2, hd2⟩ : ∃ d2, D.drop (i + 1) = d2 :: D.drop (i + 2) := ⟨_, List.drop_eq_getElem_cons (by omega)⟩
      have hstep : Fil at' (D.drop i) (vs.drop i) = l.dropLast.map (mv3 at') ++ T.tup [.int ((at' : Int) + (x.length : Int)), .str (kindT v), v] :: Fil (at' + x.length + (sText v).length) (D.drop (i + 1)) (vs.drop (i + 1)) := by
        rw [hdr, hvd, hd2, Fil_step (fun z => c1 (hK.symm.trans z)), ← Int.natCast_add]
        rfl
      have hal9 : (acc ++ l.dropLast.map (mv3 at')).length < 100000 := by omega
      have hs3 : (sText v).length ≤ 1000000 := by omega
      have last : ∃ (at2 : Nat) (acc' : List T) (x4 x5 : Option T), [some (T.tup (D.dropLast.map (fun d => T.str d.1) ++ [T.str (D.getLast hD).1])), some (.tup vs), some (.ref 0), some (.int ((at' : Int) + (x.length : Int) + ((sText v).length : Int))), some (T.str x), some v] = [some (T.tup (D.dropLast.map (fun d => T.str d.1) ++ [T.str (D.getLast hD).1])), some (.tup vs), some (.ref 0), some (.int (at2 : Int)), x4, x5] ∧ [O.lst (acc ++ l.dropLast.map (mv3 at') ++ [T.tup [.int ((at' : Int) + (x.length : Int)), .str (kindT v), v]])] = [O.lst acc'] ∧ acc'.length ≤ 3002 * (i + 1) ∧ i + 1 < D.length ∧ Fil 0 D vs = acc' ++ Fil at2 (D.drop (i + 1)) (vs.drop (i + 1)) := by
        refine ⟨at' + x.length + (sText v).length, _, some (T.str x), some v, ?_, rfl, ?_, by omega, ?_⟩
        · rw [Int.natCast_add, Int.natCast_add]
        · rw [List.length_append, List.length_append, List.length_singleton, List.length_map, List.length_dropLast]
          omega
        · rw [hF, hstep]
          simp only [List.append_assoc, List.cons_append, List.nil_append, List.singleton_append]
      rcases hV with ⟨w, rfl, _⟩ | ⟨n, rfl⟩
      · try simp_arith only [ev_aug, ev_ipadd, ev_lenS' (show x.length ≤ 1000000 by omega), show x.length ≤ 1000000 by omega, isi_s, fTru_bl]
        rw [append_ev (k := 0) rfl hal9]
        try simp_arith only [ev_aug, ev_ipadd, hs, ev_lenS' hs3, hs3]
        exact last
      · try simp_arith only [ev_aug, ev_ipadd, ev_lenS' (show x.length ≤ 1000000 by omega), show x.length ≤ 1000000 by omega, isi_i, fTru_bl]
        rw [append_ev (k := 0) rfl hal9]
        try simp_arith only [ev_aug, ev_ipadd, hs, ev_lenS' hs3, hs3]
        exact last
  · rintro τ S' ⟨at', acc, x4, x5, rfl, rfl, hal, hiD, hF⟩
    rw [hzl] at hal hiD hF
    obtain ⟨d, hlast⟩ : ∃ d, D.getLast hD = d := ⟨_, rfl⟩
    have hdr : D.drop vs.length = [d] := by
      have e := List.dropLast_concat_getLast hD
      rw [hlast] at e
      rw [← e, ← hld, List.drop_left]
    have hmem : d ∈ D := by rw [← hlast]; exact List.getLast_mem hD
    rw [hlast]
    obtain ⟨x, l⟩ := d
    obtain ⟨hT, hdl⟩ := hx _ hmem
    have hT : Tk x 0 (l.map tk3) := hT
    have hdl : x.length ≤ 3000 := hdl
    have hdl' := hT.len (Nat.zero_le _)
    rw [List.length_map] at hdl'
    try simp_arith only [atI_m1]
    refine split_text_ok (x := x) (by omega) fun ts hts => ?_
    have e := hts.uniq hT
    subst e
    try simp_arith only []
    refine moved_ok (by omega) hT.cl0 ?_
    try simp_arith only []
    rw [extend_ev (k := 0) (xs := acc) rfl (by rw [List.length_map]; omega)]
    try simp_arith only []
    have e4 : acc ++ l.map (mv3 at') = Fil 0 D vs := by rw [hF, hdr, Fil_one]
    rw [tup_ref (k := 0) (ts := acc ++ l.map (mv3 at')) rfl, e4]
    try simp_arith only []
    exact ⟨hcl, h1 hg⟩
/-! the error, told -/
def bvT (k : Int) : T := .exn "BadValue" true ["number"] [.int k]
theorem lx_ReadError (k : Int) (S : Sto) : fIsX tab_ReadError (bvT k) S = .ok (.bl false) S := by
  show (match tab_ReadError "BadValue" with | some b => R.ok (T.bl b) S | none => R.bad) = _
  have e : tab_ReadError "BadValue" = some false := by decide +kernel
  rw [e]
theorem lx_Mistakes (k : Int) (S : Sto) : fIsX tab_Mistakes (bvT k) S = .ok (.bl false) S := by
  show (match tab_Mistakes "BadValue" with | some b => R.ok (T.bl b) S | none => R.bad) = _
  have e : tab_Mistakes "BadValue" = some false := by decide +kernel
  rw [e]
theorem lx_BadValue (k : Int) (S : Sto) : fIsX tab_BadValue (bvT k) S = .ok (.bl true) S := by
  show (match tab_BadValue "BadValue" with | some b => R.ok (T.bl b) S | none => R.bad) = _
  have e : tab_BadValue "BadValue" = some true := by decide +kernel
  rw [e]
theorem lx_NeedsJournal (k : Int) (S : Sto) : fIsX tab_NeedsJournal (bvT k) S = .ok (.bl false) S := by
  show (match tab_NeedsJournal "BadValue" with | some b => R.ok (T.bl b) S | none => R.bad) = _
  have e : tab_NeedsJournal "BadValue" = some false := by decide +kernel
  rw [e]
theorem lx_NeedsModel (k : Int) (S : Sto) : fIsX tab_NeedsModel (bvT k) S = .ok (.bl false) S := by
  show (match tab_NeedsModel "BadValue" with | some b => R.ok (T.bl b) S | none => R.bad) = _
  have e : tab_NeedsModel "BadValue" = some false := by decide +kernel
  rw [e]
theorem lx_TooMany (k : Int) (S : Sto) : fIsX tab_TooMany (bvT k) S = .ok (.bl false) S := by
  show (match tab_TooMany "BadValue" with | some b => R.ok (T.bl b) S | none => R.bad) = _
  have e : tab_TooMany "BadValue" = some false := by decide +kernel
  rw [e]
theorem lx_BadParticipant (k : Int) (S : Sto) : fIsX tab_BadParticipant (bvT k) S = .ok (.bl false) S := by
  show (match tab_BadParticipant "BadValue" with | some b => R.ok (T.bl b) S | none => R.bad) = _
  have e : tab_BadParticipant "BadValue" = some false := by decide +kernel
  rw [e]
theorem lx_BadTransaction (k : Int) (S : Sto) : fIsX tab_BadTransaction (bvT k) S = .ok (.bl false) S := by
  show (match tab_BadTransaction "BadValue" with | some b => R.ok (T.bl b) S | none => R.bad) = _
  have e : tab_BadTransaction "BadValue" = some false := by decide +kernel
  rw [e]
theorem lx_UnknownClaim (k : Int) (S : Sto) : fIsX tab_UnknownClaim (bvT k) S = .ok (.bl false) S := by
  show (match tab_UnknownClaim "BadValue" with | some b => R.ok (T.bl b) S | none => R.bad) = _
  have e : tab_UnknownClaim "BadValue" = some false := by decide +kernel
  rw [e]
theorem lx_NotASum (k : Int) (S : Sto) : fIsX tab_NotASum (bvT k) S = .ok (.bl false) S := by
  show (match tab_NotASum "BadValue" with | some b => R.ok (T.bl b) S | none => R.bad) = _
  have e : tab_NotASum "BadValue" = some false := by decide +kernel
  rw [e]
theorem lx_DoesNotHold (k : Int) (S : Sto) : fIsX tab_DoesNotHold (bvT k) S = .ok (.bl false) S := by
  show (match tab_DoesNotHold "BadValue" with | some b => R.ok (T.bl b) S | none => R.bad) = _
  have e : tab_DoesNotHold "BadValue" = some false := by decide +kernel
  rw [e]
theorem lx_NotRefuted (k : Int) (S : Sto) : fIsX tab_NotRefuted (bvT k) S = .ok (.bl false) S := by
  show (match tab_NotRefuted "BadValue" with | some b => R.ok (T.bl b) S | none => R.bad) = _
  have e : tab_NotRefuted "BadValue" = some false := by decide +kernel
  rw [e]
theorem lx_NothingToUndo (k : Int) (S : Sto) : fIsX tab_NothingToUndo (bvT k) S = .ok (.bl false) S := by
  show (match tab_NothingToUndo "BadValue" with | some b => R.ok (T.bl b) S | none => R.bad) = _
  have e : tab_NothingToUndo "BadValue" = some false := by decide +kernel
  rw [e]
theorem lx_NothingToRedo (k : Int) (S : Sto) : fIsX tab_NothingToRedo (bvT k) S = .ok (.bl false) S := by
  show (match tab_NothingToRedo "BadValue" with | some b => R.ok (T.bl b) S | none => R.bad) = _
  have e : tab_NothingToRedo "BadValue" = some false := by decide +kernel
  rw [e]
theorem lx_ProofError (k : Int) (S : Sto) : fIsX tab_ProofError (bvT k) S = .ok (.bl true) S := by
  show (match tab_ProofError "BadValue" with | some b => R.ok (T.bl b) S | none => R.bad) = _
  have e : tab_ProofError "BadValue" = some true := by decide +kernel
  rw [e]
theorem lx_ValueError (k : Int) (S : Sto) : fIsX tab_ValueError (bvT k) S = .ok (.bl true) S := by
  show (match tab_ValueError "BadValue" with | some b => R.ok (T.bl b) S | none => R.bad) = _
  have e : tab_ValueError "BadValue" = some true := by decide +kernel
  rw [e]
theorem lone_ok {k : Int} {S : Sto} {Q : T → Sto → Prop} (h : Q (.bl true) S) : Ok (F__law_lone [bvT k] S) Q := by
  unfold F__law_lone
  refine ok_frame0 rfl ?_
  generalize hB : B__law_lone = B
  refine ok_run ?_
  subst hB
  unfold B__law_lone
  try simp_arith only [lx_ReadError, lx_Mistakes, lx_BadValue, lx_NeedsJournal, lx_NeedsModel, lx_TooMany, lx_BadParticipant, lx_BadTransaction, lx_UnknownClaim, lx_NotASum, lx_DoesNotHold, lx_NotRefuted, lx_NothingToUndo, lx_NothingToRedo, lx_ProofError, lx_ValueError, ib0, ib1]
  exact ⟨by simp, by rw [thaw_bl]; exact h⟩
theorem att_bv (k : Int) (S : Sto) : fAtt ta_number "number" (bvT k) S = .ok (.int k) S := by
  show (if ta_number "BadValue" = true then match ((["number"] : List Str).zip [T.int k]).lookup ("number" : Str) with | some y => R.ok y S | none => R.bad else R.bad) = _
  have e : ta_number "BadValue" = true := by decide +kernel
  rw [e, if_pos rfl]
  rfl
theorem told_ok {D : List (Str × List Row3)} {vs : List T} {S : Sto} {Q : T → Sto → Prop} (hD : D ≠ []) (hl : D.length ≤ 30) (hx : ∀ d ∈ D, Tk d.1 0 (d.2.map tk3) ∧ d.1.length ≤ 3000) (hv : ∀ v ∈ vs, Val v) (hlen : vs.length + 1 = D.length)
    (h1 : (∀ v ∈ vs, gv v = true) → Q (.tup (Fil 0 D vs)) S)
    (h2 : ∀ (k : Nat) v, vs[k]? = some v → gv v = false → (∀ (j : Nat) u, j < k → vs[j]? = some u → gv u = true) → Q (.tup [.str "bad value", .int (k : Int)]) S) : Ok (F__law_told [.tup (D.map fun d => T.str d.1), .tup vs] S) Q := by
  unfold F__law_told
  refine ok_frame0 (by
    show (Fx.cls 0 (D.map fun d => T.str d.1) && (Fx.cls 0 vs && true)) = true
    rw [vals_cl hv, cls_of fun t m => by obtain ⟨d, _, rfl⟩ := List.mem_map.mp m; rfl]
    rfl) ?_
  generalize hB : B__law_told = B
  refine ok_run ?_
  subst hB
  unfold B__law_told
  have hf := filled_ok (S := []) (Q := fun t S1 => S1 = [] ∧ t = .tup (Fil 0 D vs) ∧ ∀ v ∈ vs, gv v = true) (Z := fun x S1 => S1 = [] ∧ ∃ (k : Nat) (v : T), x = ⟨"BadValue", true, ["number"], [.int (k : Int)]⟩ ∧ vs[k]? = some v ∧ gv v = false ∧ ∀ (j : Nat) u, j < k → vs[j]? = some u → gv u = true) hD hl hx hv hlen (fun g => ⟨rfl, rfl, g⟩) fun k v a b c => ⟨rfl, k, v, rfl, a, b, c⟩
  unfold sTryRet
  have hm : (mFn (fun ts S => if ts.length = 2 then F_filled ts S else .bad) (mCons (mVar 0) (mCons (mVar 1) mNil))) [some (T.tup (D.map fun d => T.str d.1)), some (.tup vs), none] [] = F_filled [.tup (D.map fun d => T.str d.1), .tup vs] [] := rfl
  show Ok (match (mFn (fun ts S => if ts.length = 2 then F_filled ts S else .bad) (mCons (mVar 0) (mCons (mVar 1) mNil))) [some (T.tup (D.map fun d => T.str d.1)), some (.tup vs), none] [] with
    | .ok t S1 => _
    | .err x S1 => _
    | .bad => _) _
  rw [hm]
  rcases hf.cases with ⟨a, S1, e, rfl, rfl, hg⟩ | ⟨x, S1, e, rfl, k, v, rfl, a, b, c⟩
  · rw [e]
    refine ⟨?_, h1 hg⟩
    show Fx.cls 0 (Fil 0 D vs) = true
    exact cls_of (Fil_cl (fun d m => (hx d m).1.cl0) hv)
  · rw [e]
    have ee : exm_BadValue "BadValue" = some true := by decide +kernel
    dsimp only
    rw [ee]
    dsimp only
    rw [Ok_bind, Ok_noErr]
    try simp_arith only []
    refine lone_ok ?_
    have ha := att_bv (k : Int) []
    unfold bvT at ha
    try simp_arith only [fTru_bl, ha]
    exact ⟨rfl, h2 k v a b c⟩
/-! what the law's own loop needs of the filled tokens -/
theorem D_ex : ∀ xs : List Str, (∀ x ∈ xs, x.length ≤ 3000) → ∃ D : List (Str × List Row3), D.map (fun d => d.1) = xs ∧ ∀ d ∈ D, Tk d.1 0 (d.2.map tk3) ∧ d.1.length ≤ 3000
  | [], _ => ⟨[], rfl, fun _ h => nomatch h⟩
  | x :: xs, h => by
    obtain ⟨D, e, hD⟩ := D_ex xs fun y m => h y (List.mem_cons_of_mem _ m)
    obtain ⟨ts, hts⟩ := Tk.ex (x := x) (x.length + 1) 0 (by omega)
    obtain ⟨l, rfl, _⟩ := hts.rows
    refine ⟨(x, l) :: D, by rw [List.map_cons, e], fun d m => ?_⟩
    rcases List.mem_cons.mp m with rfl | m
    · exact ⟨hts, h x List.mem_cons_self⟩
    · exact hD d m
theorem Pl.tok {n p q : Nat} {k : Str} {v : T} (h : Pl (n + 1) (tokT p k v)) : Pl (n + 1) (tokT q k v) := by
  unfold tokT at h ⊢
  cases h with
  | tup hl ha =>
    refine .tup (by show 3 ≤ 1000000; decide) fun t m => ?_
    simp only [List.mem_cons, List.not_mem_nil, or_false] at m
    rcases m with rfl | rfl | rfl
    · exact .int _ _
    · exact .str _ _
    · exact ha t (by simp)
theorem mv_pl {l : List Row3} {at' : Nat} (h : ∀ t ∈ l.map tk3, Pl 1 t) : ∀ t ∈ l.map (mv3 at'), Pl 1 t := fun t m => by
  obtain ⟨q, mq, rfl⟩ := List.mem_map.mp m
  exact Pl.tok (h (tk3 q) (List.mem_map_of_mem mq))
theorem val_pl {v : T} (h : Val v) (n : Nat) : Pl n v := by
  rcases h with ⟨w, rfl, _⟩ | ⟨i, rfl⟩
  · exact .str _ _
  · exact .int _ _
theorem Fil_pl : ∀ {D : List (Str × List Row3)} {vs : List T} {at' : Nat}, (∀ d ∈ D, ∀ t ∈ d.2.map tk3, Pl 1 t) → (∀ v ∈ vs, Val v) → ∀ t ∈ Fil at' D vs, Pl 1 t
  | [], vs, at', _, _, t, m => by rw [Fil] at m; cases m
  | [(x, l)], vs, at', h, _, t, m => by
    rw [Fil_one] at m
    exact mv_pl (h (x, l) List.mem_cons_self) t m
  | (x, l) :: r :: D, vs, at', h, hv, t, m => by
    have h0 := mv_pl (at' := at') (h (x, l) List.mem_cons_self)
    by_cases c : lastK l = "invalid"
    · rw [Fil_inv c] at m
      exact h0 t m
    · cases vs with
      | nil =>
        have e : Fil at' ((x, l) :: r :: D) [] = l.map (mv3 at') := by simp [Fil]
        rw [e] at m
        exact h0 t m
      | cons v vs =>
        rw [Fil_step c] at m
        rcases List.mem_append.mp m with m | m
        · refine h0 t ?_
          obtain ⟨q, mq, rfl⟩ := List.mem_map.mp m
          exact List.mem_map_of_mem (List.dropLast_subset _ mq)
        · rcases List.mem_cons.mp m with rfl | m
          · refine .tup (by show 3 ≤ 1000000; decide) fun t m => ?_
            simp only [List.mem_cons, List.not_mem_nil, or_false] at m
            rcases m with rfl | rfl | rfl
            · exact .int _ _
            · exact .str _ _
            · exact val_pl (hv _ List.mem_cons_self) _
          · exact Fil_pl (D := r :: D) (vs := vs) (fun d md => h d (List.mem_cons_of_mem _ md)) (fun u mu => hv u (List.mem_cons_of_mem _ mu)) t m
theorem Fil_len : ∀ {D : List (Str × List Row3)} {vs : List T} {at' : Nat}, (∀ d ∈ D, d.2.length ≤ 3001) → (Fil at' D vs).length ≤ 3002 * D.length
  | [], vs, at', _ => by rw [Fil]; simp
  | [(x, l)], vs, at', h => by
    have h0 : l.length ≤ 3001 := h (x, l) List.mem_cons_self
    rw [Fil_one, List.length_map, List.length_singleton]
    omega
  | (x, l) :: r :: D, vs, at', h => by
    have h0 : l.length ≤ 3001 := h (x, l) List.mem_cons_self
    by_cases c : lastK l = "invalid"
    · rw [Fil_inv c, List.length_map, List.length_cons]
      omega
    · cases vs with
      | nil =>
        have e : Fil at' ((x, l) :: r :: D) [] = l.map (mv3 at') := by simp [Fil]
        rw [e, List.length_map, List.length_cons]
        omega
      | cons v vs =>
        have ih := Fil_len (D := r :: D) (vs := vs) (at' := at' + x.length + (sText v).length) fun d md => h d (List.mem_cons_of_mem _ md)
        rw [Fil_step c, List.length_append, List.length_cons, List.length_map, List.length_dropLast, List.length_cons]
        omega
/-! the law: the six pairs -/
theorem bad_none {vs : List T} {l : List Nat} (h : l = (List.range vs.length).filter fun j => !gv (vs.getD j .non)) : l = [] ↔ ∀ v ∈ vs, gv v = true := by
  subst h
  rw [List.filter_eq_nil_iff]
  constructor
  · intro q v m
    obtain ⟨j, hj⟩ := List.mem_iff_getElem?.mp m
    have hjl := (List.getElem?_eq_some_iff.mp hj).1
    have := q j (List.mem_range.mpr hjl)
    rw [List.getD_eq_getElem?_getD, hj] at this
    simpa using this
  · intro q j m
    have hj := List.mem_range.mp m
    rw [List.getD_eq_getElem?_getD, List.getElem?_eq_getElem hj]
    have := q _ (List.getElem_mem hj)
    simpa using this
noncomputable def T1 : Fx.Env → Sto → Fx.R Fl := (sSeq (sSet 12 (mUn (fLstRev true) (mVar 5)))
    (sSeq (sFor (mIt (mLst true (mCons (mTup (mCons (mVar 5) (mCons (mVar 9) mNil))) (mCons (mTup (mCons (mVar 5) (mCons (mVar 11) mNil))) (mCons (mTup (mCons (mVar 5) (mCons (mVar 10) mNil))) (mCons (mTup (mCons (mVar 12) (mCons (mVar 10) mNil))) (mCons (mTup (mCons (mVar 12) (mCons (mVar 11) mNil))) (mCons (mTup (mCons (mVar 5) (mCons (mVar 9) mNil))) mNil)))))))) (.nm 13)
    (sSeq (sSet 14 (mLc true [6] (mItN fRange1 (mCons (mVar 3) mNil)) (.nm 6) (mNot (mTru (mFn (fun ts S => if ts.length = 1 then F__law_is_value ts S else .bad) (mCons (mBin fIx (mBin fIx (mVar 13) (mC (.int 1))) (mVar 6)) mNil)))) (mVar 6)))
    (sSeq (sSet 15 (mTup mNil))
    (sSeq (sIf (mTru (mVar 14))
    (sSet 15 (mTup (mCons (mC (.str "bad value")) (mCons (mBin fIx (mVar 14) (mC (.int 0))) mNil))))
    (sSet 15 (mFn (fun ts S => if ts.length = 2 then F__law_filled ts S else .bad) (mCons (mBin fIx (mVar 13) (mC (.int 0))) (mCons (mBin fIx (mVar 13) (mC (.int 1))) mNil)))))
    (sIf (mNot (mTru (mFn (fun ts S => if ts.length = 2 then (F__law_same 24) ts S else .bad) (mCons (mFn (fun ts S => if ts.length = 2 then F__law_told ts S else .bad) (mCons (mFn fTuple (mCons (mBin fIx (mVar 13) (mC (.int 0))) mNil)) (mCons (mFn fTuple (mCons (mBin fIx (mVar 13) (mC (.int 1))) mNil)) mNil))) (mCons (mVar 15) mNil)))))
    (sRet (mC (.bl false)))
    sNext)))))
    (sRet (mC (.bl true)))))
theorem pairs_ok {xs : List Str} {t : Tp} {good others worse : List T} {n : Nat} {a1 a2 a4 a6 a7 a8 : Option T} (hn : n + 1 = xs.length) (hn2 : n ≤ 20) (hx : ∀ x ∈ xs, x.length ≤ 3000) (hg : ∀ v ∈ good, Val v) (ho : ∀ v ∈ others, Val v) (hw : ∀ v ∈ worse, Val v) (lg : good.length = n) (lo : others.length = n) (lw : worse.length = n) :
    Ok (T1 [a1, some (.ref 0), a2, some (.int (n : Int)), a4, some (.ref 1), a6, a7, a8, some (.lst good), some (.lst others), some (.lst worse), none, none, none, none] [t.o, .lst (xs.map T.str)]) (endQ fun t S1 => Fx.cl 0 (thaw 0 true t S1) = true ∧ thaw 0 true t S1 = .bl true) := by
  unfold T1
  have hrev : fLstRev true (.ref 1) [t.o, O.lst (xs.map T.str)] = .ok (.lst (xs.reverse.map T.str)) [t.o, O.lst (xs.map T.str)] := by
    rw [List.map_reverse]
    rfl
  try simp_arith only [hrev]
  refine ok_for (fun k τ S => ∃ (g : Sto) (y6 y13 y14 y15 : Option T), τ = [a1, some (.ref 0), a2, some (.int (n : Int)), a4, some (.ref 1), y6, a7, a8, some (.lst good), some (.lst others), some (.lst worse), some (.lst (xs.reverse.map T.str)), y13, y14, y15] ∧ S = t.o :: .lst (xs.map T.str) :: g) ⟨[], _, _, _, _, rfl, rfl⟩ ?_ ?_
  · rintro i u τ S e ⟨g, y6, y13, y14, y15, rfl, rfl⟩
    have hu : ∃ (tx : T) (vs : List T) (ys : List Str), u = .tup [tx, .lst vs] ∧ (∀ v ∈ vs, Val v) ∧ vs.length = n ∧ n + 1 = ys.length ∧ (∀ x ∈ ys, x.length ≤ 3000) ∧ (∀ g', lstOf (t.o :: .lst (xs.map T.str) :: g') tx = some (ys.map T.str)) ∧ (∀ g', fTuple [tx] (t.o :: .lst (xs.map T.str) :: g') = .ok (.tup (ys.map T.str)) (t.o :: .lst (xs.map T.str) :: g')) ∧ (∀ g', fLen [tx] (t.o :: .lst (xs.map T.str) :: g') = .ok (.int ys.length) (t.o :: .lst (xs.map T.str) :: g')) ∧ ∀ g' (k : Nat) y, ys[k]? = some y → fIx tx (.int (k : Int)) (t.o :: .lst (xs.map T.str) :: g') = .ok (.str y) (t.o :: .lst (xs.map T.str) :: g') := by
      have hat : ∀ (ys : List Str) (k : Nat) y, ys[k]? = some y → L2.atI (ys.map T.str) (k : Int) = some (.str y) := fun ys k y h => by
        rw [atI_in _ _ (by omega) (by rw [List.length_map]; have := (List.getElem?_eq_some_iff.mp h).1; omega)]
        show (ys.map T.str)[k]? = _
        rw [List.getElem?_map, h]
        rfl
      have hrl : n + 1 = xs.reverse.length := by rw [List.length_reverse]; exact hn
      have hrx : ∀ x ∈ xs.reverse, x.length ≤ 3000 := fun x m => hx x (List.mem_reverse.mp m)
      have fwd : ∀ vs : List T, (∀ v ∈ vs, Val v) → vs.length = n → ∃ (tx : T) (vs' : List T) (ys : List Str), T.tup [.ref 1, .lst vs] = .tup [tx, .lst vs'] ∧ (∀ v ∈ vs', Val v) ∧ vs'.length = n ∧ n + 1 = ys.length ∧ (∀ x ∈ ys, x.length ≤ 3000) ∧ (∀ g', lstOf (t.o :: .lst (xs.map T.str) :: g') tx = some (ys.map T.str)) ∧ (∀ g', fTuple [tx] (t.o :: .lst (xs.map T.str) :: g') = .ok (.tup (ys.map T.str)) (t.o :: .lst (xs.map T.str) :: g')) ∧ (∀ g', fLen [tx] (t.o :: .lst (xs.map T.str) :: g') = .ok (.int ys.length) (t.o :: .lst (xs.map T.str) :: g')) ∧ ∀ g' (k : Nat) y, ys[k]? = some y → fIx tx (.int (k : Int)) (t.o :: .lst (xs.map T.str) :: g') = .ok (.str y) (t.o :: .lst (xs.map T.str) :: g') := fun vs h1 h2 =>
        ⟨.ref 1, vs, xs, rfl, h1, h2, hn, hx, fun g' => rfl, fun g' => tup_ref (k := 1) rfl, fun g' => by
          rw [← List.length_map (as := xs) T.str]
          rfl, fun g' k y h => by
          show (match L2.atI (xs.map T.str) (k : Int) with
            | some t => R.ok t _
            | none => R.bad) = _
          rw [hat xs k y h]⟩
      have bwd : ∀ vs : List T, (∀ v ∈ vs, Val v) → vs.length = n → ∃ (tx : T) (vs' : List T) (ys : List Str), T.tup [.lst (xs.reverse.map T.str), .lst vs] = .tup [tx, .lst vs'] ∧ (∀ v ∈ vs', Val v) ∧ vs'.length = n ∧ n + 1 = ys.length ∧ (∀ x ∈ ys, x.length ≤ 3000) ∧ (∀ g', lstOf (t.o :: .lst (xs.map T.str) :: g') tx = some (ys.map T.str)) ∧ (∀ g', fTuple [tx] (t.o :: .lst (xs.map T.str) :: g') = .ok (.tup (ys.map T.str)) (t.o :: .lst (xs.map T.str) :: g')) ∧ (∀ g', fLen [tx] (t.o :: .lst (xs.map T.str) :: g') = .ok (.int ys.length) (t.o :: .lst (xs.map T.str) :: g')) ∧ ∀ g' (k : Nat) y, ys[k]? = some y → fIx tx (.int (k : Int)) (t.o :: .lst (xs.map T.str) :: g') = .ok (.str y) (t.o :: .lst (xs.map T.str) :: g') := fun vs h1 h2 =>
        ⟨.lst (xs.reverse.map T.str), vs, xs.reverse, rfl, h1, h2, hrl, hrx, fun g' => rfl, fun g' => rfl, fun g' => by
          rw [← List.length_map (as := xs.reverse) T.str]
          rfl, fun g' k y h => by
          show (match L2.atI (xs.reverse.map T.str) (k : Int) with
            | some t => R.ok t _
            | none => R.bad) = _
          rw [hat xs.reverse k y h]⟩
      have m := List.mem_of_getElem? e
      simp only [List.mem_cons, List.not_mem_nil, or_false] at m
      rcases m with rfl | rfl | rfl | rfl | rfl | rfl
      · exact fwd good hg lg
      · exact fwd worse hw lw
      · exact fwd others ho lo
      · exact bwd others ho lo
      · exact bwd worse hw lw
      · exact fwd good hg lg
    obtain ⟨tx, vs, ys, rfl, hV, lv, ly, hy, q1, q2, q3, q4⟩ := hu
    refine ⟨_, bindP_nm _ _ _, ?_⟩
    try simp_arith only []
    rw [range1_ev _ _ (by omega)]
    try simp_arith only []
    refine ok_lc (fun k acc S => acc = ((List.range k).filter fun j => !gv (vs.getD j .non)).map (fun j : Nat => T.int (j : Int)) ∧ S = t.o :: .lst (xs.map T.str) :: g) ⟨rfl, rfl⟩ ?_ ?_
    · rintro k v acc S e ⟨rfl, rfl⟩
      obtain ⟨hk, rfl⟩ := rangeT_at e
      refine ⟨_, bindP_nm _ _ _, ?_⟩
      have hk : k < vs.length := by omega
      have hva : L2.atI vs (0 + (k : Int)) = some vs[k] := by
        rw [Int.zero_add, atI_in _ _ (by omega) (by omega)]
        exact List.getElem?_eq_getElem hk
      try simp_arith only [hva]
      refine is_value_ok (hV _ (List.getElem_mem hk)) ?_
      have hgd : vs.getD k .non = vs[k] := by rw [List.getD_eq_getElem?_getD, List.getElem?_eq_getElem hk]; rfl
      rw [List.range_succ, List.filter_append, List.map_append]
      try simp only [fTru_bl, Ok_ok]
      cases hgk : gv vs[k] with
      | true =>
        rw [if_neg (by decide)]
        refine ⟨?_, trivial⟩
        have e9 : List.filter (fun j => !gv (vs.getD j .non)) [k] = [] := by simp only [List.filter_cons, List.filter_nil, hgd, hgk]; rfl
        rw [e9, List.map_nil, List.append_nil]
      | false =>
        rw [if_pos (by decide)]
        have hlt : ((List.range k).filter fun j => !gv (vs.getD j .non)).length ≤ k := by
          have := List.length_filter_le (fun j => !gv (vs.getD j .non)) (List.range k)
          rw [List.length_range] at this
          exact this
        refine ⟨by rw [List.length_map]; omega, ?_, trivial⟩
        have e9 : List.filter (fun j => !gv (vs.getD j .non)) [k] = [k] := by simp only [List.filter_cons, List.filter_nil, hgd, hgk]; rfl
        rw [e9, Int.zero_add]
        rfl
    · rintro acc S ⟨rfl, rfl⟩
      rw [rangeT_length, show (n : Int).toNat = vs.length by omega]
      obtain ⟨D, hDx, hDT⟩ := D_ex ys hy
      have hDl : D.length = ys.length := by rw [← hDx, List.length_map]
      have hD : D ≠ [] := fun h0 => by rw [h0] at hDl; simp at hDl; omega
      have hys : ys.map T.str = D.map fun d => T.str d.1 := by
        rw [← hDx, List.map_map]
        rfl
      have pl : Pl 2 (.tup (Fil 0 D vs)) := .tup (by
        have := Fil_len (D := D) (vs := vs) (at' := 0) fun d m => by
          have q := (hDT d m).1.len (Nat.zero_le _)
          rw [List.length_map] at q
          have := (hDT d m).2
          omega
        omega) (Fil_pl (fun d m => (hDT d m).1.pl) hV)
      cases hL : (List.range vs.length).filter fun j => !gv (vs.getD j .non) with
      | nil =>
        have hall := (bad_none hL.symm).mp rfl
        have hfn : fTru (.lst []) (t.o :: .lst (xs.map T.str) :: g) = .ok false (t.o :: .lst (xs.map T.str) :: g) := rfl
        try simp_arith only [List.map_nil, hfn]
        refine law_filled_ok (D := D) (S := t.o :: .lst (xs.map T.str) :: g) hD (by omega) hDT (fun v m => ⟨hV v m, hall v m⟩) (by omega) (fun g2 => by rw [hDl]; exact q3 (g ++ g2)) (fun g2 k d h => q4 (g ++ g2) k d.1 (by rw [← hDx, List.getElem?_map, h]; rfl)) fun g2 => ?_
        have q2' := q2 (g ++ g2)
        rw [hys] at q2'
        try simp_arith only [List.cons_append, q2']
        refine told_ok (D := D) hD (by omega) hDT hV (by omega) (fun _ => ?_) fun k v a b c => ?_
        · refine same_ok (d := 23) pl (pl.le (by decide)) fun b hb => ?_
          rw [hb.mpr rfl]
          try simp_arith only [fTru_bl, forQ]
          exact ⟨g ++ g2, _, _, _, _, rfl, rfl⟩
        · have := hall v (List.mem_of_getElem? a)
          rw [this] at b
          cases b
      | cons k0 L0 =>
        have hfn : fTru (.lst ((k0 :: L0).map fun j : Nat => T.int (j : Int))) (t.o :: .lst (xs.map T.str) :: g) = .ok true (t.o :: .lst (xs.map T.str) :: g) := rfl
        have q2' := q2 g
        rw [hys] at q2'
        rw [hfn]
        try simp_arith only [List.map_cons, q2']
        refine told_ok (D := D) hD (by omega) hDT hV (by omega) (fun hall => ?_) fun k v a b c => ?_
        · have := (bad_none rfl).mpr hall
          rw [hL] at this
          cases this
        · have ek : k = k0 := by
            have hp := (List.pairwise_lt_range (n := vs.length)).filter fun j => !gv (vs.getD j .non)
            rw [hL] at hp
            have hkv : vs.getD k .non = v := by rw [List.getD_eq_getElem?_getD, a]; rfl
            have hm : k ∈ k0 :: L0 := by
              rw [← hL]
              exact List.mem_filter.mpr ⟨List.mem_range.mpr (List.getElem?_eq_some_iff.mp a).1, by rw [hkv, b]; rfl⟩
            rcases List.mem_cons.mp hm with h | h
            · exact h
            · have hlt := (List.pairwise_cons.mp hp).1 k h
              have h0 : k0 ∈ k0 :: L0 := List.mem_cons_self
              rw [← hL] at h0
              obtain ⟨h1, h2⟩ := List.mem_filter.mp h0
              have h1 := List.mem_range.mp h1
              have h3 := c k0 vs[k0] hlt (List.getElem?_eq_getElem h1)
              rw [List.getD_eq_getElem?_getD, List.getElem?_eq_getElem h1] at h2
              have h2 : (!gv vs[k0]) = true := h2
              rw [h3] at h2
              cases h2
          subst ek
          have pl2 : ∀ n, Pl (n + 1) (.tup [.str "bad value", .int (k : Int)]) := fun n => .tup (by show 2 ≤ 1000000; decide) fun t m => by
            simp only [List.mem_cons, List.not_mem_nil, or_false] at m
            rcases m with rfl | rfl
            · exact .str _ _
            · exact .int _ _
          refine same_ok (d := 23) (pl2 0) (pl2 22) fun b hb => ?_
          rw [hb.mpr rfl]
          try simp_arith only [fTru_bl, forQ]
          exact ⟨g, _, _, _, _, rfl, rfl⟩
  · rintro τ S ⟨g, y6, y13, y14, y15, rfl, rfl⟩
    try simp_arith only [endQ]
    simp
/-! the law: the values drawn -/
noncomputable def T2 : Fx.Env → Sto → Fx.R Fl := (sSeq (sSet 9 (mLc true [6] (mItN fRange1 (mCons (mVar 3) mNil)) (.nm 6) mTrue (mFn (fun ts S => if ts.length = 2 then F__law_good_value ts S else .bad) (mCons (mVar 1) (mCons (mVar 2) mNil)))))
    (sSeq (sSet 10 (mLc true [6] (mItN fRange1 (mCons (mVar 3) mNil)) (.nm 6) mTrue (mFn (fun ts S => if ts.length = 2 then F__law_good_value ts S else .bad) (mCons (mVar 1) (mCons (mVar 2) mNil)))))
    (sSeq (sSet 11 (mVar 9))
    (sSeq (sIf (mTst (mBin fEq (mFn (fun ts S => if ts.length = 2 then F__law_draw ts S else .bad) (mCons (mVar 1) (mCons (mC (.int 3)) mNil))) (mC (.int 0))))
    (sSet 11 (mLc true [6] (mItN fRange1 (mCons (mVar 3) mNil)) (.nm 6) mTrue (mFn (fun ts S => if ts.length = 2 then F__law_any_value ts S else .bad) (mCons (mVar 1) (mCons (mVar 2) mNil)))))
    sNext)
    T1))))
theorem vals_lc {t : Tp} {ns : List Str} {n : Nat} {us : List T} {F : List T → Sto → Fx.R T} {Q : List T → Sto → Prop} {b1 b3 b4 b5 b7 b8 : Option T} {τ : Fx.Env} (hp : 0 ≤ t.pl) (hn : n ≤ 20) (hF : ∀ (t : Tp) (Q : T → Sto → Prop), 0 ≤ t.pl → (∀ (v : T) (t' : Tp), 0 ≤ t'.pl → Val v → Q v [t'.o, .lst us]) → Ok (F [.ref 0, .lst (ns.map T.str)] [t.o, .lst us]) Q)
    (h : ∀ (vs : List T) (t' : Tp), 0 ≤ t'.pl → (∀ v ∈ vs, Val v) → vs.length = n → Q vs [t'.o, .lst us]) :
    Ok (mLcGo ⟨Fx.rangeT 0 n, []⟩ (.nm 6) mTrue (mFn (fun ts S => if ts.length = 2 then F ts S else .bad) (mCons (mVar 1) (mCons (mVar 2) mNil))) (b1 :: some (.ref 0) :: some (.lst (ns.map T.str)) :: b3 :: b4 :: b5 :: none :: b7 :: b8 :: τ) (Fx.rangeT 0 n) [] [t.o, .lst us]) Q := by
  refine ok_lc (fun k acc S => ∃ t' : Tp, S = [t'.o, .lst us] ∧ 0 ≤ t'.pl ∧ (∀ v ∈ acc, Val v) ∧ acc.length = k) ⟨t, rfl, hp, (fun _ h => nomatch h), rfl⟩ ?_ ?_
  · rintro i u acc S e ⟨t', rfl, hp', hv, hl⟩
    obtain ⟨hi, rfl⟩ := rangeT_at e
    refine ⟨_, bindP_nm _ _ _, ?_⟩
    try simp_arith only []
    refine hF t' _ hp' fun v t2 hp2 hV => ?_
    refine ⟨by omega, t2, rfl, hp2, fun w m => ?_, by rw [List.length_append, hl]; rfl⟩
    rcases List.mem_append.mp m with m | m
    · exact hv w m
    · rw [List.mem_singleton.mp m]; exact hV
  · rintro acc S ⟨t', rfl, hp', hv, hl⟩
    rw [rangeT_length] at hl
    exact h acc t' hp' hv hl
theorem drawn_ok {xs : List Str} {ns : List Str} {t : Tp} {n : Nat} {a1 a4 a6 a7 a8 : Option T} (hp : 0 ≤ t.pl) (hn : n + 1 = xs.length) (hn2 : n ≤ 20) (hx : ∀ x ∈ xs, x.length ≤ 3000) (h1 : 1 ≤ ns.length) (h2 : ns.length ≤ 1000) (hnm : ∀ w ∈ ns, Nm w) :
    OkI (T2 [a1, some (.ref 0), some (.lst (ns.map T.str)), some (.int (n : Int)), a4, some (.ref 1), a6, a7, a8, none, none, none, none, none, none, none] [t.o, .lst (xs.map T.str)]) (endQ fun t S1 => Fx.cl 0 (thaw 0 true t S1) = true ∧ thaw 0 true t S1 = .bl true) := by
  rw [okI_eq]
  unfold T2
  have en : (n : Int).toNat = n := by omega
  have gF : ∀ (t : Tp) (Q : T → Sto → Prop), 0 ≤ t.pl → (∀ (v : T) (t' : Tp), 0 ≤ t'.pl → Val v → Q v [t'.o, .lst (xs.map T.str)]) → Ok (F__law_good_value [.ref 0, .lst (ns.map T.str)] [t.o, .lst (xs.map T.str)]) Q := fun t Q hp h => good_value_ok hp h1 h2 hnm fun v t' hp' hV _ => h v t' hp' hV
  have aF : ∀ (t : Tp) (Q : T → Sto → Prop), 0 ≤ t.pl → (∀ (v : T) (t' : Tp), 0 ≤ t'.pl → Val v → Q v [t'.o, .lst (xs.map T.str)]) → Ok (F__law_any_value [.ref 0, .lst (ns.map T.str)] [t.o, .lst (xs.map T.str)]) Q := fun t Q hp h => any_value_ok hp h1 h2 hnm fun v t' hp' hV => h v t' hp' hV
  try simp_arith only []
  rw [range1_ev _ _ (by omega)]
  try simp_arith only [en]
  refine vals_lc hp hn2 gF fun good t1 hp1 hg lg => ?_
  try simp_arith only []
  rw [range1_ev _ _ (by omega)]
  try simp_arith only [en]
  refine vals_lc hp1 hn2 gF fun others t2 hp2 ho lo => ?_
  try simp_arith only []
  refine draw_ok hp2 (by decide) fun j t3 hp3 hj0 hj => ?_
  try simp_arith only []
  by_cases c : j = 0
  · try simp_arith only [decide_eq_true c]
    rw [range1_ev _ _ (by omega)]
    try simp_arith only [en]
    refine vals_lc hp3 hn2 aF fun worse t4 hp4 hw lw => ?_
    try simp_arith only []
    exact pairs_ok hn hn2 hx hg ho hw lg lo lw
  · try simp_arith only [decide_eq_false c]
    exact pairs_ok hn hn2 hx hg ho hg lg lo lg
/-! the law: spaces behind the first text -/
noncomputable def T3 : Fx.Env → Sto → Fx.R Fl := (sSeq (sIf (mTst (mBin fEq (mFn (fun ts S => if ts.length = 2 then F__law_draw ts S else .bad) (mCons (mVar 1) (mCons (mC (.int 8)) mNil))) (mC (.int 0))))
    (sPut (mVar 5) (mC (.int 0)) (mBin (fAddA true) (mBin fIx (mVar 5) (mC (.int 0))) (mBin fMulS (mC (.str " ")) (mBin fSub (mC (.int 2000)) (mFn fSum (mCons (mLc true [8] (mIt (mVar 5)) (.nm 8) mTrue (mFn fLen (mCons (mVar 8) mNil))) mNil))))))
    sNext)
    T2)
theorem itRq {S : Sto} {k : Nat} {ts : List T} (h : S[k]? = some (.lst ts)) : itOf (.ref k) S = .ok ⟨ts, [(k, ts)]⟩ S := by
  show (match (match S[k]? with
    | some (.lst ts) => some ts
    | _ => none) with
    | some ts => R.ok (⟨ts, match S[k]? with
      | some (.lst ts) => [(k, ts)]
      | _ => []⟩ : Its) S
    | none => .bad) = _
  rw [h]
theorem intsOf_mapQ (ns : List Int) : intsOf (ns.map T.int) = some ns := by
  induction ns with
  | nil => rfl
  | cons y ys ih =>
    show (intsOf (ys.map T.int)).map (fun l => y :: l) = _
    rw [ih]
    rfl
theorem sum_evQ (ns : List Int) (S : Sto) : fSum [.lst (ns.map T.int)] S = .ok (.int ns.sum) S := by
  show (match lstOf S (.lst (ns.map T.int)) with
    | some ts => match intsOf ts with
      | some ns => R.ok (T.int ns.sum) S
      | none => .bad
    | none => .bad) = _
  show (match intsOf (ns.map T.int) with
      | some ns => R.ok (T.int ns.sum) S
      | none => .bad) = _
  rw [intsOf_mapQ]
theorem puts_ok {xs : List Str} {ns : List Str} {t : Tp} {n : Nat} {a1 a4 a6 a7 : Option T} (hp : 0 ≤ t.pl) (hn : n + 1 = xs.length) (hn2 : n ≤ 20) (hx : ∀ x ∈ xs, x.length ≤ 80) (h1 : 1 ≤ ns.length) (h2 : ns.length ≤ 1000) (hnm : ∀ w ∈ ns, Nm w) :
    OkI (T3 [a1, some (.ref 0), some (.lst (ns.map T.str)), some (.int (n : Int)), a4, some (.ref 1), a6, a7, none, none, none, none, none, none, none, none] [t.o, .lst (xs.map T.str)]) (endQ fun t S1 => Fx.cl 0 (thaw 0 true t S1) = true ∧ thaw 0 true t S1 = .bl true) := by
  rw [okI_eq]
  unfold T3
  try simp_arith only []
  refine draw_ok hp (by decide) fun j t1 hp1 hj0 hj => ?_
  try simp_arith only []
  by_cases c : j = 0
  · obtain ⟨x, ys, rfl⟩ : ∃ x ys, xs = x :: ys := by
      cases xs with
      | nil => simp at hn
      | cons x ys => exact ⟨x, ys, rfl⟩
    try simp_arith only [decide_eq_true c, List.map_cons]
    rw [itRq (k := 1) rfl]
    try simp_arith only []
    have hlc : ∀ (τ : Fx.Env) (S1 : Sto) (us : List T), S1[1]? = some (.lst us) → (∀ u ∈ us, ∃ z : Str, u = .str z ∧ z.length ≤ 80) → τ.length = 16 → us.length ≤ 21 → Ok (mLcGo ⟨us, [(1, us)]⟩ (.nm 8) mTrue (mFn fLen (mCons (mVar 8) mNil)) τ us [] S1) fun acc S2 => S2 = S1 ∧ ∃ ks : List Int, acc = ks.map T.int ∧ 0 ≤ ks.sum ∧ ks.sum ≤ 80 * us.length := fun τ S1 us hS hz ht hl => by
      refine ok_lcGo (fun k acc S2 => S2 = S1 ∧ ∃ ks : List Int, acc = ks.map T.int ∧ 0 ≤ ks.sum ∧ ks.sum ≤ 80 * k ∧ acc.length = k) (fun k acc S2 h => by
        intro p m
        rw [List.mem_singleton.mp m, h.1]
        exact hS) us 0 [] S1 ?_ ?_ ⟨rfl, [], rfl, by decide, by decide, rfl⟩
      · rintro i u acc S2 e ⟨rfl, ks, rfl, k1, k2, k3⟩
        obtain ⟨z, rfl, hzl⟩ := hz u (List.mem_of_getElem? e)
        have hi := (List.getElem?_eq_some_iff.mp e).1
        refine ⟨_, bindP_nm _ _ _, ?_⟩
        have hg : (τ.set 8 (some (T.str z)))[8]? = some (some (.str z)) := by rw [List.getElem?_set_self (by omega)]
        try simp_arith only [hg, ev_lenS' (show z.length ≤ 1000000 by omega), show z.length ≤ 1000000 by omega]
        refine ⟨by omega, trivial, ks ++ [(z.length : Int)], by simp, ?_, ?_, by rw [List.length_append, k3, List.length_singleton]; omega⟩
        · rw [List.sum_append]; simp; omega
        · rw [List.sum_append]; simp; omega
      · rintro acc S2 ⟨rfl, ks, rfl, k1, k2, k3⟩
        exact ⟨rfl, ks, rfl, k1, by omega⟩
    refine (hlc _ _ (T.str x :: ys.map T.str) rfl (fun u m => ?_) rfl (by rw [List.length_cons, List.length_map]; rw [List.length_cons] at hn; omega)).mono ?_
    · rw [← List.map_cons] at m
      obtain ⟨z, mz, rfl⟩ := List.mem_map.mp m
      exact ⟨z, rfl, hx z mz⟩
    · rintro acc S2 ⟨rfl, ks, rfl, k1, k2⟩
      rw [sum_evQ]
      have k3 : ks.sum ≤ 1680 := by
        rw [List.length_cons, List.length_map] at k2
        rw [List.length_cons] at hn
        omega
      have l1 : (" " : Str).length = 1 := by decide +kernel
      have lx : x.length ≤ 80 := hx x List.mem_cons_self
      try simp_arith only [ev_mulS]
      rw [if_pos ⟨by omega, by omega, by rw [l1]; omega⟩]
      have lr : (strRep " " (2000 - ks.sum).toNat).length ≤ 2000 := by
        have := strRep_len " " (2000 - ks.sum).toNat
        rw [l1] at this
        omega
      try simp_arith only [show x.length + (strRep " " (2000 - ks.sum).toNat).length ≤ 1000000 by omega]
      rw [show ixN ((ys.map T.str).length + 1) 0 = some 0 from by rw [ixN_in _ _ (by omega) (by omega)]; rfl]
      have hxs : ∀ z ∈ (x ++ strRep " " (2000 - ks.sum).toNat) :: ys, z.length ≤ 3000 := by
        intro z m
        rcases List.mem_cons.mp m with rfl | m
        · have : (x ++ strRep " " (2000 - ks.sum).toNat).length = x.length + (strRep " " (2000 - ks.sum).toNat).length := by rw [← cs_len, cs_app, List.length_append, cs_len, cs_len]
          omega
        · have := hx z (List.mem_cons_of_mem _ m)
          omega
      generalize (x ++ strRep " " (2000 - ks.sum).toNat) = z at hxs ⊢
      have hl : n + 1 = (z :: ys).length := hn
      try simp_arith only []
      rw [← okI_eq]
      exact drawn_ok (xs := z :: ys) (ns := ns) (t := t1) (n := n) hp1 hl hn2 hxs h1 h2 hnm
  · try simp_arith only [decide_eq_false c]
    have hx3 : ∀ x ∈ xs, x.length ≤ 3000 := fun x m => Nat.le_trans (hx x m) (by decide)
    rw [← okI_eq]
    exact drawn_ok hp1 hn hn2 hx3 h1 h2 hnm
/-! the law -/
noncomputable def B12 : Fx.Env → Sto → Fx.R Fl :=
    (sSeq (sSet 1 (mFn (fun ts S => if ts.length = 1 then F__law_tape ts S else .bad) (mCons (mVar 0) mNil)))
    (sSeq (sSet 2 (mFn (fun ts S => if ts.length = 2 then F__law_names ts S else .bad) (mCons (mVar 1) (mCons (mC (.int 5)) mNil))))
    (sSeq (sSet 3 (mBin fIx (mLst true (mCons (mC (.int 0)) (mCons (mC (.int 1)) (mCons (mC (.int 3)) (mCons (mC (.int 20)) mNil))))) (mFn (fun ts S => if ts.length = 2 then F__law_draw ts S else .bad) (mCons (mVar 1) (mCons (mC (.int 4)) mNil)))))
    (sSeq (sSet 4 (mFn (fun ts S => if ts.length = 2 then F__law_draw ts S else .bad) (mCons (mVar 1) (mCons (mC (.int 3)) mNil))))
    (sSeq (sSet 5 (mLst false mNil))
    (sSeq (sFor (mItN fRange1 (mCons (mBin (fAddA true) (mVar 3) (mC (.int 1))) mNil)) (.nm 6)
    (sDrop (mMeth isLst fAppend (mVar 5) (mCons (mSl (fSlA true) (mMeth isStr fJoin (mC (.str "")) (mCons (mLc true [7] (mItN fRange1 (mCons (mFn (fun ts S => if ts.length = 2 then F__law_draw ts S else .bad) (mCons (mVar 1) (mCons (mC (.int 9)) mNil))) mNil)) (.nm 7) mTrue (mFn (fun ts S => if ts.length = 3 then F__law_piece ts S else .bad) (mCons (mVar 1) (mCons (mVar 2) (mCons (mVar 4) mNil))))) mNil)) mO0 (mO1 (mC (.int 80)))) mNil))))
    T3))))))
theorem b12_eq : B_law = B12 := by
  unfold B_law B12 T3 T2 T1
  rfl
theorem flat_len (ls : List (List Nat)) : ls.flatten.length = (ls.map List.length).sum := by induction ls with
  | nil => rfl
  | cons a l ih => rw [List.flatten_cons, List.length_append, List.map_cons, List.sum_cons, ih]
theorem law_true : ∀ ns : List Int, ns.length ≤ 63 → ∃ S, F_law [.kst (ns.map T.int)] [] = .ok (.bl true) S := by
  intro scr _
  suffices h : Ok (F_law [.kst (scr.map T.int)] []) fun r _ => r = .bl true by
    obtain ⟨a, S, e, rfl⟩ := h.get
    exact ⟨S, e⟩
  unfold F_law
  refine ok_frame0 (by simp) ?_
  rw [b12_eq]
  generalize hB : B12 = B
  refine ok_run ?_
  subst hB
  unfold B12
  try simp_arith only []
  refine tape_ok fun t hp => ?_
  try simp_arith only []
  refine names_ok hp (by decide) (by decide) fun ns t1 hp1 hl hnd hnm => ?_
  have hl : ns.length = 5 := hl
  try simp_arith only []
  refine draw_ok hp1 (by decide) fun j t2 hp2 hj0 hj => ?_
  obtain ⟨n, hat, hn⟩ : ∃ n : Nat, L2.atI [T.int 0, .int 1, .int 3, .int 20] j = some (.int (n : Int)) ∧ n ≤ 20 := by
    have : j = 0 ∨ j = 1 ∨ j = 2 ∨ j = 3 := by omega
    rcases this with rfl | rfl | rfl | rfl
    · exact ⟨0, atI_0 .., by decide⟩
    · exact ⟨1, atI_1 .., by decide⟩
    · exact ⟨3, atI_2 .., by decide⟩
    · exact ⟨20, atI_3 .., by decide⟩
  try simp_arith only [hat]
  refine draw_ok hp2 (by decide) fun wild t3 hp3 hw0 hw => ?_
  try simp_arith only []
  rw [range1_ev _ _ (by omega)]
  have en : ((n : Int) + 1).toNat = n + 1 := by omega
  try simp_arith only [en]
  refine ok_for (fun i τ S => ∃ (xs : List Str) (t4 : Tp) (x : Option T), τ = [some (.kst (scr.map T.int)), some (.ref 0), some (.lst (ns.map T.str)), some (.int (n : Int)), some (.int wild), some (.ref 1), x, none, none, none, none, none, none, none, none, none] ∧ S = [t4.o, .lst (xs.map T.str)] ∧ 0 ≤ t4.pl ∧ xs.length = i ∧ ∀ z ∈ xs, z.length ≤ 80) ⟨[], t3, _, rfl, rfl, hp3, rfl, fun _ h => nomatch h⟩ ?_ ?_
  · rintro i u τ S e ⟨xs, t4, x, rfl, rfl, hp4, hxl, hxs⟩
    obtain ⟨hi, rfl⟩ := rangeT_at e
    refine ⟨_, bindP_nm _ _ _, ?_⟩
    try simp_arith only []
    refine draw_ok hp4 (by decide) fun m t5 hp5 hm0 hm => ?_
    try simp_arith only []
    rw [range1_ev _ _ (by omega)]
    try simp_arith only []
    refine ok_lc (fun k acc S => ∃ (ys : List Str) (t6 : Tp), acc = ys.map T.str ∧ S = [t6.o, .lst (xs.map T.str)] ∧ 0 ≤ t6.pl ∧ ys.length = k ∧ (ys.map Str.length).sum ≤ 73 * k) ⟨[], t5, rfl, rfl, hp5, rfl, Nat.le_refl 0⟩ ?_ ?_
    · rintro k v acc S e ⟨ys, t6, rfl, rfl, hp6, hyl, hys⟩
      obtain ⟨hk, rfl⟩ := rangeT_at e
      refine ⟨_, bindP_nm _ _ _, ?_⟩
      rw [ev_true, Ok_ok, if_pos rfl]
      try simp_arith only []
      refine piece_ok hp6 (by omega) (by omega) (fun w m => (hnm w m).le) fun w t7 hp7 hwl => ?_
      refine ⟨by rw [List.length_map]; omega, ys ++ [w], t7, by rw [List.map_append]; rfl, rfl, hp7, by simp [hyl], ?_⟩
      rw [List.map_append, List.sum_append]
      simp
      omega
    · rintro acc S ⟨ys, t6, rfl, rfl, hp6, hyl, hys⟩
      rw [rangeT_length] at hyl hys
      try simp_arith only []
      rw [join0_ev ys _ (by omega)]
      have hjl : (Txt.join "" ys).length = (ys.map Str.length).sum := by
        rw [← cs_len, cs_join0, flat_len, List.map_map]
        congr 1
      try simp_arith only [sl_to_at (show (0 : Int) ≤ 80 by decide) (show (Txt.join "" ys).length ≤ 1000000 by omega)]
      rw [append_ev (k := 1) rfl (by rw [List.length_map]; omega)]
      try simp_arith only [forQ]
      refine ⟨xs ++ [tx ((cs (Txt.join "" ys)).take 80)], t6, _, rfl, by rw [List.map_append]; rfl, hp6, by simp [hxl], fun z m => ?_⟩
      rcases List.mem_append.mp m with m | m
      · exact hxs z m
      · rw [List.mem_singleton.mp m, tx_take_len]
        exact Nat.min_le_left _ _
  · rintro τ S ⟨xs, t4, x, rfl, rfl, hp4, hxl, hxs⟩
    rw [rangeT_length] at hxl
    try simp_arith only []
    rw [← okI_eq]
    exact puts_ok (xs := xs) (ns := ns) (t := t4) (n := n) hp4 (by omega) hn hxs (by omega) (by omega) hnm
set_option maxHeartbeats 0 in
theorem all_mk {l : PySem.W.OpenLaw} {w : World} {K : PySem.W.Frag} {h : Heap} {mg : Str → Option Value} {fa : Addr} (law_true : ∀ ns : List Int, ns.length ≤ 63 → ∃ S, F_law [.kst (ns.map T.int)] [] = .ok (.bl true) S) (X : K.In h) (G : h.Ns mainGlobals mg) (hfa : mg "law" = some (.ref fa))
    {f0 : Addr} {od0 an0 : Option Addr} {sl0 : Array (Option Value)} {oc0 kV0 dc0 pm0 cd0 ct0 : Value}
    (a0 : PySem.W.nsIn K mainGlobals "_law_tape" = some (some (.ref f0))) (l0 : K.lookup f0 = some ⟨oc0, od0, .func (PySem.W.fnOf "_law_tape" "_law_tape" (defArgs st__law_tape) (defBody st__law_tape) (defScope st__law_tape) .none kV0 dc0 pm0 an0 cd0 ct0), sl0⟩) (c0 : PySem.W.codeIn K cd0 "_law_tape" = true) (k0 : PySem.W.keepIn K (.ref f0) = true)
    {f1 : Addr} {od1 an1 : Option Addr} {sl1 : Array (Option Value)} {oc1 kV1 dc1 pm1 cd1 ct1 : Value}
    (a1 : PySem.W.nsIn K mainGlobals "_law_draw" = some (some (.ref f1))) (l1 : K.lookup f1 = some ⟨oc1, od1, .func (PySem.W.fnOf "_law_draw" "_law_draw" (defArgs st__law_draw) (defBody st__law_draw) (defScope st__law_draw) .none kV1 dc1 pm1 an1 cd1 ct1), sl1⟩) (c1 : PySem.W.codeIn K cd1 "_law_draw" = true) (k1 : PySem.W.keepIn K (.ref f1) = true)
    {f2 : Addr} {od2 an2 : Option Addr} {sl2 : Array (Option Value)} {oc2 kV2 dc2 pm2 cd2 ct2 : Value}
    (a2 : PySem.W.nsIn K mainGlobals "_law_same" = some (some (.ref f2))) (l2 : K.lookup f2 = some ⟨oc2, od2, .func (PySem.W.fnOf "_law_same" "_law_same" (defArgs st__law_same) (defBody st__law_same) (defScope st__law_same) .none kV2 dc2 pm2 an2 cd2 ct2), sl2⟩) (c2 : PySem.W.codeIn K cd2 "_law_same" = true) (k2 : PySem.W.keepIn K (.ref f2) = true)
    {f3 : Addr} {od3 an3 : Option Addr} {sl3 : Array (Option Value)} {oc3 kV3 dc3 pm3 cd3 ct3 : Value}
    (a3 : PySem.W.nsIn K mainGlobals "_law_letters" = some (some (.ref f3))) (l3 : K.lookup f3 = some ⟨oc3, od3, .func (PySem.W.fnOf "_law_letters" "_law_letters" (defArgs st__law_letters) (defBody st__law_letters) (defScope st__law_letters) .none kV3 dc3 pm3 an3 cd3 ct3), sl3⟩) (c3 : PySem.W.codeIn K cd3 "_law_letters" = true) (k3 : PySem.W.keepIn K (.ref f3) = true)
    {f4 : Addr} {od4 an4 : Option Addr} {sl4 : Array (Option Value)} {oc4 kV4 dc4 pm4 cd4 ct4 : Value}
    (a4 : PySem.W.nsIn K mainGlobals "_law_reserved" = some (some (.ref f4))) (l4 : K.lookup f4 = some ⟨oc4, od4, .func (PySem.W.fnOf "_law_reserved" "_law_reserved" (defArgs st__law_reserved) (defBody st__law_reserved) (defScope st__law_reserved) .none kV4 dc4 pm4 an4 cd4 ct4), sl4⟩) (c4 : PySem.W.codeIn K cd4 "_law_reserved" = true) (k4 : PySem.W.keepIn K (.ref f4) = true)
    {f5 : Addr} {od5 an5 : Option Addr} {sl5 : Array (Option Value)} {oc5 kV5 dc5 pm5 cd5 ct5 : Value}
    (a5 : PySem.W.nsIn K mainGlobals "_law_run" = some (some (.ref f5))) (l5 : K.lookup f5 = some ⟨oc5, od5, .func (PySem.W.fnOf "_law_run" "_law_run" (defArgs st__law_run) (defBody st__law_run) (defScope st__law_run) .none kV5 dc5 pm5 an5 cd5 ct5), sl5⟩) (c5 : PySem.W.codeIn K cd5 "_law_run" = true) (k5 : PySem.W.keepIn K (.ref f5) = true)
    {f6 : Addr} {od6 an6 : Option Addr} {sl6 : Array (Option Value)} {oc6 kV6 dc6 pm6 cd6 ct6 : Value}
    (a6 : PySem.W.nsIn K mainGlobals "_law_names" = some (some (.ref f6))) (l6 : K.lookup f6 = some ⟨oc6, od6, .func (PySem.W.fnOf "_law_names" "_law_names" (defArgs st__law_names) (defBody st__law_names) (defScope st__law_names) .none kV6 dc6 pm6 an6 cd6 ct6), sl6⟩) (c6 : PySem.W.codeIn K cd6 "_law_names" = true) (k6 : PySem.W.keepIn K (.ref f6) = true)
    {f7 : Addr} {od7 an7 : Option Addr} {sl7 : Array (Option Value)} {oc7 kV7 dc7 pm7 cd7 ct7 : Value}
    (a7 : PySem.W.nsIn K mainGlobals "_law_signs" = some (some (.ref f7))) (l7 : K.lookup f7 = some ⟨oc7, od7, .func (PySem.W.fnOf "_law_signs" "_law_signs" (defArgs st__law_signs) (defBody st__law_signs) (defScope st__law_signs) .none kV7 dc7 pm7 an7 cd7 ct7), sl7⟩) (c7 : PySem.W.codeIn K cd7 "_law_signs" = true) (k7 : PySem.W.keepIn K (.ref f7) = true)
    {f8 : Addr} {od8 an8 : Option Addr} {sl8 : Array (Option Value)} {oc8 kV8 dc8 pm8 cd8 ct8 : Value}
    (a8 : PySem.W.nsIn K mainGlobals "_law_number_text" = some (some (.ref f8))) (l8 : K.lookup f8 = some ⟨oc8, od8, .func (PySem.W.fnOf "_law_number_text" "_law_number_text" (defArgs st__law_number_text) (defBody st__law_number_text) (defScope st__law_number_text) .none kV8 dc8 pm8 an8 cd8 ct8), sl8⟩) (c8 : PySem.W.codeIn K cd8 "_law_number_text" = true) (k8 : PySem.W.keepIn K (.ref f8) = true)
    {f9 : Addr} {od9 an9 : Option Addr} {sl9 : Array (Option Value)} {oc9 kV9 dc9 pm9 cd9 ct9 : Value}
    (a9 : PySem.W.nsIn K mainGlobals "_law_symbol" = some (some (.ref f9))) (l9 : K.lookup f9 = some ⟨oc9, od9, .func (PySem.W.fnOf "_law_symbol" "_law_symbol" (defArgs st__law_symbol) (defBody st__law_symbol) (defScope st__law_symbol) .none kV9 dc9 pm9 an9 cd9 ct9), sl9⟩) (c9 : PySem.W.codeIn K cd9 "_law_symbol" = true) (k9 : PySem.W.keepIn K (.ref f9) = true)
    {f10 : Addr} {od10 an10 : Option Addr} {sl10 : Array (Option Value)} {oc10 kV10 dc10 pm10 cd10 ct10 : Value}
    (a10 : PySem.W.nsIn K mainGlobals "_law_bad_piece" = some (some (.ref f10))) (l10 : K.lookup f10 = some ⟨oc10, od10, .func (PySem.W.fnOf "_law_bad_piece" "_law_bad_piece" (defArgs st__law_bad_piece) (defBody st__law_bad_piece) (defScope st__law_bad_piece) .none kV10 dc10 pm10 an10 cd10 ct10), sl10⟩) (c10 : PySem.W.codeIn K cd10 "_law_bad_piece" = true) (k10 : PySem.W.keepIn K (.ref f10) = true)
    {f11 : Addr} {od11 an11 : Option Addr} {sl11 : Array (Option Value)} {oc11 kV11 dc11 pm11 cd11 ct11 : Value}
    (a11 : PySem.W.nsIn K mainGlobals "_law_piece" = some (some (.ref f11))) (l11 : K.lookup f11 = some ⟨oc11, od11, .func (PySem.W.fnOf "_law_piece" "_law_piece" (defArgs st__law_piece) (defBody st__law_piece) (defScope st__law_piece) .none kV11 dc11 pm11 an11 cd11 ct11), sl11⟩) (c11 : PySem.W.codeIn K cd11 "_law_piece" = true) (k11 : PySem.W.keepIn K (.ref f11) = true)
    {f12 : Addr} {od12 an12 : Option Addr} {sl12 : Array (Option Value)} {oc12 kV12 dc12 pm12 cd12 ct12 : Value}
    (a12 : PySem.W.nsIn K mainGlobals "_law_is_value" = some (some (.ref f12))) (l12 : K.lookup f12 = some ⟨oc12, od12, .func (PySem.W.fnOf "_law_is_value" "_law_is_value" (defArgs st__law_is_value) (defBody st__law_is_value) (defScope st__law_is_value) .none kV12 dc12 pm12 an12 cd12 ct12), sl12⟩) (c12 : PySem.W.codeIn K cd12 "_law_is_value" = true) (k12 : PySem.W.keepIn K (.ref f12) = true)
    {f13 : Addr} {od13 an13 : Option Addr} {sl13 : Array (Option Value)} {oc13 kV13 dc13 pm13 cd13 ct13 : Value}
    (a13 : PySem.W.nsIn K mainGlobals "_law_good_value" = some (some (.ref f13))) (l13 : K.lookup f13 = some ⟨oc13, od13, .func (PySem.W.fnOf "_law_good_value" "_law_good_value" (defArgs st__law_good_value) (defBody st__law_good_value) (defScope st__law_good_value) .none kV13 dc13 pm13 an13 cd13 ct13), sl13⟩) (c13 : PySem.W.codeIn K cd13 "_law_good_value" = true) (k13 : PySem.W.keepIn K (.ref f13) = true)
    {f14 : Addr} {od14 an14 : Option Addr} {sl14 : Array (Option Value)} {oc14 kV14 dc14 pm14 cd14 ct14 : Value}
    (a14 : PySem.W.nsIn K mainGlobals "_law_any_value" = some (some (.ref f14))) (l14 : K.lookup f14 = some ⟨oc14, od14, .func (PySem.W.fnOf "_law_any_value" "_law_any_value" (defArgs st__law_any_value) (defBody st__law_any_value) (defScope st__law_any_value) .none kV14 dc14 pm14 an14 cd14 ct14), sl14⟩) (c14 : PySem.W.codeIn K cd14 "_law_any_value" = true) (k14 : PySem.W.keepIn K (.ref f14) = true)
    {f15 : Addr} {od15 an15 : Option Addr} {sl15 : Array (Option Value)} {oc15 kV15 dc15 pm15 cd15 ct15 : Value}
    (a15 : PySem.W.nsIn K mainGlobals "_law_stop" = some (some (.ref f15))) (l15 : K.lookup f15 = some ⟨oc15, od15, .func (PySem.W.fnOf "_law_stop" "_law_stop" (defArgs st__law_stop) (defBody st__law_stop) (defScope st__law_stop) .none kV15 dc15 pm15 an15 cd15 ct15), sl15⟩) (c15 : PySem.W.codeIn K cd15 "_law_stop" = true) (k15 : PySem.W.keepIn K (.ref f15) = true)
    {f16 : Addr} {od16 an16 : Option Addr} {sl16 : Array (Option Value)} {oc16 kV16 dc16 pm16 cd16 ct16 : Value}
    (a16 : PySem.W.nsIn K mainGlobals "_law_token" = some (some (.ref f16))) (l16 : K.lookup f16 = some ⟨oc16, od16, .func (PySem.W.fnOf "_law_token" "_law_token" (defArgs st__law_token) (defBody st__law_token) (defScope st__law_token) .none kV16 dc16 pm16 an16 cd16 ct16), sl16⟩) (c16 : PySem.W.codeIn K cd16 "_law_token" = true) (k16 : PySem.W.keepIn K (.ref f16) = true)
    {f17 : Addr} {od17 an17 : Option Addr} {sl17 : Array (Option Value)} {oc17 kV17 dc17 pm17 cd17 ct17 : Value}
    (a17 : PySem.W.nsIn K mainGlobals "_law_tokens" = some (some (.ref f17))) (l17 : K.lookup f17 = some ⟨oc17, od17, .func (PySem.W.fnOf "_law_tokens" "_law_tokens" (defArgs st__law_tokens) (defBody st__law_tokens) (defScope st__law_tokens) .none kV17 dc17 pm17 an17 cd17 ct17), sl17⟩) (c17 : PySem.W.codeIn K cd17 "_law_tokens" = true) (k17 : PySem.W.keepIn K (.ref f17) = true)
    {f18 : Addr} {od18 an18 : Option Addr} {sl18 : Array (Option Value)} {oc18 kV18 dc18 pm18 cd18 ct18 : Value}
    (a18 : PySem.W.nsIn K mainGlobals "_law_filled" = some (some (.ref f18))) (l18 : K.lookup f18 = some ⟨oc18, od18, .func (PySem.W.fnOf "_law_filled" "_law_filled" (defArgs st__law_filled) (defBody st__law_filled) (defScope st__law_filled) .none kV18 dc18 pm18 an18 cd18 ct18), sl18⟩) (c18 : PySem.W.codeIn K cd18 "_law_filled" = true) (k18 : PySem.W.keepIn K (.ref f18) = true)
    {f19 : Addr} {od19 an19 : Option Addr} {sl19 : Array (Option Value)} {oc19 kV19 dc19 pm19 cd19 ct19 : Value}
    (a19 : PySem.W.nsIn K mainGlobals "_run_end" = some (some (.ref f19))) (l19 : K.lookup f19 = some ⟨oc19, od19, .func (PySem.W.fnOf "_run_end" "_run_end" (defArgs st__run_end) (defBody st__run_end) (defScope st__run_end) .none kV19 dc19 pm19 an19 cd19 ct19), sl19⟩) (c19 : PySem.W.codeIn K cd19 "_run_end" = true) (k19 : PySem.W.keepIn K (.ref f19) = true)
    {f20 : Addr} {od20 an20 : Option Addr} {sl20 : Array (Option Value)} {oc20 kV20 dc20 pm20 cd20 ct20 : Value}
    (a20 : PySem.W.nsIn K mainGlobals "_token_end" = some (some (.ref f20))) (l20 : K.lookup f20 = some ⟨oc20, od20, .func (PySem.W.fnOf "_token_end" "_token_end" (defArgs st__token_end) (defBody st__token_end) (defScope st__token_end) .none kV20 dc20 pm20 an20 cd20 ct20), sl20⟩) (c20 : PySem.W.codeIn K cd20 "_token_end" = true) (k20 : PySem.W.keepIn K (.ref f20) = true)
    {f21 : Addr} {od21 an21 : Option Addr} {sl21 : Array (Option Value)} {oc21 kV21 dc21 pm21 cd21 ct21 : Value}
    (a21 : PySem.W.nsIn K mainGlobals "is_name" = some (some (.ref f21))) (l21 : K.lookup f21 = some ⟨oc21, od21, .func (PySem.W.fnOf "is_name" "is_name" (defArgs st_is_name) (defBody st_is_name) (defScope st_is_name) .none kV21 dc21 pm21 an21 cd21 ct21), sl21⟩) (c21 : PySem.W.codeIn K cd21 "is_name" = true) (k21 : PySem.W.keepIn K (.ref f21) = true)
    {f22 : Addr} {od22 an22 : Option Addr} {sl22 : Array (Option Value)} {oc22 kV22 dc22 pm22 cd22 ct22 : Value}
    (a22 : PySem.W.nsIn K mainGlobals "_is_number" = some (some (.ref f22))) (l22 : K.lookup f22 = some ⟨oc22, od22, .func (PySem.W.fnOf "_is_number" "_is_number" (defArgs st__is_number) (defBody st__is_number) (defScope st__is_number) .none kV22 dc22 pm22 an22 cd22 ct22), sl22⟩) (c22 : PySem.W.codeIn K cd22 "_is_number" = true) (k22 : PySem.W.keepIn K (.ref f22) = true)
    {f23 : Addr} {od23 an23 : Option Addr} {sl23 : Array (Option Value)} {oc23 kV23 dc23 pm23 cd23 ct23 : Value}
    (a23 : PySem.W.nsIn K mainGlobals "_kind_and_value" = some (some (.ref f23))) (l23 : K.lookup f23 = some ⟨oc23, od23, .func (PySem.W.fnOf "_kind_and_value" "_kind_and_value" (defArgs st__kind_and_value) (defBody st__kind_and_value) (defScope st__kind_and_value) .none kV23 dc23 pm23 an23 cd23 ct23), sl23⟩) (c23 : PySem.W.codeIn K cd23 "_kind_and_value" = true) (k23 : PySem.W.keepIn K (.ref f23) = true)
    {f24 : Addr} {od24 an24 : Option Addr} {sl24 : Array (Option Value)} {oc24 kV24 dc24 pm24 cd24 ct24 : Value}
    (a24 : PySem.W.nsIn K mainGlobals "split_text" = some (some (.ref f24))) (l24 : K.lookup f24 = some ⟨oc24, od24, .func (PySem.W.fnOf "split_text" "split_text" (defArgs st_split_text) (defBody st_split_text) (defScope st_split_text) .none kV24 dc24 pm24 an24 cd24 ct24), sl24⟩) (c24 : PySem.W.codeIn K cd24 "split_text" = true) (k24 : PySem.W.keepIn K (.ref f24) = true)
    {f25 : Addr} {od25 an25 : Option Addr} {sl25 : Array (Option Value)} {oc25 kV25 dc25 pm25 cd25 ct25 : Value}
    (a25 : PySem.W.nsIn K mainGlobals "_check_values" = some (some (.ref f25))) (l25 : K.lookup f25 = some ⟨oc25, od25, .func (PySem.W.fnOf "_check_values" "_check_values" (defArgs st__check_values) (defBody st__check_values) (defScope st__check_values) .none kV25 dc25 pm25 an25 cd25 ct25), sl25⟩) (c25 : PySem.W.codeIn K cd25 "_check_values" = true) (k25 : PySem.W.keepIn K (.ref f25) = true)
    {f26 : Addr} {od26 an26 : Option Addr} {sl26 : Array (Option Value)} {oc26 kV26 dc26 pm26 cd26 ct26 : Value}
    (a26 : PySem.W.nsIn K mainGlobals "_moved" = some (some (.ref f26))) (l26 : K.lookup f26 = some ⟨oc26, od26, .func (PySem.W.fnOf "_moved" "_moved" (defArgs st__moved) (defBody st__moved) (defScope st__moved) .none kV26 dc26 pm26 an26 cd26 ct26), sl26⟩) (c26 : PySem.W.codeIn K cd26 "_moved" = true) (k26 : PySem.W.keepIn K (.ref f26) = true)
    {f27 : Addr} {od27 an27 : Option Addr} {sl27 : Array (Option Value)} {oc27 kV27 dc27 pm27 cd27 ct27 : Value}
    (a27 : PySem.W.nsIn K mainGlobals "filled" = some (some (.ref f27))) (l27 : K.lookup f27 = some ⟨oc27, od27, .func (PySem.W.fnOf "filled" "filled" (defArgs st_filled) (defBody st_filled) (defScope st_filled) .none kV27 dc27 pm27 an27 cd27 ct27), sl27⟩) (c27 : PySem.W.codeIn K cd27 "filled" = true) (k27 : PySem.W.keepIn K (.ref f27) = true)
    {f28 : Addr} {od28 an28 : Option Addr} {sl28 : Array (Option Value)} {oc28 kV28 dc28 pm28 cd28 ct28 : Value}
    (a28 : PySem.W.nsIn K mainGlobals "_law_lone" = some (some (.ref f28))) (l28 : K.lookup f28 = some ⟨oc28, od28, .func (PySem.W.fnOf "_law_lone" "_law_lone" (defArgs st__law_lone) (defBody st__law_lone) (defScope st__law_lone) .none kV28 dc28 pm28 an28 cd28 ct28), sl28⟩) (c28 : PySem.W.codeIn K cd28 "_law_lone" = true) (k28 : PySem.W.keepIn K (.ref f28) = true)
    {f29 : Addr} {od29 an29 : Option Addr} {sl29 : Array (Option Value)} {oc29 kV29 dc29 pm29 cd29 ct29 : Value}
    (a29 : PySem.W.nsIn K mainGlobals "_law_told" = some (some (.ref f29))) (l29 : K.lookup f29 = some ⟨oc29, od29, .func (PySem.W.fnOf "_law_told" "_law_told" (defArgs st__law_told) (defBody st__law_told) (defScope st__law_told) .none kV29 dc29 pm29 an29 cd29 ct29), sl29⟩) (c29 : PySem.W.codeIn K cd29 "_law_told" = true) (k29 : PySem.W.keepIn K (.ref f29) = true)
    {f30 : Addr} {od30 an30 : Option Addr} {sl30 : Array (Option Value)} {oc30 kV30 dc30 pm30 cd30 ct30 : Value}
    (a30 : PySem.W.nsIn K mainGlobals "law" = some (some (.ref f30))) (l30 : K.lookup f30 = some ⟨oc30, od30, .func (PySem.W.fnOf "law" "law" (defArgs st_law) (defBody st_law) (defScope st_law) .none kV30 dc30 pm30 an30 cd30 ct30), sl30⟩) (c30 : PySem.W.codeIn K cd30 "law" = true) (k30 : PySem.W.keepIn K (.ref f30) = true)
    (z0 : PySem.W.nsIn K mainGlobals "ValueError" = some none)
    (z1 : PySem.W.nsIn K mainGlobals "abs" = some none)
    (z2 : PySem.W.nsIn K mainGlobals "bool" = some none)
    (z3 : PySem.W.nsIn K mainGlobals "enumerate" = some none)
    (z4 : PySem.W.nsIn K mainGlobals "int" = some none)
    (z5 : PySem.W.nsIn K mainGlobals "isinstance" = some none)
    (z6 : PySem.W.nsIn K mainGlobals "len" = some none)
    (z7 : PySem.W.nsIn K mainGlobals "list" = some none)
    (z8 : PySem.W.nsIn K mainGlobals "max" = some none)
    (z9 : PySem.W.nsIn K mainGlobals "min" = some none)
    (z10 : PySem.W.nsIn K mainGlobals "range" = some none)
    (z11 : PySem.W.nsIn K mainGlobals "reversed" = some none)
    (z12 : PySem.W.nsIn K mainGlobals "str" = some none)
    (z13 : PySem.W.nsIn K mainGlobals "sum" = some none)
    (z14 : PySem.W.nsIn K mainGlobals "tuple" = some none)
    (z15 : PySem.W.nsIn K mainGlobals "zip" = some none)
    {ck0 : _} (y0 : PySem.W.nsIn K mainGlobals "BLANKS" = some (some (.str cs_BLANKS ck0)))
    {ck1 : _} (y1 : PySem.W.nsIn K mainGlobals "DIGITS" = some (some (.str cs_DIGITS ck1)))
    {ck2 : _} (y2 : PySem.W.nsIn K mainGlobals "GREATEST_NUMBER" = some (some (.int cs_GREATEST_NUMBER ck2)))
    {ck3 : _} (y3 : PySem.W.nsIn K mainGlobals "LETTERS" = some (some (.str cs_LETTERS ck3)))
    {ck4 : _} (y4 : PySem.W.nsIn K mainGlobals "LONGEST_NAME" = some (some (.int cs_LONGEST_NAME ck4)))
    {ck5 : _} (y5 : PySem.W.nsIn K mainGlobals "MOST_DIGITS" = some (some (.int cs_MOST_DIGITS ck5)))
    {cf6 : Addr} {ci6 : Array Value} {cn6 : Nat} {cl6 : Array (Option Value)} (y6 : PySem.W.nsIn K mainGlobals "RESERVED" = some (some (.ref cf6))) (yl6 : K.lookup cf6 = some ⟨.type "tuple", none, .seq ci6 cn6, cl6⟩) (yt6 : (decide (ci6.size ≤ 100000) && flatRs ci6.toList cs_RESERVED) = true)
    {cf7 : Addr} {ci7 : Array Value} {cn7 : Nat} {cl7 : Array (Option Value)} (y7 : PySem.W.nsIn K mainGlobals "SYMBOLS" = some (some (.ref cf7))) (yl7 : K.lookup cf7 = some ⟨.type "tuple", none, .seq ci7 cn7, cl7⟩) (yt7 : (decide (ci7.size ≤ 100000) && flatRs ci7.toList cs_SYMBOLS) = true)
    {e0 : Addr} (ea0 : PySem.W.nsIn K mainGlobals "BadParticipant" = some (some (.ref e0)))
    {e1 : Addr} (ea1 : PySem.W.nsIn K mainGlobals "BadTransaction" = some (some (.ref e1)))
    {e2 : Addr} (ea2 : PySem.W.nsIn K mainGlobals "BadValue" = some (some (.ref e2)))
    {e3 : Addr} (ea3 : PySem.W.nsIn K mainGlobals "DoesNotHold" = some (some (.ref e3)))
    {e4 : Addr} (ea4 : PySem.W.nsIn K mainGlobals "Mistakes" = some (some (.ref e4)))
    {e5 : Addr} (ea5 : PySem.W.nsIn K mainGlobals "NeedsJournal" = some (some (.ref e5)))
    {e6 : Addr} (ea6 : PySem.W.nsIn K mainGlobals "NeedsModel" = some (some (.ref e6)))
    {e7 : Addr} (ea7 : PySem.W.nsIn K mainGlobals "NotASum" = some (some (.ref e7)))
    {e8 : Addr} (ea8 : PySem.W.nsIn K mainGlobals "NotRefuted" = some (some (.ref e8)))
    {e9 : Addr} (ea9 : PySem.W.nsIn K mainGlobals "NothingToRedo" = some (some (.ref e9)))
    {e10 : Addr} (ea10 : PySem.W.nsIn K mainGlobals "NothingToUndo" = some (some (.ref e10)))
    {e11 : Addr} (ea11 : PySem.W.nsIn K mainGlobals "ProofError" = some (some (.ref e11)))
    {e12 : Addr} (ea12 : PySem.W.nsIn K mainGlobals "ReadError" = some (some (.ref e12)))
    {e13 : Addr} (ea13 : PySem.W.nsIn K mainGlobals "TooMany" = some (some (.ref e13)))
    {e14 : Addr} (ea14 : PySem.W.nsIn K mainGlobals "UnknownClaim" = some (some (.ref e14)))
    {w0 : Addr} {wd0 wn0 : Option Addr} {ws0 : Array (Option Value)} {wc0 wk0 wo0 wp0 wq0 wt0 : Value}
    (wi0 : PySem.W.findIn K (.ref e2) "__init__" = some (some (.ref w0))) (wl0 : K.lookup w0 = some ⟨wc0, wd0, .func (PySem.W.fnOf "__init__" "BadValue.__init__" (defArgs sti_BadValue) (defBody sti_BadValue) (defScope sti_BadValue) .none wk0 wo0 wp0 wn0 wq0 wt0), ws0⟩) (wx0 : PySem.W.codeIn K wq0 "BadValue.__init__" = true) (wy0 : PySem.W.keepIn K (.ref w0) = true) (wz0 : PySem.W.typeIn K (.ref w0) = some (.type "function")) (wo0_ : oexB K e2 = true) (we0 : excB K e2 = true)
    (wf0_number : PySem.W.findIn K (.ref e2) "number" = some none)
    (wk0_BadParticipant : PySem.W.kitOne K (.ref e2) (.ref e0) = some false)
    (wk0_BadTransaction : PySem.W.kitOne K (.ref e2) (.ref e1) = some false)
    (wk0_BadValue : PySem.W.kitOne K (.ref e2) (.ref e2) = some true)
    (wk0_DoesNotHold : PySem.W.kitOne K (.ref e2) (.ref e3) = some false)
    (wk0_Mistakes : PySem.W.kitOne K (.ref e2) (.ref e4) = some false)
    (wk0_NeedsJournal : PySem.W.kitOne K (.ref e2) (.ref e5) = some false)
    (wk0_NeedsModel : PySem.W.kitOne K (.ref e2) (.ref e6) = some false)
    (wk0_NotASum : PySem.W.kitOne K (.ref e2) (.ref e7) = some false)
    (wk0_NotRefuted : PySem.W.kitOne K (.ref e2) (.ref e8) = some false)
    (wk0_NothingToRedo : PySem.W.kitOne K (.ref e2) (.ref e9) = some false)
    (wk0_NothingToUndo : PySem.W.kitOne K (.ref e2) (.ref e10) = some false)
    (wk0_ProofError : PySem.W.kitOne K (.ref e2) (.ref e11) = some true)
    (wk0_ReadError : PySem.W.kitOne K (.ref e2) (.ref e12) = some false)
    (wk0_TooMany : PySem.W.kitOne K (.ref e2) (.ref e13) = some false)
    (wk0_UnknownClaim : PySem.W.kitOne K (.ref e2) (.ref e14) = some false)
    (wk0_ValueError : PySem.W.kitOne K (.ref e2) (.type "ValueError") = some true)
    (wm0_BadValue : PySem.W.exmOne K (.ref e2) (.ref e2) = some true)
    : ∃ fd : FuncData, (∀ (s : Shared) (v : Value), BindsTo s fd ⟨[v], []⟩ [("script", v)]) ∧ ∀ base : Heap, K.In base → base.Ns mainGlobals mg → FnOk l.prog w K mg base CX0 26 fa fd ["script"] (spLaw K) := by
  have e := hfa.symm.trans (PySem.W.mg_of X G a30)
  cases e
  let T : Facts K mg := {
    a__law_tape := f0
    d__law_tape := _
    F__law_tape := fun_mk (st := st__law_tape) l0 c0 k0
    g__law_tape := PySem.W.mg_of X G a0
    b__law_tape := (fun_mk (st := st__law_tape) l0 c0 k0).binds (ps := ["script"]) fun _ _ _ _ _ _ us hl => match us, hl with | [_], _ => rfl
    a__law_draw := f1
    d__law_draw := _
    F__law_draw := fun_mk (st := st__law_draw) l1 c1 k1
    g__law_draw := PySem.W.mg_of X G a1
    b__law_draw := (fun_mk (st := st__law_draw) l1 c1 k1).binds (ps := ["tape", "many"]) fun _ _ _ _ _ _ us hl => match us, hl with | [_, _], _ => rfl
    a__law_same := f2
    d__law_same := _
    F__law_same := fun_mk (st := st__law_same) l2 c2 k2
    g__law_same := PySem.W.mg_of X G a2
    b__law_same := (fun_mk (st := st__law_same) l2 c2 k2).binds (ps := ["actual", "expected"]) fun _ _ _ _ _ _ us hl => match us, hl with | [_, _], _ => rfl
    a__law_letters := f3
    d__law_letters := _
    F__law_letters := fun_mk (st := st__law_letters) l3 c3 k3
    g__law_letters := PySem.W.mg_of X G a3
    b__law_letters := (fun_mk (st := st__law_letters) l3 c3 k3).binds (ps := []) fun _ _ _ _ _ _ us hl => match us, hl with | [], _ => rfl
    a__law_reserved := f4
    d__law_reserved := _
    F__law_reserved := fun_mk (st := st__law_reserved) l4 c4 k4
    g__law_reserved := PySem.W.mg_of X G a4
    b__law_reserved := (fun_mk (st := st__law_reserved) l4 c4 k4).binds (ps := []) fun _ _ _ _ _ _ us hl => match us, hl with | [], _ => rfl
    a__law_run := f5
    d__law_run := _
    F__law_run := fun_mk (st := st__law_run) l5 c5 k5
    g__law_run := PySem.W.mg_of X G a5
    b__law_run := (fun_mk (st := st__law_run) l5 c5 k5).binds (ps := ["tape", "size"]) fun _ _ _ _ _ _ us hl => match us, hl with | [_, _], _ => rfl
    a__law_names := f6
    d__law_names := _
    F__law_names := fun_mk (st := st__law_names) l6 c6 k6
    g__law_names := PySem.W.mg_of X G a6
    b__law_names := (fun_mk (st := st__law_names) l6 c6 k6).binds (ps := ["tape", "many"]) fun _ _ _ _ _ _ us hl => match us, hl with | [_, _], _ => rfl
    a__law_signs := f7
    d__law_signs := _
    F__law_signs := fun_mk (st := st__law_signs) l7 c7 k7
    g__law_signs := PySem.W.mg_of X G a7
    b__law_signs := (fun_mk (st := st__law_signs) l7 c7 k7).binds (ps := []) fun _ _ _ _ _ _ us hl => match us, hl with | [], _ => rfl
    a__law_number_text := f8
    d__law_number_text := _
    F__law_number_text := fun_mk (st := st__law_number_text) l8 c8 k8
    g__law_number_text := PySem.W.mg_of X G a8
    b__law_number_text := (fun_mk (st := st__law_number_text) l8 c8 k8).binds (ps := ["tape"]) fun _ _ _ _ _ _ us hl => match us, hl with | [_], _ => rfl
    a__law_symbol := f9
    d__law_symbol := _
    F__law_symbol := fun_mk (st := st__law_symbol) l9 c9 k9
    g__law_symbol := PySem.W.mg_of X G a9
    b__law_symbol := (fun_mk (st := st__law_symbol) l9 c9 k9).binds (ps := ["tape"]) fun _ _ _ _ _ _ us hl => match us, hl with | [_], _ => rfl
    a__law_bad_piece := f10
    d__law_bad_piece := _
    F__law_bad_piece := fun_mk (st := st__law_bad_piece) l10 c10 k10
    g__law_bad_piece := PySem.W.mg_of X G a10
    b__law_bad_piece := (fun_mk (st := st__law_bad_piece) l10 c10 k10).binds (ps := ["tape"]) fun _ _ _ _ _ _ us hl => match us, hl with | [_], _ => rfl
    a__law_piece := f11
    d__law_piece := _
    F__law_piece := fun_mk (st := st__law_piece) l11 c11 k11
    g__law_piece := PySem.W.mg_of X G a11
    b__law_piece := (fun_mk (st := st__law_piece) l11 c11 k11).binds (ps := ["tape", "names", "wild"]) fun _ _ _ _ _ _ us hl => match us, hl with | [_, _, _], _ => rfl
    a__law_is_value := f12
    d__law_is_value := _
    F__law_is_value := fun_mk (st := st__law_is_value) l12 c12 k12
    g__law_is_value := PySem.W.mg_of X G a12
    b__law_is_value := (fun_mk (st := st__law_is_value) l12 c12 k12).binds (ps := ["value"]) fun _ _ _ _ _ _ us hl => match us, hl with | [_], _ => rfl
    a__law_good_value := f13
    d__law_good_value := _
    F__law_good_value := fun_mk (st := st__law_good_value) l13 c13 k13
    g__law_good_value := PySem.W.mg_of X G a13
    b__law_good_value := (fun_mk (st := st__law_good_value) l13 c13 k13).binds (ps := ["tape", "names"]) fun _ _ _ _ _ _ us hl => match us, hl with | [_, _], _ => rfl
    a__law_any_value := f14
    d__law_any_value := _
    F__law_any_value := fun_mk (st := st__law_any_value) l14 c14 k14
    g__law_any_value := PySem.W.mg_of X G a14
    b__law_any_value := (fun_mk (st := st__law_any_value) l14 c14 k14).binds (ps := ["tape", "names"]) fun _ _ _ _ _ _ us hl => match us, hl with | [_, _], _ => rfl
    a__law_stop := f15
    d__law_stop := _
    F__law_stop := fun_mk (st := st__law_stop) l15 c15 k15
    g__law_stop := PySem.W.mg_of X G a15
    b__law_stop := (fun_mk (st := st__law_stop) l15 c15 k15).binds (ps := ["text", "at"]) fun _ _ _ _ _ _ us hl => match us, hl with | [_, _], _ => rfl
    a__law_token := f16
    d__law_token := _
    F__law_token := fun_mk (st := st__law_token) l16 c16 k16
    g__law_token := PySem.W.mg_of X G a16
    b__law_token := (fun_mk (st := st__law_token) l16 c16 k16).binds (ps := ["text", "at"]) fun _ _ _ _ _ _ us hl => match us, hl with | [_, _], _ => rfl
    a__law_tokens := f17
    d__law_tokens := _
    F__law_tokens := fun_mk (st := st__law_tokens) l17 c17 k17
    g__law_tokens := PySem.W.mg_of X G a17
    b__law_tokens := (fun_mk (st := st__law_tokens) l17 c17 k17).binds (ps := ["text"]) fun _ _ _ _ _ _ us hl => match us, hl with | [_], _ => rfl
    a__law_filled := f18
    d__law_filled := _
    F__law_filled := fun_mk (st := st__law_filled) l18 c18 k18
    g__law_filled := PySem.W.mg_of X G a18
    b__law_filled := (fun_mk (st := st__law_filled) l18 c18 k18).binds (ps := ["texts", "values"]) fun _ _ _ _ _ _ us hl => match us, hl with | [_, _], _ => rfl
    a__run_end := f19
    d__run_end := _
    F__run_end := fun_mk (st := st__run_end) l19 c19 k19
    g__run_end := PySem.W.mg_of X G a19
    b__run_end := (fun_mk (st := st__run_end) l19 c19 k19).binds (ps := ["text", "place", "characters"]) fun _ _ _ _ _ _ us hl => match us, hl with | [_, _, _], _ => rfl
    a__token_end := f20
    d__token_end := _
    F__token_end := fun_mk (st := st__token_end) l20 c20 k20
    g__token_end := PySem.W.mg_of X G a20
    b__token_end := (fun_mk (st := st__token_end) l20 c20 k20).binds (ps := ["text", "place"]) fun _ _ _ _ _ _ us hl => match us, hl with | [_, _], _ => rfl
    a_is_name := f21
    d_is_name := _
    F_is_name := fun_mk (st := st_is_name) l21 c21 k21
    g_is_name := PySem.W.mg_of X G a21
    b_is_name := (fun_mk (st := st_is_name) l21 c21 k21).binds (ps := ["text"]) fun _ _ _ _ _ _ us hl => match us, hl with | [_], _ => rfl
    a__is_number := f22
    d__is_number := _
    F__is_number := fun_mk (st := st__is_number) l22 c22 k22
    g__is_number := PySem.W.mg_of X G a22
    b__is_number := (fun_mk (st := st__is_number) l22 c22 k22).binds (ps := ["piece"]) fun _ _ _ _ _ _ us hl => match us, hl with | [_], _ => rfl
    a__kind_and_value := f23
    d__kind_and_value := _
    F__kind_and_value := fun_mk (st := st__kind_and_value) l23 c23 k23
    g__kind_and_value := PySem.W.mg_of X G a23
    b__kind_and_value := (fun_mk (st := st__kind_and_value) l23 c23 k23).binds (ps := ["piece"]) fun _ _ _ _ _ _ us hl => match us, hl with | [_], _ => rfl
    a_split_text := f24
    d_split_text := _
    F_split_text := fun_mk (st := st_split_text) l24 c24 k24
    g_split_text := PySem.W.mg_of X G a24
    b_split_text := (fun_mk (st := st_split_text) l24 c24 k24).binds (ps := ["text"]) fun _ _ _ _ _ _ us hl => match us, hl with | [_], _ => rfl
    a__check_values := f25
    d__check_values := _
    F__check_values := fun_mk (st := st__check_values) l25 c25 k25
    g__check_values := PySem.W.mg_of X G a25
    b__check_values := (fun_mk (st := st__check_values) l25 c25 k25).binds (ps := ["values"]) fun _ _ _ _ _ _ us hl => match us, hl with | [_], _ => rfl
    a__moved := f26
    d__moved := _
    F__moved := fun_mk (st := st__moved) l26 c26 k26
    g__moved := PySem.W.mg_of X G a26
    b__moved := (fun_mk (st := st__moved) l26 c26 k26).binds (ps := ["tokens", "start"]) fun _ _ _ _ _ _ us hl => match us, hl with | [_, _], _ => rfl
    a_filled := f27
    d_filled := _
    F_filled := fun_mk (st := st_filled) l27 c27 k27
    g_filled := PySem.W.mg_of X G a27
    b_filled := (fun_mk (st := st_filled) l27 c27 k27).binds (ps := ["texts", "values"]) fun _ _ _ _ _ _ us hl => match us, hl with | [_, _], _ => rfl
    a__law_lone := f28
    d__law_lone := _
    F__law_lone := fun_mk (st := st__law_lone) l28 c28 k28
    g__law_lone := PySem.W.mg_of X G a28
    b__law_lone := (fun_mk (st := st__law_lone) l28 c28 k28).binds (ps := ["e"]) fun _ _ _ _ _ _ us hl => match us, hl with | [_], _ => rfl
    a__law_told := f29
    d__law_told := _
    F__law_told := fun_mk (st := st__law_told) l29 c29 k29
    g__law_told := PySem.W.mg_of X G a29
    b__law_told := (fun_mk (st := st__law_told) l29 c29 k29).binds (ps := ["texts", "values"]) fun _ _ _ _ _ _ us hl => match us, hl with | [_, _], _ => rfl
    a_law := fa
    d_law := _
    F_law := fun_mk (st := st_law) l30 c30 k30
    g_law := PySem.W.mg_of X G a30
    b_law := (fun_mk (st := st_law) l30 c30 k30).binds (ps := ["script"]) fun _ _ _ _ _ _ us hl => match us, hl with | [_], _ => rfl
    m_ValueError := PySem.W.mg_none_of X G z0
    m_abs := PySem.W.mg_none_of X G z1
    m_bool := PySem.W.mg_none_of X G z2
    m_enumerate := PySem.W.mg_none_of X G z3
    m_int := PySem.W.mg_none_of X G z4
    m_isinstance := PySem.W.mg_none_of X G z5
    m_len := PySem.W.mg_none_of X G z6
    m_list := PySem.W.mg_none_of X G z7
    m_max := PySem.W.mg_none_of X G z8
    m_min := PySem.W.mg_none_of X G z9
    m_range := PySem.W.mg_none_of X G z10
    m_reversed := PySem.W.mg_none_of X G z11
    m_str := PySem.W.mg_none_of X G z12
    m_sum := PySem.W.mg_none_of X G z13
    m_tuple := PySem.W.mg_none_of X G z14
    m_zip := PySem.W.mg_none_of X G z15
    q_BLANKS := gc_str X G y0
    q_DIGITS := gc_str X G y1
    q_GREATEST_NUMBER := gc_int X G y2
    q_LETTERS := gc_str X G y3
    q_LONGEST_NAME := gc_int X G y4
    q_MOST_DIGITS := gc_int X G y5
    q_RESERVED := gc_tup X G y6 yl6 yt6
    q_SYMBOLS := gc_tup X G y7 yl7 yt7
    a_BadParticipant := e0
    g_BadParticipant := PySem.W.mg_of X G ea0
    a_BadTransaction := e1
    g_BadTransaction := PySem.W.mg_of X G ea1
    a_BadValue := e2
    g_BadValue := PySem.W.mg_of X G ea2
    a_DoesNotHold := e3
    g_DoesNotHold := PySem.W.mg_of X G ea3
    a_Mistakes := e4
    g_Mistakes := PySem.W.mg_of X G ea4
    a_NeedsJournal := e5
    g_NeedsJournal := PySem.W.mg_of X G ea5
    a_NeedsModel := e6
    g_NeedsModel := PySem.W.mg_of X G ea6
    a_NotASum := e7
    g_NotASum := PySem.W.mg_of X G ea7
    a_NotRefuted := e8
    g_NotRefuted := PySem.W.mg_of X G ea8
    a_NothingToRedo := e9
    g_NothingToRedo := PySem.W.mg_of X G ea9
    a_NothingToUndo := e10
    g_NothingToUndo := PySem.W.mg_of X G ea10
    a_ProofError := e11
    g_ProofError := PySem.W.mg_of X G ea11
    a_ReadError := e12
    g_ReadError := PySem.W.mg_of X G ea12
    a_TooMany := e13
    g_TooMany := PySem.W.mg_of X G ea13
    a_UnknownClaim := e14
    g_UnknownClaim := PySem.W.mg_of X G ea14
    ai_BadValue := w0
    di_BadValue := _
    Fi_BadValue := fun_mk (st := sti_BadValue) wl0 wx0 wy0
    bi_BadValue := (fun_mk (st := sti_BadValue) wl0 wx0 wy0).binds (ps := ["self", "number"]) fun _ _ _ _ _ _ us hl => match us, hl with | [_, _], _ => rfl
    M_BadValue := ⟨oexB_ok wo0_, wi0, wz0, PySem.W.mg_of X G ea2, gaK_of ea2⟩
    x_BadValue := we0
    n_BadValue_number := wf0_number
    kit_BadValue_BadParticipant := wk0_BadParticipant
    kit_BadValue_BadTransaction := wk0_BadTransaction
    kit_BadValue_BadValue := wk0_BadValue
    kit_BadValue_DoesNotHold := wk0_DoesNotHold
    kit_BadValue_Mistakes := wk0_Mistakes
    kit_BadValue_NeedsJournal := wk0_NeedsJournal
    kit_BadValue_NeedsModel := wk0_NeedsModel
    kit_BadValue_NotASum := wk0_NotASum
    kit_BadValue_NotRefuted := wk0_NotRefuted
    kit_BadValue_NothingToRedo := wk0_NothingToRedo
    kit_BadValue_NothingToUndo := wk0_NothingToUndo
    kit_BadValue_ProofError := wk0_ProofError
    kit_BadValue_ReadError := wk0_ReadError
    kit_BadValue_TooMany := wk0_TooMany
    kit_BadValue_UnknownClaim := wk0_UnknownClaim
    kit_BadValue_ValueError := wk0_ValueError
    exm_BadValue_BadValue := wm0_BadValue
  }
  exact ⟨T.d_law, fun s v => .of_eq rfl, fun base _ _ => law_ok rfl (ok_law T) law_true⟩
end Go
open PySem PySem.W PyProof.Rows
set_option maxHeartbeats 0 in
theorem PySem.Challenge.cw_ledgerproof_k12_filled_templates_holds : PySem.Challenge.rw_ledgerproof_k12_filled_templates.Holds := by
  w_on; o_law; k_head; (case hw => w_witness2)
  k_fill
  refine L2.walk_of (l := PySem.Challenge.rw_ledgerproof_k12_filled_templates) (n := 63) (k := 26) (x := "script") (CX := fun _ => L2.CX0) (sp := fun w => Fx.spLaw _) rfl (by decide) rfl ⟨rfl, by decide, by decide⟩ (fun w h Y => PySem.W.kIn_of Y) ?F (fun _ _ a ns hl _ hS => ⟨a, ns, rfl, hS, hl, fun _ => rfl⟩) (fun _ _ _ _ _ h => h)
  case F =>
    intro w mg fa h KX G hmg
    refine' Go.all_mk Go.law_true KX G hmg ?a0 ?l0 ?c0 ?k0 ?a1 ?l1 ?c1 ?k1 ?a2 ?l2 ?c2 ?k2 ?a3 ?l3 ?c3 ?k3 ?a4 ?l4 ?c4 ?k4 ?a5 ?l5 ?c5 ?k5 ?a6 ?l6 ?c6 ?k6 ?a7 ?l7 ?c7 ?k7 ?a8 ?l8 ?c8 ?k8 ?a9 ?l9 ?c9 ?k9 ?a10 ?l10 ?c10 ?k10 ?a11 ?l11 ?c11 ?k11 ?a12 ?l12 ?c12 ?k12 ?a13 ?l13 ?c13 ?k13 ?a14 ?l14 ?c14 ?k14 ?a15 ?l15 ?c15 ?k15 ?a16 ?l16 ?c16 ?k16 ?a17 ?l17 ?c17 ?k17 ?a18 ?l18 ?c18 ?k18 ?a19 ?l19 ?c19 ?k19 ?a20 ?l20 ?c20 ?k20 ?a21 ?l21 ?c21 ?k21 ?a22 ?l22 ?c22 ?k22 ?a23 ?l23 ?c23 ?k23 ?a24 ?l24 ?c24 ?k24 ?a25 ?l25 ?c25 ?k25 ?a26 ?l26 ?c26 ?k26 ?a27 ?l27 ?c27 ?k27 ?a28 ?l28 ?c28 ?k28 ?a29 ?l29 ?c29 ?k29 ?a30 ?l30 ?c30 ?k30 ?z0 ?z1 ?z2 ?z3 ?z4 ?z5 ?z6 ?z7 ?z8 ?z9 ?z10 ?z11 ?z12 ?z13 ?z14 ?z15 ?y0 ?y1 ?y2 ?y3 ?y4 ?y5 ?y6 ?yl6 ?yt6 ?y7 ?yl7 ?yt7 ?ea0 ?ea1 ?ea2 ?ea3 ?ea4 ?ea5 ?ea6 ?ea7 ?ea8 ?ea9 ?ea10 ?ea11 ?ea12 ?ea13 ?ea14 ?wi0 ?wl0 ?wx0 ?wy0 ?wz0 ?wo0_ ?we0 ?wf0_number ?wk0_BadParticipant ?wk0_BadTransaction ?wk0_BadValue ?wk0_DoesNotHold ?wk0_Mistakes ?wk0_NeedsJournal ?wk0_NeedsModel ?wk0_NotASum ?wk0_NotRefuted ?wk0_NothingToRedo ?wk0_NothingToUndo ?wk0_ProofError ?wk0_ReadError ?wk0_TooMany ?wk0_UnknownClaim ?wk0_ValueError ?wm0_BadValue
    (case a0 => k_is)
    (case l0 => k_is)
    (case c0 => k_is)
    (case k0 => k_is)
    (case a1 => k_is)
    (case l1 => k_is)
    (case c1 => k_is)
    (case k1 => k_is)
    (case a2 => k_is)
    (case l2 => k_is)
    (case c2 => k_is)
    (case k2 => k_is)
    (case a3 => k_is)
    (case l3 => k_is)
    (case c3 => k_is)
    (case k3 => k_is)
    (case a4 => k_is)
    (case l4 => k_is)
    (case c4 => k_is)
    (case k4 => k_is)
    (case a5 => k_is)
    (case l5 => k_is)
    (case c5 => k_is)
    (case k5 => k_is)
    (case a6 => k_is)
    (case l6 => k_is)
    (case c6 => k_is)
    (case k6 => k_is)
    (case a7 => k_is)
    (case l7 => k_is)
    (case c7 => k_is)
    (case k7 => k_is)
    (case a8 => k_is)
    (case l8 => k_is)
    (case c8 => k_is)
    (case k8 => k_is)
    (case a9 => k_is)
    (case l9 => k_is)
    (case c9 => k_is)
    (case k9 => k_is)
    (case a10 => k_is)
    (case l10 => k_is)
    (case c10 => k_is)
    (case k10 => k_is)
    (case a11 => k_is)
    (case l11 => k_is)
    (case c11 => k_is)
    (case k11 => k_is)
    (case a12 => k_is)
    (case l12 => k_is)
    (case c12 => k_is)
    (case k12 => k_is)
    (case a13 => k_is)
    (case l13 => k_is)
    (case c13 => k_is)
    (case k13 => k_is)
    (case a14 => k_is)
    (case l14 => k_is)
    (case c14 => k_is)
    (case k14 => k_is)
    (case a15 => k_is)
    (case l15 => k_is)
    (case c15 => k_is)
    (case k15 => k_is)
    (case a16 => k_is)
    (case l16 => k_is)
    (case c16 => k_is)
    (case k16 => k_is)
    (case a17 => k_is)
    (case l17 => k_is)
    (case c17 => k_is)
    (case k17 => k_is)
    (case a18 => k_is)
    (case l18 => k_is)
    (case c18 => k_is)
    (case k18 => k_is)
    (case a19 => k_is)
    (case l19 => k_is)
    (case c19 => k_is)
    (case k19 => k_is)
    (case a20 => k_is)
    (case l20 => k_is)
    (case c20 => k_is)
    (case k20 => k_is)
    (case a21 => k_is)
    (case l21 => k_is)
    (case c21 => k_is)
    (case k21 => k_is)
    (case a22 => k_is)
    (case l22 => k_is)
    (case c22 => k_is)
    (case k22 => k_is)
    (case a23 => k_is)
    (case l23 => k_is)
    (case c23 => k_is)
    (case k23 => k_is)
    (case a24 => k_is)
    (case l24 => k_is)
    (case c24 => k_is)
    (case k24 => k_is)
    (case a25 => k_is)
    (case l25 => k_is)
    (case c25 => k_is)
    (case k25 => k_is)
    (case a26 => k_is)
    (case l26 => k_is)
    (case c26 => k_is)
    (case k26 => k_is)
    (case a27 => k_is)
    (case l27 => k_is)
    (case c27 => k_is)
    (case k27 => k_is)
    (case a28 => k_is)
    (case l28 => k_is)
    (case c28 => k_is)
    (case k28 => k_is)
    (case a29 => k_is)
    (case l29 => k_is)
    (case c29 => k_is)
    (case k29 => k_is)
    (case a30 => k_is)
    (case l30 => k_is)
    (case c30 => k_is)
    (case k30 => k_is)
    (case z0 => k_is)
    (case z1 => k_is)
    (case z2 => k_is)
    (case z3 => k_is)
    (case z4 => k_is)
    (case z5 => k_is)
    (case z6 => k_is)
    (case z7 => k_is)
    (case z8 => k_is)
    (case z9 => k_is)
    (case z10 => k_is)
    (case z11 => k_is)
    (case z12 => k_is)
    (case z13 => k_is)
    (case z14 => k_is)
    (case z15 => k_is)
    (case y0 => k_is)
    (case y1 => k_is)
    (case y2 => k_is)
    (case y3 => k_is)
    (case y4 => k_is)
    (case y5 => k_is)
    (case y6 => k_is)
    (case yl6 => k_is)
    (case y7 => k_is)
    (case yl7 => k_is)
    (case ea0 => k_is)
    (case ea1 => k_is)
    (case ea2 => k_is)
    (case ea3 => k_is)
    (case ea4 => k_is)
    (case ea5 => k_is)
    (case ea6 => k_is)
    (case ea7 => k_is)
    (case ea8 => k_is)
    (case ea9 => k_is)
    (case ea10 => k_is)
    (case ea11 => k_is)
    (case ea12 => k_is)
    (case ea13 => k_is)
    (case ea14 => k_is)
    (case wi0 => k_is)
    (case wl0 => k_is)
    (case wx0 => k_is)
    (case wy0 => k_is)
    (case wz0 => k_is)
    (case wf0_number => k_is)
    (case yt6 => decide +kernel)
    (case yt7 => decide +kernel)
    (case wo0_ => kernel_rfl)
    (case we0 => kernel_rfl)
    (case wk0_BadParticipant => kernel_rfl)
    (case wk0_BadTransaction => kernel_rfl)
    (case wk0_BadValue => kernel_rfl)
    (case wk0_DoesNotHold => kernel_rfl)
    (case wk0_Mistakes => kernel_rfl)
    (case wk0_NeedsJournal => kernel_rfl)
    (case wk0_NeedsModel => kernel_rfl)
    (case wk0_NotASum => kernel_rfl)
    (case wk0_NotRefuted => kernel_rfl)
    (case wk0_NothingToRedo => kernel_rfl)
    (case wk0_NothingToUndo => kernel_rfl)
    (case wk0_ProofError => kernel_rfl)
    (case wk0_ReadError => kernel_rfl)
    (case wk0_TooMany => kernel_rfl)
    (case wk0_UnknownClaim => kernel_rfl)
    (case wk0_ValueError => kernel_rfl)
    (case wm0_BadValue => kernel_rfl)
