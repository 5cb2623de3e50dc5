import PyProof.Rows.All
import Wide.All
import OpenK.AllK
import Wide.FinOn
import KE.KStateDown
import HandS.Defaults
import HandS.Head0
import HandS.Head1
import HandS.Head2
import HandS.HeadEnd
import HandS.HeadHook1
import HandS.HeadHook2
import HandS.ForMost
import HandS.ForExc
import HandS.IsInst
import HandS.ExcIs
import HandS.ExcInit
import HandS.Wide
import HandS.WideBits
import HandS.Zip
import HandS.Flow
import HandS.Flt
import HandS.Walk
import HandS.More
import HandS.Deep
import HandS.SetKeys
import HandS.SortKw
import HandS.Conv
import KE.KDictWalk
import HandS.Style
import HandS.SortInts
import HandS.DictComp
import HandS.SortRule
import HandS.Iter
import PySem.Challenge.RW_bearerwise_k42_anchor
set_option Elab.async false
set_option linter.all false
set_option maxRecDepth 100000
set_option maxHeartbeats 4000000
namespace My
open PySem L2

/-! ### a def as the top has left it -/
structure DefAt (K : PySem.W.Frag) (mg : Str → Option Value) (x q : Str) (st : Stmt) (ps : List Str) (f : Addr) (fd : FuncData) : Prop where
  F : Fun K x q st f fd
  b : Binds K fd ps []
  m : mg x = some (.ref f)
structure MethAt (K : PySem.W.Frag) (C : Addr) (x q : Str) (st : Stmt) (ps : List Str) (f : Addr) (fd : FuncData) : Prop where
  F : Fun K x q st f fd
  b : Binds K fd ps []
  me : Meth K C x f

structure DefAt0 (K : PySem.W.Frag) (x q : Str) (st : Stmt) (ps : List Str) (f : Addr) (fd : FuncData) : Prop where
  F : Fun K x q st f fd
  b : Binds K fd ps []
structure ClsAt (K : PySem.W.Frag) (C f : Addr) : Prop where
  cl : Cls K C
  mk' : Mk K C f

/-! ### heaps -/
theorem same_upd {H : Hp} {p : Addr} {o : HO} (h : H p = none) : Same H (upd H p o) := fun b x e => by
  rw [upd_ne (ne_of_none e h)]
  exact e
theorem same_none {H H' : Hp} {p : Addr} (s : Same H H') (h : H' p = none) : H p = none := by
  cases e : H p with
  | none => rfl
  | some o =>
    rw [s _ _ e] at h
    cases h
/-- an object that H does not know may change -/
theorem same_mut {H H' : Hp} {p : Addr} {o : HO} (e : Same H H') (h : H p = none) : Same H (upd H' p o) := fun b x hb => by
  rw [upd_ne (ne_of_none hb h)]
  exact e b x hb
theorem sq_of {K : PySem.W.Frag} {H : Hp} {a : Addr} {xs : List V} (h : H a = some (.lst xs)) : SqL K H a xs := Or.inl (Or.inl h)
theorem st_of {K : PySem.W.Frag} {H : Hp} {a : Addr} {xs : List V} (h : H a = some (.tup xs)) : SqT K H a xs := Or.inl (Or.inl h)
theorem Same.sqt {K : PySem.W.Frag} {H H' : Hp} {a : Addr} {xs : List V} (e : Same H H') (h : SqT K H a xs) : SqT K H' a xs := by
  rcases h with (h | ⟨o, h⟩) | h
  · exact .inl (.inl (e _ _ h))
  · exact .inl (.inr ⟨o, e _ _ h⟩)
  · exact .inr h
theorem hp_step {H H' : Hp} {a : Addr} {o : HO} (h : H a = some o) (s : Same H H') : H' a = some o := s _ _ h
theorem sq_step {K : PySem.W.Frag} {H H' : Hp} {a : Addr} {xs : List V} (h : SqL K H a xs) (s : Same H H') : SqL K H' a xs := s.seq h
theorem sqt_step {K : PySem.W.Frag} {H H' : Hp} {a : Addr} {xs : List V} (h : SqT K H a xs) (s : Same H H') : SqT K H' a xs := Same.sqt s h
theorem sz {n : Nat} (h : n ≤ 1000000) : n ≤ sizeLine := Nat.le_trans h (by rw [sizeLine_eq]; decide)
theorem szl {n : Nat} (h : n < 1000000) : n < sizeLine := Nat.lt_of_lt_of_le h (by rw [sizeLine_eq]; decide)

/-- the promises' shapes: a value and the heap as it was; a value; a new list -/
def RV (v : V) (H : Hp) (Q : VK) : Prop := ∀ H', Same H H' → Q v H'
def RL (xs : List V) (H : Hp) (Q : VK) : Prop := ∀ p H', H p = none → Same H H' → H' p = some (.lst xs) → Q (.ref p) H'
def RT (xs : List V) (H : Hp) (Q : VK) : Prop := ∀ p H', H p = none → Same H H' → H' p = some (.tup xs) → Q (.ref p) H'

/-! ### stops for the walk: a proposition that no tuple opens -/
inductive Stop (p : Prop) : Prop where
  | a (h : p) : Stop p
  | b (h : p) : Stop p
theorem Stop.un {p : Prop} (h : Stop p) : p := by cases h <;> assumption

/-! ### an exception of an own class whose __init__ takes nothing and stores nothing: X() -/
def spInit0 : Sp := fun vs H Q _ => ∃ a, vs = [.ref a] ∧ Q .non H
structure PlainExc (P : Program) (w : World) (K : PySem.W.Frag) (mg : Str → Option Value) (base : Heap) (x : Str) (C fI : Addr) (fdI : FuncData) : Prop where
  T : OexC K C
  iC : PySem.W.findIn K (.ref C) "__init__" = some (some (.ref fI))
  tI : PySem.W.typeIn K (.ref fI) = some (.type "function")
  F1 : FnOk P w K mg base CX0 1 fI fdI ["self"] spInit0
  bI : Binds K fdI ["self"] []
  m : mg x = some (.ref C)
open PySem.Spec PyProof.Rows in
theorem mk_endN {X : Cx} {pins : List (Addr × Obj)} {σ : L2.St} {H1 : Hp} {Q : XK} {hp hp2 h2 : Heap} {g1 g2 : Array GenState} {d1 d2 : Drawn} {t1 t2 : Nat} {os1 os2 : OsState} {a C : Addr} (T : Raises X (.ref C)) (I1 : Inv X pins σ H1 ⟨hp, g1, d1, t1, os1⟩)
    (ha : hp.objs.size ≤ a) (k : ∀ b o, hp.get? b = some o → hp2.get? b = some o) (un : Un (frs X.stack) [] (upd H1 a (exo a C none)) (upd H1 a (exo a C none)) hp2 h2) (hok : HOk X.prog X.w (upd H1 a (exo a C none)) h2) (ho : os2 = os1) (hb : AllBare g2)
    (q : Q (.ref C) none H1) : MkP X pins σ Q (.ref a) ⟨h2, g2, d2, t2, os2⟩ := by
  obtain ⟨t0, hoe⟩ := exo_at hok upd_same
  have hn : H1 a = none := I1.hok.fresh ha
  obtain ⟨G, g1', g2'⟩ := restrict h2 fun b => decide (b ≠ a)
  have gk : ∀ b, b ≠ a → G.get? b = h2.get? b := fun b hb => g1' b (decide_eq_true hb)
  have ge : G.get? a = none := g2' a (by simp)
  have nha : ∀ {b : Addr} {o : Obj}, hp.get? b = some o → b ≠ a := fun {b o} z => Nat.ne_of_lt (Nat.lt_of_lt_of_le (Heap.lt_size z) ha)
  have up : ∀ {b : Addr}, b ≠ a → H1 b = none → upd H1 a (exo a C none) b = none := fun {b} hb n => by rw [upd_ne hb]; exact n
  have U : Un (frs X.stack) [] H1 H1 hp G := {
    keep := fun b o z n hf hx => by
      rw [gk b (nha z)]
      exact un.keep b o (k b o z) (up (nha z) n) hf hx
    slot := fun b o z n hf hx => by
      rw [gk b (nha z)]
      exact un.slot b o (k b o z) (up (nha z) n) hf hx
    free := fun b o z n hx => n
    there := fun b o z hx => by
      rw [gk b (nha z)]
      exact un.there b o (k b o z) hx
    tups := fun b xs z => z
    frzs := fun b o v z => z
    tbls := fun b ps z => ⟨#[], by rw [z]; simp⟩ }
  have hok3 : HOk X.prog X.w H1 G := fun b o z => by
    have hba : b ≠ a := fun e => by
      rw [e, hn] at z
      cases z
    have z2 : upd H1 a (exo a C none) b = some o := by rw [upd_ne hba]; exact z
    have noa : ∀ {c : Addr} {u : HO}, H1 c = some u → c ≠ a := fun {c u} hc e => by
      rw [e, hn] at hc
      cases hc
    exact (hok b o z2).stay (fun c v hc y => by
        have hca : c ≠ a := by
          rcases hc with hc | hc
          · rw [hc]
            exact hba
          · exact fun e => by
              rw [e, upd_same] at hc
              exact exo_own (Option.some.inj hc)
        rw [gk c hca]
        exact y)
      (fun c hc => by
        by_cases e : c = a
        · rw [e, upd_same] at hc
          exact absurd (Option.some.inj hc) exo_own
        · rw [upd_ne e] at hc
          exact hc)
      (fun c xs hc => by
        by_cases e : c = a
        · rw [e, upd_same] at hc
          exact absurd (Option.some.inj hc) exo_tup
        · rw [upd_ne e] at hc
          exact hc)
  have J : Inv X pins σ H1 ⟨G, g2, d2, t2, os2⟩ := I1.call' (ch := []) ho U hok3 hb (fun b z => absurd z (by simp))
  refine ⟨a, _, _, ⟨G, g2, d2, t2, os2⟩, _, .ref C, none, rfl, J, fun b o z => ?_, ge, hoe, ⟨rfl, rfl⟩, rfl, rfl, hn, rfl, hb, T, q⟩
  by_cases hba : b = a
  · rw [hba, ge] at z
    cases z
  · exact (gk b hba).symm.trans z
open PySem.Spec PyProof.Rows in
theorem pmk_plain {X : Cx} {x : Str} {C fI : Addr} {fdI : FuncData} {p pos : Pos} (T : PlainExc X.prog X.w X.K X.mg X.base x C fI fdI) (hr : Room 2 X.A) (hg : Gl X x) (hdb : (x == ("__debug__" : Str)) = false := by decide) :
    PMk X (.Call (.Name x p) [] [] pos) (fun _ H Q => Q (.ref C) none H) := by
  intro pins s σ H Q I h
  obtain ⟨nm, q, N, bs, bm, sn, sub, ab, col, dd, k0, k1, k2, k3, k5, hC, hbm⟩ := T.T.cls
  refine wpAny_Call_Name_kw (ld_glob I hg T.m ?_ hdb)
  refine PySem.W.callWith_K0 I.kIn T.T.kC ?_
  show wpAny _ _ (call (.ref C) []) _ _ _
  obtain ⟨hp, g, dr, tk, os⟩ := s
  have hsz : hp.objs.size ≤ hp.objs.size + 1 := Nat.le_succ _
  have hn : H (hp.objs.size + 1) = none := I.hok.fresh hsz
  have kk : ∀ b o, hp.get? b = some o → ((hp.push (PySem.W.kdv_tup [])).push (PySem.HandSPX.excO C hp.objs.size)).get? b = some o := fun b o e => Heap.get?_push_of_some _ (Heap.get?_push_of_some _ e)
  have hget : ((hp.push (PySem.W.kdv_tup [])).push (PySem.HandSPX.excO C hp.objs.size)).get? (hp.objs.size + 1) = some (PySem.HandSPX.excO C hp.objs.size) := by heap_get
  have I2 : Inv X pins σ (upd H (hp.objs.size + 1) (exo (hp.objs.size + 1) C none)) ⟨(hp.push (PySem.W.kdv_tup [])).push (PySem.HandSPX.excO C hp.objs.size), g, dr, tk, os⟩ :=
    I.laid (t' := tk) (a := hp.objs.size + 1) (o := exo (hp.objs.size + 1) C none) (h' := (hp.push (PySem.W.kdv_tup [])).push (PySem.HandSPX.excO C hp.objs.size)) kk hsz (exo_ok hget)
  have r2 : Vals [V.ref (hp.objs.size + 1)] [Value.ref (hp.objs.size + 1)] := .cons rfl .nil
  have hq : spInit0 [V.ref (hp.objs.size + 1)] (upd H (hp.objs.size + 1) (exo (hp.objs.size + 1) C none)) (fun v H2 => v = .non ∧ H2 = upd H (hp.objs.size + 1) (exo (hp.objs.size + 1) C none)) (fun _ _ _ => False) := ⟨_, rfl, rfl, rfl⟩
  refine wpAny_call (PySem.HandSPX.call_own PySem.F.excBase_ValueError (fun Y => PySem.HandSPX.refsVE_contains Y bm hbm) (I.kIn _ _ hC) (PySem.W.looks_findIn I.kIn T.iC) (fun self => PySem.W.bind_fn I.kIn self T.tI) (Nat.zero_le _)
    (codeAny_mono (T.F1.run _ X.stack _ _ ⟨[Value.ref (hp.objs.size + 1)], []⟩ [Value.ref (hp.objs.size + 1)] _ _ (fun _ _ _ => False) (hr.make C [] []) (I2.env0.make C [] []) (T.bI _ [Value.ref (hp.objs.size + 1)] I2.kIn rfl) r2 hq) fun r s' hq' => ?_))
  cases r with
  | error er => exact hq'.elim
  | ok fl =>
    cases fl with
    | ret u =>
      obtain ⟨v, H2, os2, bare2, un2, hok2, rv, ev, eH⟩ := hq'
      subst ev
      subst eH
      obtain ⟨h2, g2, d2, t2, os'⟩ := s'
      exact ⟨rv, mk_endN (raises_own T.T.exC T.T.tyC) I hsz kk un2 hok2 os2 bare2 h⟩
    | next => exact False.elim hq'
    | brk => exact False.elim hq'
    | cont => exact False.elim hq'

theorem ite_t {c A B : Prop} [Decidable c] (hc : c) (h : A) : if decide c = true then A else B := by
  rw [decide_eq_true hc]
  exact iteT h
theorem ite_f {c A B : Prop} [Decidable c] (hc : ¬ c) (h : B) : if decide c = true then A else B := by
  rw [decide_eq_false hc]
  exact iteF h
theorem ite_nt {c A B : Prop} [Decidable c] (hc : ¬ c) (h : A) : if (!decide c) = true then A else B := by
  rw [decide_eq_false hc]
  exact iteT h
theorem ite_nf {c A B : Prop} [Decidable c] (hc : c) (h : B) : if (!decide c) = true then A else B := by
  rw [decide_eq_true hc]
  exact iteF h
theorem ite_by {c A B : Prop} [Decidable c] (h1 : c → A) (h2 : ¬ c → B) : if decide c = true then A else B := by
  by_cases h : c
  · exact ite_t h (h1 h)
  · exact ite_f h (h2 h)
theorem ite_nby {c A B : Prop} [Decidable c] (h1 : ¬ c → A) (h2 : c → B) : if (!decide c) = true then A else B := by
  by_cases h : c
  · exact ite_nf h (h2 h)
  · exact ite_nt h (h1 h)
/-- an item of the ints -/
theorem at_int {ns : List Int} {k : Int} (h0 : 0 ≤ k) (h1 : k < (ns.length : Int)) : atI (ns.map V.int) k = some (V.int (ns.getD k.toNat 0)) := by
  refine at_of (j := k.toNat) (by omega) ?_
  have h2 : k.toNat < ns.length := by omega
  rw [List.getElem?_map, List.getElem?_eq_getElem h2, List.getD_eq_getElem?_getD, List.getElem?_eq_getElem h2]
  rfl
theorem two_pos1 (k : Nat) : (0 : Int) < 1 * 2 ^ k := by
  rw [Int.one_mul]
  exact Int.pow_pos (by decide)
theorem q_int {Q : VK} {x y : Int} {H : Hp} (q : Q (.int x) H) (e : x = y) : Q (.int y) H := e ▸ q
theorem q_bl {Q : VK} {x y : Bool} {H : Hp} (q : Q (.bl x) H) (e : x = y) : Q (.bl y) H := e ▸ q

/-! ### readings that stop the walk where a new object comes: told by what holds of the new heap -/
/-- the closure of a reading: some wish that it keeps, and that is enough -/
def cTE (t : TE) : TE := fun σ H Q => ∃ R : VK, t σ H R ∧ ∀ v H', R v H' → Q v H'
def cTA (t : TA) : TA := fun σ H Q => ∃ R : List V → Hp → Prop, t σ H R ∧ ∀ v H', R v H' → Q v H'
def cTT (t : TT) : TT := fun σ H Q => ∃ R : Bool → Hp → Prop, t σ H R ∧ ∀ v H', R v H' → Q v H'
section
variable {X : Cx} {e : Expr} {es : List Expr} {te : TE} {ta : TA} {tt : TT} {pos : Pos}
theorem pe_c (h : PE X e te) : PE X e (cTE te) := ⟨fun pins s σ H Q I ⟨R, h1, h2⟩ => thn (h.run pins s σ H R I h1) fun u s1 ⟨v, H1, I1, r, q⟩ => ⟨v, H1, I1, r, h2 _ _ q⟩⟩
theorem pa_c (h : PA X es ta) : PA X es (cTA ta) := ⟨fun pos pins s σ H Q I ⟨R, h1, h2⟩ => thn (h.run pos pins s σ H R I h1) fun u s1 ⟨v, H1, I1, r, q⟩ => ⟨v, H1, I1, r, h2 _ _ q⟩⟩
theorem pt_c (h : PT X e tt) : PT X e (cTT tt) := ⟨fun pins s σ H Q I ⟨R, h1, h2⟩ => thn (h.run pins s σ H R I h1) fun u s1 ⟨H1, I1, q⟩ => ⟨H1, I1, h2 _ _ q⟩⟩
theorem pe_weak {te' : TE} (h : PE X e te) (w : ∀ σ H Q, te' σ H Q → te σ H Q) : PE X e te' := ⟨fun pins s σ H Q I q => h.run pins s σ H Q I (w σ H Q q)⟩
theorem ps_weak {st : Stmt} {t t' : TS} (h : PS X st t) (w : ∀ D σ H, t' D σ H → t D σ H) : PS X st t' := ⟨fun pins s σ H D I q => h.run pins s σ H D I (w D σ H q)⟩
end
/-- what is wanted of a new object -/
def NewO (o : HO) (H : Hp) (Q : VK) : Prop := ∀ p H', H p = none → Same H H' → H' p = some o → Q (.ref p) H'
theorem NewO.go {o : HO} {H : Hp} {Q : VK} (h : NewO o H Q) : ∀ p, H p = none → Q (.ref p) (upd H p o) := fun p hp => h p _ hp (same_upd hp) upd_same
@[irreducible] def mTup (t : TA) : TE := fun σ H Q => t σ H fun xs H1 => xs.length ≤ 1000 ∧ NewO (.tup xs) H1 Q
@[irreducible] def mLst (t : TA) : TE := fun σ H Q => t σ H fun xs H1 => xs.length ≤ 1000 ∧ NewO (.lst xs) H1 Q
theorem rd_tup {t : TA} {σ : L2.St} {H : Hp} {Q : VK} (h : t σ H fun xs H1 => xs.length ≤ 1000 ∧ NewO (.tup xs) H1 Q) : mTup t σ H Q := by
  unfold mTup
  exact h
theorem rd_lst {t : TA} {σ : L2.St} {H : Hp} {Q : VK} (h : t σ H fun xs H1 => xs.length ≤ 1000 ∧ NewO (.lst xs) H1 Q) : mLst t σ H Q := by
  unfold mLst
  exact h
@[irreducible] def mCat (K : PySem.W.Frag) : R2 := fun x y H Q => ∃ l b xs zs, x = .ref l ∧ y = .ref b ∧ H l = some (.lst xs) ∧ H b = some (.lst zs) ∧ xs.length + zs.length ≤ 1000000 ∧ NewO (.lst (xs ++ zs)) H Q
theorem rd_cat {K : PySem.W.Frag} {l b : Addr} {xs zs : List V} {H : Hp} {Q : VK} (h1 : H l = some (.lst xs)) (h2 : H b = some (.lst zs)) (hz : xs.length + zs.length ≤ 1000000) (h : NewO (.lst (xs ++ zs)) H Q) : mCat K (.ref l) (.ref b) H Q := by
  unfold mCat
  exact ⟨l, b, xs, zs, rfl, rfl, h1, h2, hz, h⟩
@[irreducible] def mRep : R2 := fun x y H Q => ∃ l k xs, x = .ref l ∧ y = .int k ∧ H l = some (.lst xs) ∧ 0 ≤ k ∧ k ≤ 100000 ∧ xs.length * k.toNat ≤ 1000000 ∧ NewO (.lst (List.replicate k.toNat xs).flatten) H Q
@[irreducible] def mSlL (K : PySem.W.Frag) : V → Option Int → Option Int → Hp → VK → Prop := fun x lo hi H Q => ∃ a xs, x = .ref a ∧ SqL K H a xs ∧ NewO (.lst (cutV xs lo hi)) H Q
theorem rd_sl {K : PySem.W.Frag} {a : Addr} {xs : List V} {lo hi : Option Int} {H : Hp} {Q : VK} (h1 : SqL K H a xs) (h : NewO (.lst (cutV xs lo hi)) H Q) : mSlL K (.ref a) lo hi H Q := by
  unfold mSlL
  exact ⟨a, xs, rfl, h1, h⟩
@[irreducible] def mListOf (K : PySem.W.Frag) : List V → Hp → VK → Prop := fun xs H Q => ∃ p ys, xs = [.ref p] ∧ (SqL K H p ys ∨ SqT K H p ys) ∧ NewO (.lst ys) H Q
theorem rd_list {K : PySem.W.Frag} {a : Addr} {xs : List V} {H : Hp} {Q : VK} (h1 : SqL K H a xs) (h : NewO (.lst xs) H Q) : mListOf K [.ref a] H Q := by
  unfold mListOf
  exact ⟨a, xs, rfl, .inl h1, h⟩
/-- the elements of a comprehension, one by one: what each gives, the heap grown at most -/
def Elt (te : TE) (σ : L2.St) (H : Hp) (y : V) : Prop := ∀ H', Same H H' → te σ H' fun v H'' => v = y ∧ Same H' H''
@[irreducible] def mLcR1 (ta : TA) (j : Nat) (te : TE) (vs : List Nat) : TE := fun σ H Q => ta σ H fun ws H1 => ∃ (n : Int) (f : Nat → V), ws = [.int n] ∧ (-100000 ≤ n ∧ n ≤ 100000) ∧ (∀ i, i < n.toNat → Elt te ((wipe σ vs).set j (some (.int (i : Nat)))) H1 (f i)) ∧ NewO (.lst ((List.range n.toNat).map f)) H1 Q
theorem rd_lcR1 {ta : TA} {j : Nat} {te : TE} {vs : List Nat} {σ : L2.St} {H : Hp} {Q : VK} (h : ta σ H fun ws H1 => ∃ (n : Int) (f : Nat → V), ws = [.int n] ∧ (-100000 ≤ n ∧ n ≤ 100000) ∧ (∀ i, i < n.toNat → Elt te ((wipe σ vs).set j (some (.int (i : Nat)))) H1 (f i)) ∧ NewO (.lst ((List.range n.toNat).map f)) H1 Q) : mLcR1 ta j te vs σ H Q := by
  unfold mLcR1
  exact h
@[irreducible] def mLcL (K : PySem.W.Frag) (tl : TE) (j : Nat) (te : TE) (vs : List Nat) : TE := fun σ H Q => tl σ H fun x H1 => ∃ (a : Addr) (xs : List V) (f : V → V), x = .ref a ∧ SqL K H1 a xs ∧ xs.length ≤ 100000 ∧ (∀ y, y ∈ xs → Elt te ((wipe σ vs).set j (some y)) H1 (f y)) ∧ NewO (.lst (xs.map f)) H1 Q
theorem rd_lcL {K : PySem.W.Frag} {tl : TE} {j : Nat} {te : TE} {vs : List Nat} {σ : L2.St} {H : Hp} {Q : VK} (h : tl σ H fun x H1 => ∃ (a : Addr) (xs : List V) (f : V → V), x = .ref a ∧ SqL K H1 a xs ∧ xs.length ≤ 100000 ∧ (∀ y, y ∈ xs → Elt te ((wipe σ vs).set j (some y)) H1 (f y)) ∧ NewO (.lst (xs.map f)) H1 Q) : mLcL K tl j te vs σ H Q := by
  unfold mLcL
  exact h
theorem wipe_set {σ : L2.St} {vs : List Nat} {j : Nat} {x : Option V} (hj : vs = [j]) : wipe ((wipe σ vs).set j x) vs = wipe σ vs := by
  subst hj
  show ((σ.set j none).set j x).set j none = σ.set j none
  rw [List.set_set, List.set_set]
section
variable {X : Cx} {e : Expr} {es : List Expr} {te : TE} {t ta : TA} {tt : TT} {pos : Pos}
theorem pe_tupM {x1} (h : PA X es t) : PE X (.Tuple es x1 pos) (mTup t) := pe_weak (pe_tup (pa_c h)) fun σ H Q q => by
  unfold mTup at q
  exact ⟨_, q, fun xs H1 r => ⟨sz (Nat.le_trans r.1 (by decide)), r.2.go⟩⟩
theorem pe_lstM (h : PA X es t) : PE X (.List es pos) (mLst t) := pe_weak (pe_lst (pa_c h)) fun σ H Q q => by
  unfold mLst at q
  exact ⟨_, q, fun xs H1 r => ⟨sz (Nat.le_trans r.1 (by decide)), r.2.go⟩⟩
theorem op_catM : OpR X (binaryOp .Add) (mCat X.K) := fun pins s σ H x y v u Q I rx ry q => op_cat pins s σ H x y v u Q I rx ry (by
  unfold mCat at q
  obtain ⟨l, b, xs, zs, e1, e2, h1, h2, hz, h⟩ := q
  exact ⟨l, b, xs, zs, e1, e2, h1, h2, sz hz, h.go⟩)
theorem sl_listM : SlR X (mSlL X.K) := fun pins s σ H x v vl vu lo hi sl Q I rx hs pl pu q => sl_list pins s σ H x v vl vu lo hi sl Q I rx hs pl pu (by
  unfold mSlL at q
  obtain ⟨a, xs, e1, h1, h⟩ := q
  exact ⟨a, xs, e1, h1, h.go⟩)
theorem call_listM : CallR X (.type "list") (mListOf X.K) := fun pins s σ H xs us Q I r q => call_list_of pins s σ H xs us Q I r (by
  unfold mListOf at q
  obtain ⟨a, xs, e1, h1, h⟩ := q
  exact ⟨a, xs, e1, h1, h.go⟩)
/-- [e for x in range(n)] -/
theorem lcR1_of {ta : TA} {j : Nat} {te : TE} {vs : List Nat} {σ : L2.St} {H : Hp} {Q : VK} (hj : vs = [j]) (q : mLcR1 ta j te vs σ H Q) : tLc (iRng1 (cTA ta)) (gName j) tYes (cTE te) vs σ H Q := by
  unfold mLcR1 at q
  refine ⟨_, q, fun ws H1 r => ?_⟩
  obtain ⟨n, f, rfl, hn, he, hq⟩ := r
  obtain ⟨hn0, hn⟩ := hn
  have big : (2 : Int) ^ 62 = 4611686018427387904 := by decide
  refine ⟨n, rfl, by omega, by omega, fun D hD => ?_⟩
  refine lc_range (lo := 0) (n := n.toNat) (fun i H' => Same H1 H' ∧ H' D = some (.lst ((List.range i).map f))) ⟨same_upd hD, upd_same⟩ (fun i H' hi p => ⟨wipe_set hj, ?_⟩) fun H' p => hq D H' hD p.1 p.2
  show cTE te ((wipe σ vs).set j (some (.int (0 + (i : Int))))) H' _
  rw [Int.zero_add]
  refine ⟨_, he i hi H' p.1, fun y H'' r => ?_⟩
  obtain ⟨rfl, s2⟩ := r
  refine ⟨_, s2 _ _ p.2, szl (by rw [List.length_map, List.length_range]; omega), same_mut (p.1.trans s2) hD, ?_⟩
  rw [upd_same, List.range_succ, List.map_append]
  rfl
theorem take_snoc {α : Type} {l : List α} {i : Nat} {x : α} (h : l[i]? = some x) : l.take (i + 1) = l.take i ++ [x] := by
  rw [List.take_add_one, h]
  rfl
/-- [e for x in xs] -/
theorem lcL_of {K : PySem.W.Frag} {tl : TE} {j : Nat} {te : TE} {vs : List Nat} {σ : L2.St} {H : Hp} {Q : VK} (hj : vs = [j]) (q : mLcL K tl j te vs σ H Q) : tLc (iList K (cTE tl)) (gName j) tYes (cTE te) vs σ H Q := by
  unfold mLcL at q
  refine ⟨_, q, fun x H1 r => ?_⟩
  obtain ⟨a, xs, f, rfl, hx, hn, he, hq⟩ := r
  refine ⟨a, rfl, ⟨xs, hx⟩, fun D hD => ?_⟩
  refine lc_list (xs := xs) (fun i H' => Same H1 H' ∧ H' D = some (.lst ((xs.take i).map f))) ⟨same_upd hD, upd_same⟩ (fun i H' _ p => p.1.seq hx) (fun i y H' hi p => ⟨wipe_set hj, ?_⟩) fun H' p => hq D H' hD p.1 (by rw [p.2, List.take_length])
  have hy : y ∈ xs := List.mem_of_getElem? hi
  have hl : i < xs.length := (List.getElem?_eq_some_iff.mp hi).1
  show cTE te ((wipe σ vs).set j (some y)) H' _
  refine ⟨_, he y hy H' p.1, fun z H'' r => ?_⟩
  obtain ⟨rfl, s2⟩ := r
  refine ⟨_, s2 _ _ p.2, szl (by rw [List.length_map, List.length_take]; omega), same_mut (p.1.trans s2) hD, ?_⟩
  rw [upd_same, take_snoc hi, List.map_append]
  rfl
theorem pe_lcR1 {elt : Expr} {scope : Scope} {j : Nat} {x : Str} {a : Expr} {p p2 xpos : Pos} (hc : X.calm = true) (hN : X.N.Nodup) (hg : Gl X "range") (hm : X.mg "range" = none) (ha : PA X [a] ta) (ok : BlkOk X.N X.env.scope scope [(x, j)])
    (hgt : ∀ (s : Shared) (H : Hp) (C : Addr) (cl : List (Str × Addr)) (fp : List Addr), PG (X.blk s H scope (compEnvC scope cl C X.env) fp) (.Name x xpos) (gName j))
    (he : ∀ (s : Shared) (H : Hp) (C : Addr) (cl : List (Str × Addr)) (fp : List Addr), PE (X.blk s H scope (compEnvC scope cl C X.env) fp) elt te)
    (hs : starEach [a] X.env = [(false, eval a X.env)] := by rfl) (hs2 : ∀ y, foldedSetIterable (.Call (.Name "range" p) [a] [] p2) X.env y = pure y := by intro _; rfl) :
    PE X (.ListComp elt [⟨.Name x xpos, .Call (.Name "range" p) [a] [] p2, [], 0⟩] scope pos) (mLcR1 ta j te [j]) :=
  pe_weak (pe_lc hc hN (pi_range1 hg hm (pa_c ha) hs) ok hgt (fun _ _ _ _ _ => pts_nil) (fun s H C cl fp => pe_c (he s H C cl fp)) hs2) fun _ _ _ q => lcR1_of rfl q
theorem pe_lcL {elt it : Expr} {scope : Scope} {j : Nat} {x : Str} {xpos : Pos} (hc : X.calm = true) (hN : X.N.Nodup) {tl : TE} (ha : PE X it tl) (ok : BlkOk X.N X.env.scope scope [(x, j)])
    (hgt : ∀ (s : Shared) (H : Hp) (C : Addr) (cl : List (Str × Addr)) (fp : List Addr), PG (X.blk s H scope (compEnvC scope cl C X.env) fp) (.Name x xpos) (gName j))
    (he : ∀ (s : Shared) (H : Hp) (C : Addr) (cl : List (Str × Addr)) (fp : List Addr), PE (X.blk s H scope (compEnvC scope cl C X.env) fp) elt te) (hs2 : ∀ y, foldedSetIterable it X.env y = pure y := by intro _; rfl) :
    PE X (.ListComp elt [⟨.Name x xpos, it, [], 0⟩] scope pos) (mLcL X.K tl j te [j]) :=
  pe_weak (pe_lc hc hN (pi_list (pe_c ha)) ok hgt (fun _ _ _ _ _ => pts_nil) (fun s H C cl fp => pe_c (he s H C cl fp)) hs2) fun _ _ _ q => lcL_of rfl q
theorem ps_setLcR1 {i : Nat} {y : Str} {py spos : Pos} {elt : Expr} {scope : Scope} {j : Nat} {x : Str} {a : Expr} {p p2 xpos : Pos} (hc : X.calm = true) (hN : X.N.Nodup) (hy : X.N[i]? = some y) (hyl : X.env.scope.names.lookup y = some .local)
    (hsw : swapsWith (.ListComp elt [⟨.Name x xpos, .Call (.Name "range" p) [a] [] p2, [], 0⟩] scope pos) (some (.Name y py)) spos.line X.env = pure true) (hg : Gl X "range") (hm : X.mg "range" = none) (ha : PA X [a] ta) (ok : BlkOk X.N X.env.scope scope [(x, j)])
    (hgt : ∀ (s : Shared) (H : Hp) (C : Addr) (cl : List (Str × Addr)) (fp : List Addr), PG (X.blk s H scope (compEnvC scope cl C X.env) fp) (.Name x xpos) (gName j))
    (he : ∀ (s : Shared) (H : Hp) (C : Addr) (cl : List (Str × Addr)) (fp : List Addr), PE (X.blk s H scope (compEnvC scope cl C X.env) fp) elt te)
    (hs : starEach [a] X.env = [(false, eval a X.env)] := by rfl) (hs2 : ∀ y, foldedSetIterable (.Call (.Name "range" p) [a] [] p2) X.env y = pure y := by intro _; rfl) :
    PS X (.Assign [.Name y py] (.ListComp elt [⟨.Name x xpos, .Call (.Name "range" p) [a] [] p2, [], 0⟩] scope pos) spos) (tAsg (mLcR1 ta j te [j]) (gName i)) :=
  ps_weak (ps_setLc hc hN hy hyl hsw (pi_range1 hg hm (pa_c ha) hs) ok hgt (fun _ _ _ _ _ => pts_nil) (fun s H C cl fp => pe_c (he s H C cl fp)) hs2) fun _ _ _ q => lcR1_of rfl q
theorem ps_setLcL {i : Nat} {y : Str} {py spos : Pos} {elt it : Expr} {scope : Scope} {j : Nat} {x : Str} {xpos : Pos} {tl : TE} (hc : X.calm = true) (hN : X.N.Nodup) (hy : X.N[i]? = some y) (hyl : X.env.scope.names.lookup y = some .local)
    (hsw : swapsWith (.ListComp elt [⟨.Name x xpos, it, [], 0⟩] scope pos) (some (.Name y py)) spos.line X.env = pure true) (ha : PE X it tl) (ok : BlkOk X.N X.env.scope scope [(x, j)])
    (hgt : ∀ (s : Shared) (H : Hp) (C : Addr) (cl : List (Str × Addr)) (fp : List Addr), PG (X.blk s H scope (compEnvC scope cl C X.env) fp) (.Name x xpos) (gName j))
    (he : ∀ (s : Shared) (H : Hp) (C : Addr) (cl : List (Str × Addr)) (fp : List Addr), PE (X.blk s H scope (compEnvC scope cl C X.env) fp) elt te) (hs2 : ∀ y, foldedSetIterable it X.env y = pure y := by intro _; rfl) :
    PS X (.Assign [.Name y py] (.ListComp elt [⟨.Name x xpos, it, [], 0⟩] scope pos) spos) (tAsg (mLcL X.K tl j te [j]) (gName i)) :=
  ps_weak (ps_setLc hc hN hy hyl hsw (pi_list (pe_c ha)) ok hgt (fun _ _ _ _ _ => pts_nil) (fun s H C cl fp => pe_c (he s H C cl fp)) hs2) fun _ _ _ q => lcL_of rfl q
/-! ### loops that stop the walk -/
@[irreducible] def mForR1 (ta : TA) (j : Nat) (tb : TS) : TS := fun D σ H => ta σ H fun ws H1 => ∃ (n : Int) (Pv : Nat → L2.St → Hp → Prop), ws = [.int n] ∧ (-100000 ≤ n ∧ n ≤ 100000) ∧ Pv 0 σ H1 ∧
  (∀ i σ' H', i < n.toNat → Pv i σ' H' → tb { D with nx := Pv (i + 1), ct := Pv (i + 1), bk := D.nx } (σ'.set j (some (.int (i : Nat)))) H') ∧ ∀ σ' H', Pv n.toNat σ' H' → D.nx σ' H'
theorem rd_forR1 {ta : TA} {j : Nat} {tb : TS} {D : Ends} {σ : L2.St} {H : Hp} (h : ta σ H fun ws H1 => ∃ (n : Int) (Pv : Nat → L2.St → Hp → Prop), ws = [.int n] ∧ (-100000 ≤ n ∧ n ≤ 100000) ∧ Pv 0 σ H1 ∧
  (∀ i σ' H', i < n.toNat → Pv i σ' H' → tb { D with nx := Pv (i + 1), ct := Pv (i + 1), bk := D.nx } (σ'.set j (some (.int (i : Nat)))) H') ∧ ∀ σ' H', Pv n.toNat σ' H' → D.nx σ' H') : mForR1 ta j tb D σ H := by
  unfold mForR1
  exact h
theorem forR1_of {ta : TA} {j : Nat} {tb : TS} {D : Ends} {σ : L2.St} {H : Hp} (q : mForR1 ta j tb D σ H) : tFor (iRng1 (cTA ta)) (gName j) tb D σ H := by
  unfold mForR1 at q
  refine ⟨_, q, fun ws H1 r => ?_⟩
  obtain ⟨n, Pv, rfl, ⟨hn0, hn⟩, h0, hs, hd⟩ := r
  have big : (2 : Int) ^ 62 = 4611686018427387904 := by decide
  refine ⟨n, rfl, by omega, by omega, for_range (lo := 0) (n := n.toNat) Pv h0 (fun i σ' H' hi p => ?_) hd⟩
  show tb _ (σ'.set j (some (.int (0 + (i : Int))))) H'
  rw [Int.zero_add]
  exact hs i σ' H' hi p
theorem ps_forR1 {j : Nat} {x : Str} {a : Expr} {body : List Stmt} {tb : TS} {p p2 xpos : Pos} (hp : PassesOwn (model X.prog X.w) X.A X.env X.xe) (hc : X.calm = true) (hg : Gl X "range") (hm : X.mg "range" = none) (ha : PA X [a] ta) (hgt : PG X (.Name x xpos) (gName j)) (hb : PSs X body tb)
    (hs : starEach [a] X.env = [(false, eval a X.env)] := by rfl) (hs2 : ∀ y, foldedSetIterable (.Call (.Name "range" p) [a] [] p2) X.env y = pure y := by intro _; rfl) : PS X (.For (.Name x xpos) (.Call (.Name "range" p) [a] [] p2) body [] pos) (mForR1 ta j tb) :=
  ps_weak (ps_for hp hc (pi_range1 hg hm (pa_c ha) hs) hgt hb hs2) fun _ _ _ q => forR1_of q
@[irreducible] def mForR2 (ta : TA) (j : Nat) (tb : TS) : TS := fun D σ H => ta σ H fun ws H1 => ∃ (lo n : Int) (Pv : Nat → L2.St → Hp → Prop), ws = [.int lo, .int n] ∧ (-4000000000000000000 ≤ lo ∧ lo ≤ 4000000000000000000 ∧ -4000000000000000000 ≤ n ∧ n ≤ 4000000000000000000) ∧ Pv 0 σ H1 ∧
  (∀ i σ' H', i < (n - lo).toNat → Pv i σ' H' → tb { D with nx := Pv (i + 1), ct := Pv (i + 1), bk := D.nx } (σ'.set j (some (.int (lo + (i : Int))))) H') ∧ ∀ σ' H', Pv (n - lo).toNat σ' H' → D.nx σ' H'
theorem rd_forR2 {ta : TA} {j : Nat} {tb : TS} {D : Ends} {σ : L2.St} {H : Hp} (h : ta σ H fun ws H1 => ∃ (lo n : Int) (Pv : Nat → L2.St → Hp → Prop), ws = [.int lo, .int n] ∧ (-4000000000000000000 ≤ lo ∧ lo ≤ 4000000000000000000 ∧ -4000000000000000000 ≤ n ∧ n ≤ 4000000000000000000) ∧ Pv 0 σ H1 ∧
  (∀ i σ' H', i < (n - lo).toNat → Pv i σ' H' → tb { D with nx := Pv (i + 1), ct := Pv (i + 1), bk := D.nx } (σ'.set j (some (.int (lo + (i : Int))))) H') ∧ ∀ σ' H', Pv (n - lo).toNat σ' H' → D.nx σ' H') : mForR2 ta j tb D σ H := by
  unfold mForR2
  exact h
theorem ps_forR2 {j : Nat} {x : Str} {a b : Expr} {body : List Stmt} {tb : TS} {p p2 xpos : Pos} (hp : PassesOwn (model X.prog X.w) X.A X.env X.xe) (hc : X.calm = true) (hg : Gl X "range") (hm : X.mg "range" = none) (ha : PA X [a, b] ta) (hgt : PG X (.Name x xpos) (gName j)) (hb : PSs X body tb)
    (hs : starEach [a, b] X.env = [(false, eval a X.env), (false, eval b X.env)] := by rfl) (hs3 : starEach [b] X.env = [(false, eval b X.env)] := by rfl) (hs2 : ∀ y, foldedSetIterable (.Call (.Name "range" p) [a, b] [] p2) X.env y = pure y := by intro _; rfl) :
    PS X (.For (.Name x xpos) (.Call (.Name "range" p) [a, b] [] p2) body [] pos) (mForR2 ta j tb) :=
  ps_weak (ps_for hp hc (pi_range2 hg hm (pa_c ha) hs hs3) hgt hb hs2) fun D σ H q => by
    unfold mForR2 at q
    refine ⟨_, q, fun ws H1 r => ?_⟩
    obtain ⟨lo, n, Pv, rfl, ⟨h1, h2, h3, h4⟩, h0, hs, hd⟩ := r
    have big : (2 : Int) ^ 62 = 4611686018427387904 := by decide
    exact ⟨lo, n, rfl, ⟨by omega, by omega, by omega, by omega⟩, for_range (lo := lo) (n := (n - lo).toNat) Pv h0 (fun i σ' H' hi p => hs i σ' H' hi p) hd⟩
/-- for x in xs -/
@[irreducible] def mForL (K : PySem.W.Frag) (tl : TE) (j : Nat) (tb : TS) : TS := fun D σ H => tl σ H fun x H1 => ∃ (a : Addr) (xs : List V) (Pv : Nat → L2.St → Hp → Prop), x = .ref a ∧ SqL K H1 a xs ∧ Pv 0 σ H1 ∧ (∀ i σ' H', i ≤ xs.length → Pv i σ' H' → SqL K H' a xs) ∧
  (∀ i y σ' H', xs[i]? = some y → Pv i σ' H' → tb { D with nx := Pv (i + 1), ct := Pv (i + 1), bk := D.nx } (σ'.set j (some y)) H') ∧ ∀ σ' H', Pv xs.length σ' H' → D.nx σ' H'
theorem rd_forL {K : PySem.W.Frag} {tl : TE} {j : Nat} {tb : TS} {D : Ends} {σ : L2.St} {H : Hp} (h : tl σ H fun x H1 => ∃ (a : Addr) (xs : List V) (Pv : Nat → L2.St → Hp → Prop), x = .ref a ∧ SqL K H1 a xs ∧ Pv 0 σ H1 ∧ (∀ i σ' H', i ≤ xs.length → Pv i σ' H' → SqL K H' a xs) ∧
  (∀ i y σ' H', xs[i]? = some y → Pv i σ' H' → tb { D with nx := Pv (i + 1), ct := Pv (i + 1), bk := D.nx } (σ'.set j (some y)) H') ∧ ∀ σ' H', Pv xs.length σ' H' → D.nx σ' H') : mForL K tl j tb D σ H := by
  unfold mForL
  exact h
theorem ps_forL {j : Nat} {x : Str} {it : Expr} {body : List Stmt} {tb : TS} {tl : TE} {xpos : Pos} (hp : PassesOwn (model X.prog X.w) X.A X.env X.xe) (hc : X.calm = true) (ha : PE X it tl) (hgt : PG X (.Name x xpos) (gName j)) (hb : PSs X body tb)
    (hs2 : ∀ y, foldedSetIterable it X.env y = pure y := by intro _; rfl) : PS X (.For (.Name x xpos) it body [] pos) (mForL X.K tl j tb) :=
  ps_weak (ps_for hp hc (pi_list (pe_c ha)) hgt hb hs2) fun D σ H q => by
    unfold mForL at q
    refine ⟨_, q, fun x H1 r => ?_⟩
    obtain ⟨a, xs, Pv, rfl, hx, h0, hl, hs, hd⟩ := r
    exact ⟨a, rfl, ⟨xs, hx⟩, for_list (xs := xs) Pv h0 hl (fun i y σ' H' hi p => hs i y σ' H' hi p) hd⟩
/-- for .. in xs, the target of any form -/
@[irreducible] def mForG (K : PySem.W.Frag) (tl : TE) (g : TG) (tb : TS) : TS := fun D σ H => tl σ H fun x H1 => ∃ (a : Addr) (xs : List V) (Pv : Nat → L2.St → Hp → Prop), x = .ref a ∧ SqL K H1 a xs ∧ Pv 0 σ H1 ∧ (∀ i σ' H', i ≤ xs.length → Pv i σ' H' → SqL K H' a xs) ∧
  (∀ i y σ' H', xs[i]? = some y → Pv i σ' H' → g y σ' H' fun σ2 H2 => tb { D with nx := Pv (i + 1), ct := Pv (i + 1), bk := D.nx } σ2 H2) ∧ ∀ σ' H', Pv xs.length σ' H' → D.nx σ' H'
theorem rd_forG {K : PySem.W.Frag} {tl : TE} {g : TG} {tb : TS} {D : Ends} {σ : L2.St} {H : Hp} (h : tl σ H fun x H1 => ∃ (a : Addr) (xs : List V) (Pv : Nat → L2.St → Hp → Prop), x = .ref a ∧ SqL K H1 a xs ∧ Pv 0 σ H1 ∧ (∀ i σ' H', i ≤ xs.length → Pv i σ' H' → SqL K H' a xs) ∧
  (∀ i y σ' H', xs[i]? = some y → Pv i σ' H' → g y σ' H' fun σ2 H2 => tb { D with nx := Pv (i + 1), ct := Pv (i + 1), bk := D.nx } σ2 H2) ∧ ∀ σ' H', Pv xs.length σ' H' → D.nx σ' H') : mForG K tl g tb D σ H := by
  unfold mForG
  exact h
theorem ps_forG {tg it : Expr} {body : List Stmt} {g : TG} {tb : TS} {tl : TE} (hp : PassesOwn (model X.prog X.w) X.A X.env X.xe) (hc : X.calm = true) (ha : PE X it tl) (hgt : PG X tg g) (hb : PSs X body tb)
    (hs2 : ∀ y, foldedSetIterable it X.env y = pure y := by intro _; rfl) : PS X (.For tg it body [] pos) (mForG X.K tl g tb) :=
  ps_weak (ps_for hp hc (pi_list (pe_c ha)) hgt hb hs2) fun D σ H q => by
    unfold mForG at q
    refine ⟨_, q, fun x H1 r => ?_⟩
    obtain ⟨a, xs, Pv, rfl, hx, h0, hl, hs, hd⟩ := r
    exact ⟨a, rfl, ⟨xs, hx⟩, for_list (xs := xs) Pv h0 hl (fun i y σ' H' hi p => hs i y σ' H' hi p) hd⟩
/-- for x, y in zip(xs, ys), lists of one length -/
@[irreducible] def mForZ (K : PySem.W.Frag) (ta : TA) (i1 i2 : Nat) (tb : TS) : TS := fun D σ H => ta σ H fun ws H1 => ∃ (a b : Addr) (xs ys : List V) (Pv : Nat → L2.St → Hp → Prop), ws = [.ref a, .ref b] ∧ SqL K H1 a xs ∧ SqL K H1 b ys ∧ xs.length = ys.length ∧ Pv 0 σ H1 ∧ (∀ i σ' H', Pv i σ' H' → SqL K H' a xs ∧ SqL K H' b ys) ∧
  (∀ i x y σ' H' H'', xs[i]? = some x → ys[i]? = some y → Pv i σ' H' → Same H' H'' → tb { D with nx := Pv (i + 1), ct := Pv (i + 1), bk := D.nx } ((σ'.set i1 (some x)).set i2 (some y)) H'') ∧ ∀ σ' H', Pv xs.length σ' H' → D.nx σ' H'
theorem rd_forZ {K : PySem.W.Frag} {ta : TA} {i1 i2 : Nat} {tb : TS} {D : Ends} {σ : L2.St} {H : Hp} (h : ta σ H fun ws H1 => ∃ (a b : Addr) (xs ys : List V) (Pv : Nat → L2.St → Hp → Prop), ws = [.ref a, .ref b] ∧ SqL K H1 a xs ∧ SqL K H1 b ys ∧ xs.length = ys.length ∧ Pv 0 σ H1 ∧ (∀ i σ' H', Pv i σ' H' → SqL K H' a xs ∧ SqL K H' b ys) ∧
  (∀ i x y σ' H' H'', xs[i]? = some x → ys[i]? = some y → Pv i σ' H' → Same H' H'' → tb { D with nx := Pv (i + 1), ct := Pv (i + 1), bk := D.nx } ((σ'.set i1 (some x)).set i2 (some y)) H'') ∧ ∀ σ' H', Pv xs.length σ' H' → D.nx σ' H') : mForZ K ta i1 i2 tb D σ H := by
  unfold mForZ
  exact h
theorem ps_forZ {e e2 : Expr} {kk : Nat} {p p2 tpos : Pos} {i1 i2 : Nat} {body : List Stmt} {tb : TS} {t1 t2 : Expr} (hp : PassesOwn (model X.prog X.w) X.A X.env X.xe) (hc : X.calm = true) (hg : Gl X "zip") (hm : X.mg "zip" = none) (ha : PA X [e, e2] ta)
    (hgt : PG X (.Tuple [t1, t2] kk tpos) (gTup X.K 2 (gCons (gName i1) (gCons (gName i2) gNil)))) (hb : PSs X body tb)
    (hs : starEach [e, e2] X.env = (false, eval e X.env) :: starEach [e2] X.env := by rfl) (hpl : (backTo p2 (starEach [e2] X.env)).any (·.1) = false := by rfl) (hs2 : ∀ y, foldedSetIterable (.Call (.Name "zip" p) [e, e2] [] p2) X.env y = pure y := by intro _; rfl) :
    PS X (.For (.Tuple [t1, t2] kk tpos) (.Call (.Name "zip" p) [e, e2] [] p2) body [] pos) (mForZ X.K ta i1 i2 tb) :=
  ps_weak (ps_for hp hc (pi_zip hg hm (pa_c ha) hs hpl) hgt hb hs2) fun D σ H q => by
    unfold mForZ at q
    refine ⟨_, q, fun ws H1 r => ?_⟩
    obtain ⟨a, b, xs, ys, Pv, rfl, hx, hy, hl, h0, hq, hs, hd⟩ := r
    refine ⟨a, b, xs, ys, rfl, hx, hy, RZ.for_zipL hl Pv h0 hq (fun i x y T σ' H' h1 h2 p hT => ?_) hd⟩
    exact ⟨T, [x, y], rfl, st_of upd_same, rfl, x, [y], rfl, y, [], rfl, rfl, hs i x y σ' H' _ h1 h2 p (same_upd hT)⟩
end
theorem ite_ei {x y : Int} {A B : Prop} (hc : x = y) (h : A) : if decide (V.int x = V.int y) = true then A else B := ite_t (congrArg V.int hc) h
theorem ite_eif {x y : Int} {A B : Prop} (hc : x ≠ y) (h : B) : if decide (V.int x = V.int y) = true then A else B := ite_f (fun e => hc (V.int.inj e)) h
theorem ite_ni {x y : Int} {A B : Prop} (hc : x = y) (h : B) : if (!decide (V.int x = V.int y)) = true then A else B := ite_nf (congrArg V.int hc) h
theorem ite_nit {x y : Int} {A B : Prop} (hc : x ≠ y) (h : A) : if (!decide (V.int x = V.int y)) = true then A else B := ite_nt (fun e => hc (V.int.inj e)) h
theorem ite_eby {x y : Int} {A B : Prop} (h1 : x = y → A) (h2 : x ≠ y → B) : if decide (V.int x = V.int y) = true then A else B := ite_by (fun e => h1 (V.int.inj e)) (fun n => h2 fun e => n (congrArg V.int e))
theorem ite_enby {x y : Int} {A B : Prop} (h1 : x ≠ y → A) (h2 : x = y → B) : if (!decide (V.int x = V.int y)) = true then A else B := ite_nby (fun n => h1 fun e => n (congrArg V.int e)) (fun e => h2 (V.int.inj e))

/-! ### branches that stop the walk -/
@[irreducible] def Br (b : Bool) (A B : Prop) : Prop := if b = true then A else B
section
variable {b : Bool} {A B : Prop}
theorem Br.un (h : Br b A B) : if b = true then A else B := by
  unfold Br at h
  exact h
theorem br_of (h : if b = true then A else B) : Br b A B := by
  unfold Br
  exact h
theorem br_T (h : A) : Br true A B := br_of (iteT h)
theorem br_F (h : B) : Br false A B := br_of (iteF h)
theorem br_nT (h : A) : Br (!false) A B := br_of (iteT h)
theorem br_nF (h : B) : Br (!true) A B := br_of (iteF h)
theorem br_t {c : Prop} [Decidable c] (hc : c) (h : A) : Br (decide c) A B := br_of (ite_t hc h)
theorem br_f {c : Prop} [Decidable c] (hc : ¬ c) (h : B) : Br (decide c) A B := br_of (ite_f hc h)
theorem br_nt {c : Prop} [Decidable c] (hc : ¬ c) (h : A) : Br (!decide c) A B := br_of (ite_nt hc h)
theorem br_nf {c : Prop} [Decidable c] (hc : c) (h : B) : Br (!decide c) A B := br_of (ite_nf hc h)
theorem br_by {c : Prop} [Decidable c] (h1 : c → A) (h2 : ¬ c → B) : Br (decide c) A B := br_of (ite_by h1 h2)
theorem br_nby {c : Prop} [Decidable c] (h1 : ¬ c → A) (h2 : c → B) : Br (!decide c) A B := br_of (ite_nby h1 h2)
theorem br_ei {x y : Int} (hc : x = y) (h : A) : Br (decide (V.int x = V.int y)) A B := br_of (ite_ei hc h)
theorem br_eif {x y : Int} (hc : x ≠ y) (h : B) : Br (decide (V.int x = V.int y)) A B := br_of (ite_eif hc h)
theorem br_ni {x y : Int} (hc : x = y) (h : B) : Br (!decide (V.int x = V.int y)) A B := br_of (ite_ni hc h)
theorem br_nit {x y : Int} (hc : x ≠ y) (h : A) : Br (!decide (V.int x = V.int y)) A B := br_of (ite_nit hc h)
theorem br_eby {x y : Int} (h1 : x = y → A) (h2 : x ≠ y → B) : Br (decide (V.int x = V.int y)) A B := br_of (ite_eby h1 h2)
theorem br_enby {x y : Int} (h1 : x ≠ y → A) (h2 : x = y → B) : Br (!decide (V.int x = V.int y)) A B := br_of (ite_enby h1 h2)
theorem br_b (h1 : b = true → A) (h2 : b = false → B) : Br b A B := by
  cases b with
  | true => exact br_T (h1 rfl)
  | false => exact br_F (h2 rfl)
end
def mIfS (c : TT) (t u : TS) : TS := fun D σ H => c σ H fun b H1 => Br b (t D σ H1) (u D σ H1)
def mIf (c : TT) (ta tb : TE) : TE := fun σ H Q => c σ H fun b H1 => Br b (ta σ H1 Q) (tb σ H1 Q)
def mAnd (t u : TT) : TT := fun σ H Q => t σ H fun c H1 => Br c (u σ H1 Q) (Q false H1)
def mOr (t u : TT) : TT := fun σ H Q => t σ H fun c H1 => Br c (Q true H1) (u σ H1 Q)
def mAndV (ta tb : TE) : TE := fun σ H Q => ta σ H fun x H1 => ∃ c, x = .bl c ∧ Br c (tb σ H1 Q) (Q (.bl false) H1)
def mOrV (ta tb : TE) : TE := fun σ H Q => ta σ H fun x H1 => ∃ c, x = .bl c ∧ Br c (Q (.bl true) H1) (tb σ H1 Q)
def mChain (r r' : R2) (ta tb tc : TE) : TE := fun σ H Q => ta σ H fun x H1 => tb σ H1 fun y H2 => r x y H2 fun z H3 => ∃ k, z = .bl k ∧ Br k (tc σ H3 fun w' H4 => r' y w' H4 Q) (Q (.bl false) H3)
def mNot (t : TT) : TT := fun σ H Q => t σ H fun c H1 => Q (!c) H1
def cR2 (r : R2) : R2 := fun x y H Q => ∃ R : VK, r x y H R ∧ ∀ v H', R v H' → Q v H'
section
variable {X : Cx} {e a b c : Expr} {ta tb tc : TE} {tt tA tB' : TT} {pos : Pos} {t u : TS} {rest : List Expr}
theorem pw_weak {tt' : TT} (h : PW X e tt) (w : ∀ σ H Q, tt' σ H Q → tt σ H Q) : PW X e tt' := ⟨fun wh pins s σ H Q I q => h.run wh pins s σ H Q I (w σ H Q q)⟩
theorem pt_weak {tt' : TT} (h : PT X e tt) (w : ∀ σ H Q, tt' σ H Q → tt σ H Q) : PT X e tt' := ⟨fun pins s σ H Q I q => h.run pins s σ H Q I (w σ H Q q)⟩
theorem opr_c {f : Value → Value → Sem Value} {r : R2} (h : OpR X f r) : OpR X f (cR2 r) := fun pins s σ H x y v u Q I rx ry ⟨R, h1, h2⟩ => thn (h pins s σ H x y v u R I rx ry h1) fun w s1 ⟨z, H1, I1, rz, q⟩ => ⟨z, H1, I1, rz, h2 _ _ q⟩
theorem ps_ifM {bs us : List Stmt} (hc : PT X c tt) (ha : PSs X bs t) (hb : PSs X us u) : PS X (.If c bs us pos) (mIfS tt t u) := ps_weak (ps_if (pt_c hc) ha hb) fun D σ H q => ⟨_, q, fun b H1 r => r.un⟩
theorem pe_ifM (hc : PT X c tt) (ha : PE X a ta) (hb : PE X b tb) : PE X (.IfExp c a b pos) (mIf tt ta tb) := pe_weak (pe_ifExp (pt_c hc) ha hb) fun σ H Q q => ⟨_, q, fun b H1 r => r.un⟩
theorem pw_andM (ha : PT X a tA) (hb : PW X (.BoolOp .And (b :: rest) pos) tB') : PW X (.BoolOp .And (a :: b :: rest) pos) (mAnd tA tB') := pw_weak (pw_and (pt_c ha) hb) fun σ H Q q => ⟨_, q, fun b H1 r => r.un⟩
theorem pw_orM (ha : PT X a tA) (hb : PW X (.BoolOp .Or (b :: rest) pos) tB') : PW X (.BoolOp .Or (a :: b :: rest) pos) (mOr tA tB') := pw_weak (pw_or (pt_c ha) hb) fun σ H Q q => ⟨_, q, fun b H1 r => r.un⟩
theorem pe_andM (ha : PE X a ta) (hb : PE X (.BoolOp .And (b :: rest) pos) tb) : PE X (.BoolOp .And (a :: b :: rest) pos) (mAndV ta tb) := pe_weak (pe_and (pe_c ha) hb) fun σ H Q q => ⟨_, q, fun v H1 ⟨c, e, r⟩ => ⟨c, e, r.un⟩⟩
theorem pe_orM (ha : PE X a ta) (hb : PE X (.BoolOp .Or (b :: rest) pos) tb) : PE X (.BoolOp .Or (a :: b :: rest) pos) (mOrV ta tb) := pe_weak (pe_or (pe_c ha) hb) fun σ H Q q => ⟨_, q, fun v H1 ⟨c, e, r⟩ => ⟨c, e, r.un⟩⟩
theorem pe_chainM {op op' : CmpOp} {r r' : R2} (ho : OpR X (compareOp op) r) (ho' : OpR X (compareOp op') r') (ha : PE X a ta) (hb : PE X b tb) (hc : PE X c tc) (hm : lastMarks [op, op'] [b, c] = false := by with_unfolding_all rfl) : PE X (.Compare a [op, op'] [b, c] pos) (mChain r r' ta tb tc) :=
  pe_weak (pe_chain (opr_c ho) ho' (pe_c ha) (pe_c hb) hc hm) fun σ H Q q => ⟨_, q, fun x H1 q1 => ⟨_, q1, fun y H2 q2 => ⟨_, q2, fun z H3 ⟨k, e, r⟩ => ⟨k, e, r.un⟩⟩⟩⟩
theorem pt_chainM {op op' : CmpOp} {r r' : R2} (ho : OpR X (compareOp op) r) (ho' : OpR X (compareOp op') r') (ha : PE X a ta) (hb : PE X b tb) (hc : PE X c tc) (hm : lastMarks [op, op'] [b, c] = false := by with_unfolding_all rfl) : PT X (.Compare a [op, op'] [b, c] pos) (tTest (mChain r r' ta tb tc)) :=
  pt_weak (pt_chain (opr_c ho) ho' (pe_c ha) (pe_c hb) hc hm) fun σ H Q q => ⟨_, q, fun x H1 q1 => ⟨_, q1, fun y H2 q2 => ⟨_, q2, fun z H3 ⟨k, e, r⟩ => ⟨k, e, r.un⟩⟩⟩⟩
end
/-! ### the operators, told without a redex -/
def mAdd : R2 := fun x y H Q => ∃ i j, x = .int i ∧ y = .int j ∧ Q (.int (i + j)) H
def mSub : R2 := fun x y H Q => ∃ i j, x = .int i ∧ y = .int j ∧ Q (.int (i - j)) H
def mMul : R2 := fun x y H Q => ∃ i j, x = .int i ∧ y = .int j ∧ CMul i j ∧ Q (.int (i * j)) H
def mMulW : R2 := fun x y H Q => ∃ i j, x = .int i ∧ y = .int j ∧ CMulW i j ∧ Q (.int (i * j)) H
def mDiv : R2 := fun x y H Q => ∃ i j, x = .int i ∧ y = .int j ∧ CDiv i j ∧ Q (.int (i / j)) H
def mDivW : R2 := fun x y H Q => ∃ i j, x = .int i ∧ y = .int j ∧ CDivW i j ∧ Q (.int (i / j)) H
def mMod : R2 := fun x y H Q => ∃ i j, x = .int i ∧ y = .int j ∧ 0 < j ∧ Q (.int (i % j)) H
def mPow : R2 := fun x y H Q => ∃ i j, x = .int i ∧ y = .int j ∧ CPow i j ∧ Q (.int (i ^ j.toNat)) H
def mShl1 : R2 := fun x y H Q => ∃ j, x = .int 1 ∧ y = .int j ∧ (0 ≤ j ∧ j ≤ 1000000) ∧ Q (.int (2 ^ j.toNat)) H
def mShl : R2 := fun x y H Q => ∃ i j, x = .int i ∧ y = .int j ∧ CShl i j ∧ Q (.int (i * 2 ^ j.toNat)) H
def mShr : R2 := fun x y H Q => ∃ i j, x = .int i ∧ y = .int j ∧ 0 ≤ j ∧ Q (.int (i / 2 ^ j.toNat)) H
def mAndI : R2 := fun x y H Q => ∃ i j, x = .int i ∧ y = .int j ∧ Q (.int (Builtin.bitAnd i j)) H
def mXorI : R2 := fun x y H Q => ∃ i j, x = .int i ∧ y = .int j ∧ Q (.int (Builtin.bitXor i j)) H
def mLt : R2 := fun x y H Q => ∃ i j, x = .int i ∧ y = .int j ∧ Q (.bl (decide (i < j))) H
def mLe : R2 := fun x y H Q => ∃ i j, x = .int i ∧ y = .int j ∧ Q (.bl (decide (i ≤ j))) H
def mGt : R2 := fun x y H Q => ∃ i j, x = .int i ∧ y = .int j ∧ Q (.bl (decide (j < i))) H
def mGe : R2 := fun x y H Q => ∃ i j, x = .int i ∧ y = .int j ∧ Q (.bl (decide (j ≤ i))) H
section
variable {X : Cx}
theorem op_addM : OpR X (binaryOp .Add) mAdd := op_add
theorem op_subM : OpR X (binaryOp .Sub) mSub := op_sub
theorem op_mulM : OpR X (binaryOp .Mult) mMul := op_mul
theorem op_mulWM : OpR X (binaryOp .Mult) mMulW := op_mulW
theorem op_fdivM : OpR X (binaryOp .FloorDiv) mDiv := op_fdiv
theorem op_fdivWM : OpR X (binaryOp .FloorDiv) mDivW := op_fdivW
theorem op_modM : OpR X (binaryOp .Mod) mMod := op_mod
theorem op_powM : OpR X (binaryOp .Pow) mPow := op_pow
theorem op_shl1M : OpR X (binaryOp .LShift) mShl1 := fun pins s σ H x y v u Q I rx ry ⟨j, e1, e2, hj, q⟩ => op_shl pins s σ H x y v u Q I rx ry ⟨1, j, e1, e2, ⟨hj.1, hj.2, by decide⟩, by
  show Q (.int (1 * 2 ^ j.toNat)) H
  rw [Int.one_mul]
  exact q⟩
theorem op_shlM : OpR X (binaryOp .LShift) mShl := op_shlW
theorem op_shrM : OpR X (binaryOp .RShift) mShr := op_shr
theorem op_bandM : OpR X (binaryOp .BitAnd) mAndI := op_and
theorem op_bxorM : OpR X (binaryOp .BitXor) mXorI := op_xor
theorem op_ltM : OpR X (compareOp .Lt) mLt := op_lt
theorem op_leM : OpR X (compareOp .LtE) mLe := op_le
theorem op_gtM : OpR X (compareOp .Gt) mGt := op_gt
theorem op_geM : OpR X (compareOp .GtE) mGe := op_ge
end

theorem two_pos (k : Nat) : (0 : Int) < 2 ^ k := Int.pow_pos (by decide)

@[irreducible] def mIsi (K : PySem.W.Frag) : List V → Hp → VK → Prop := rIsi K
theorem call_isiM {X : Cx} : CallR X (.builtin "isinstance") (mIsi X.K) := fun pins s σ H xs us Q I r q => call_isi pins s σ H xs us Q I r (by
  unfold mIsi at q
  exact q)
section
variable {K : PySem.W.Frag} {H : Hp} {Q : VK}
theorem rd_isiIB {i : Int} (h : Q (.bl false) H) : mIsi K [.int i, .ty "bool"] H Q := by
  unfold mIsi
  exact ⟨_, _, _, _, false, rfl, ClsV.ty _, TyX.base (TyOf.int _), by rfl, h⟩
theorem rd_isiII {i : Int} (h : Q (.bl true) H) : mIsi K [.int i, .ty "int"] H Q := by
  unfold mIsi
  exact ⟨_, _, _, _, true, rfl, ClsV.ty _, TyX.base (TyOf.int _), by rfl, h⟩
theorem rd_isiBB {b : Bool} (h : Q (.bl true) H) : mIsi K [.bl b, .ty "bool"] H Q := by
  unfold mIsi
  exact ⟨_, _, _, _, true, rfl, ClsV.ty _, TyX.base (TyOf.bl _), by rfl, h⟩
theorem rd_isiTT {a : Addr} {xs : List V} (e : H a = some (.tup xs)) (h : Q (.bl true) H) : mIsi K [.ref a, .ty "tuple"] H Q := by
  unfold mIsi
  exact ⟨_, _, _, _, true, rfl, ClsV.ty _, TyX.base (TyOf.tup e), by rfl, h⟩
theorem rd_isiLL {a : Addr} {xs : List V} (e : H a = some (.lst xs)) (h : Q (.bl true) H) : mIsi K [.ref a, .ty "list"] H Q := by
  unfold mIsi
  exact ⟨_, _, _, _, true, rfl, ClsV.ty _, TyX.base (TyOf.lst e), by rfl, h⟩
end

/-! ### equal data -/
def Sh (n : Nat) (d : PyData) : Prop := d.canLay0 = true ∧ d.depth ≤ n
def ShA (n : Nat) (ds : List PyData) : Prop := PyData.canLayAll0 ds = true ∧ PyData.depthAll ds ≤ n
theorem sh_int {i : Int} {n : Nat} : Sh n (.int i) := ⟨rfl, Nat.zero_le _⟩
theorem sh_bl {i : Bool} {n : Nat} : Sh n (.bool i) := ⟨rfl, Nat.zero_le _⟩
theorem sh_non {n : Nat} : Sh n .none := ⟨rfl, Nat.zero_le _⟩
theorem sh_str {x : Str} {n : Nat} (h : PyData.canLay0 (.str x) = true) : Sh n (.str x) := ⟨h, Nat.zero_le _⟩
theorem sh_nil {n : Nat} : ShA n [] := ⟨rfl, Nat.zero_le _⟩
theorem sh_cons {n : Nat} {d : PyData} {ds : List PyData} (h : Sh n d) (k : ShA n ds) : ShA n (d :: ds) := by
  refine ⟨?_, ?_⟩
  · show (d.canLay0 && PyData.canLayAll0 ds) = true
    rw [h.1, k.1]
    rfl
  · show max d.depth (PyData.depthAll ds) ≤ n
    have := h.2
    have := k.2
    omega
theorem sh_lst {n : Nat} {ds : List PyData} (h : ShA n ds) : Sh (n + 1) (.list ds) := ⟨h.1, Nat.succ_le_succ h.2⟩
theorem sh_tup {n : Nat} {ds : List PyData} (h : ShA n ds) : Sh (n + 1) (.tuple ds) := ⟨h.1, Nat.succ_le_succ h.2⟩
theorem sh_map {α : Type} {n : Nat} {f : α → PyData} (h : ∀ x, Sh n (f x)) : ∀ l : List α, ShA n (l.map f)
  | [] => sh_nil
  | x :: r => sh_cons (h x) (sh_map h r)
theorem sh_app {n : Nat} : ∀ {ds es : List PyData}, ShA n ds → ShA n es → ShA n (ds ++ es)
  | [], _, _, k => k
  | d :: r, es, h, k => by
    have h1 : (d.canLay0 && PyData.canLayAll0 r) = true := h.1
    have h2 : max d.depth (PyData.depthAll r) ≤ n := h.2
    rw [Bool.and_eq_true] at h1
    exact sh_cons ⟨h1.1, by omega⟩ (sh_app ⟨h1.2, by omega⟩ k)
theorem Sh.shaped {n : Nat} {d : PyData} (h : Sh n d) (hn : n ≤ 64 := by decide) : SeqAt.shaped d = true := by
  unfold SeqAt.shaped
  rw [h.1, decide_eq_true (Nat.le_trans h.2 hn)]
  rfl
theorem sh_ints {n : Nat} (l : List Int) : ShA n (l.map PyData.int) := sh_map (fun _ => sh_int) l
section
variable {K : PySem.W.Frag} {H : Hp} {Q : VK} {x y : V}
theorem dpa_ints : ∀ l : List Int, DpAll K H (l.map V.int) (l.map PyData.int)
  | [] => .nil
  | i :: r => .cons (.int i) (dpa_ints r)
theorem dp_ints {a : Addr} {l : List Int} (h : SqL K H a (l.map V.int)) : Dp K H (.ref a) (.list (l.map PyData.int)) := .lst h (dpa_ints l)
@[irreducible] def mEqD (K : PySem.W.Frag) : R2 := rEqD K
@[irreducible] def mNeD (K : PySem.W.Frag) : R2 := rNeD K
theorem rd_eqS {n : Nat} (d : PyData) (h1 : Dp K H x d) (h2 : Dp K H y d) (hs : Sh n d) (h : Q (.bl true) H) (hn : n ≤ 64 := by decide) : mEqD K x y H Q := by
  unfold mEqD
  exact ⟨d, d, h1, h2, hs.shaped hn, hs.shaped hn, by rw [PySem.SeqAt.eqv_refl d hs.1]; exact h⟩
theorem rd_neS {n : Nat} (d : PyData) (h1 : Dp K H x d) (h2 : Dp K H y d) (hs : Sh n d) (h : Q (.bl false) H) (hn : n ≤ 64 := by decide) : mNeD K x y H Q := by
  unfold mNeD
  exact ⟨d, d, h1, h2, hs.shaped hn, hs.shaped hn, by rw [PySem.SeqAt.eqv_refl d hs.1]; exact h⟩
/-- of any two: the answer is that of the data -/
theorem rd_eqA {n m : Nat} (d e : PyData) (h1 : Dp K H x d) (h2 : Dp K H y e) (hs : Sh n d) (hs2 : Sh m e) (h : Q (.bl (PyData.eqv d e)) H) (hn : n ≤ 64 := by decide) (hm : m ≤ 64 := by decide) : mEqD K x y H Q := by
  unfold mEqD
  exact ⟨d, e, h1, h2, hs.shaped hn, hs2.shaped hm, h⟩
theorem rd_neA {n m : Nat} (d e : PyData) (h1 : Dp K H x d) (h2 : Dp K H y e) (hs : Sh n d) (hs2 : Sh m e) (h : Q (.bl (!PyData.eqv d e)) H) (hn : n ≤ 64 := by decide) (hm : m ≤ 64 := by decide) : mNeD K x y H Q := by
  unfold mNeD
  exact ⟨d, e, h1, h2, hs.shaped hn, hs2.shaped hm, h⟩
end
section
variable {X : Cx}
theorem op_eqDM (hu : X.A.units + 64 < cLine) : OpR X (compareOp .Eq) (mEqD X.K) := fun pins s σ H x y v u Q I rx ry q => op_eqD hu pins s σ H x y v u Q I rx ry (by
  unfold mEqD at q
  exact q)
theorem op_neDM (hu : X.A.units + 64 < cLine) : OpR X (compareOp .NotEq) (mNeD X.K) := fun pins s σ H x y v u Q I rx ry q => op_neD hu pins s σ H x y v u Q I rx ry (by
  unfold mNeD at q
  exact q)
end
/-! ### one-step readings that know their heap -/
@[irreducible] def mIxL (K : PySem.W.Frag) : R2 := rIxL K
theorem ix_listM {X : Cx} : IxR X (mIxL X.K) := fun value slice pins s σ H x y v u Q I rx ry q e => ix_list value slice pins s σ H x y v u Q I rx ry (by
  unfold mIxL at q
  exact q) e
@[irreducible] def mIxT (K : PySem.W.Frag) : R2 := rIxT K
theorem ix_tupM {X : Cx} : IxR X (mIxT X.K) := fun value slice pins s σ H x y v u Q I rx ry q e => ix_tup value slice pins s σ H x y v u Q I rx ry (by
  unfold mIxT at q
  exact q) e
section
variable {K : PySem.W.Frag} {H : Hp} {Q : VK} {a : Addr} {xs : List V} {k : Int} {v : V}
theorem rd_ixL (h : SqL K H a xs) (ha : atI xs k = some v) (q : Q v H) : mIxL K (.ref a) (.int k) H Q := by
  unfold mIxL
  exact ⟨a, xs, k, v, rfl, rfl, h, ha, q⟩
theorem rd_ixT (h : SqT K H a xs) (ha : atI xs k = some v) (q : Q v H) : mIxT K (.ref a) (.int k) H Q := by
  unfold mIxT
  exact ⟨a, xs, k, v, rfl, rfl, h, ha, q⟩
theorem rd_ixI {ns : List Int} (h : SqL K H a (ns.map V.int)) (h0 : 0 ≤ k) (h1 : k < (ns.length : Int)) (q : Q (.int (ns.getD k.toNat 0)) H) : mIxL K (.ref a) (.int k) H Q := rd_ixL h (at_int h0 h1) q
end
@[irreducible] def mLen (K : PySem.W.Frag) : List V → Hp → VK → Prop := fun xs H Q => ∃ p ys, xs = [.ref p] ∧ (SqL K H p ys ∨ SqT K H p ys) ∧ Q (.int ys.length) H
theorem call_lenM {X : Cx} : CallR X (.builtin "len") (mLen X.K) := fun pins s σ H xs us Q I r q => call_len_seq pins s σ H xs us Q I r (by
  unfold mLen at q
  exact q)
theorem rd_len {K : PySem.W.Frag} {H : Hp} {Q : VK} {a : Addr} {xs : List V} (h : SqL K H a xs) (q : Q (.int xs.length) H) : mLen K [.ref a] H Q := by
  unfold mLen
  exact ⟨a, xs, rfl, .inl h, q⟩
theorem rd_lenI {K : PySem.W.Frag} {H : Hp} {Q : VK} {a : Addr} {ns : List Int} (h : SqL K H a (ns.map V.int)) (q : Q (.int ns.length) H) : mLen K [.ref a] H Q := rd_len h (by rw [List.length_map]; exact q)
theorem rd_lenT {K : PySem.W.Frag} {H : Hp} {Q : VK} {a : Addr} {xs : List V} (h : SqT K H a xs) (q : Q (.int xs.length) H) : mLen K [.ref a] H Q := by
  unfold mLen
  exact ⟨a, xs, rfl, .inr h, q⟩
/-- xs.append(e) -/
@[irreducible] def mApp (x y : V) (H : Hp) (Q : VK) : Prop := ∃ l xs, x = .ref l ∧ H l = some (.lst xs) ∧ xs.length < 1000000 ∧ Q .non (upd H l (.lst (xs ++ [y])))
def mAppE (to te : TE) : TE := fun σ H Q => to σ H fun x H1 => ∃ l xs, x = .ref l ∧ H1 l = some (.lst xs) ∧ te σ H1 fun y H2 => mApp x y H2 Q
theorem rd_app {l : Addr} {xs : List V} {y : V} {H : Hp} {Q : VK} (h : H l = some (.lst xs)) (hz : xs.length < 1000000) (q : Q .non (upd H l (.lst (xs ++ [y])))) : mApp (.ref l) y H Q := by
  unfold mApp
  exact ⟨l, xs, rfl, h, hz, q⟩
theorem pe_app {X : Cx} {o e : Expr} {to te : TE} {apos cpos : Pos} (ho : PE X o to) (he : PE X e te) (hbase : attributeBase o "append" X.env (eval o X.env) = eval o X.env := by rfl)
    (hfew : ((backTo cpos (starEach [e] X.env)).all (fun x => !x.1) && (backToKw cpos (keywordEach [] X.env)).all (fun x => x.1.isSome)
      && decide ([e].length + ([] : List Keyword).length + (if ([] : List Keyword).isEmpty then 0 else 1) < 30)) = true := by rfl)
    (hline : (apos.endLine == cpos.line) = true := by rfl) (hs : starEach [e] X.env = (false, eval e X.env) :: starEach [] X.env := by rfl) (hplain : (backTo cpos (starEach [] X.env)).any (·.1) = false := by rfl) :
    PE X (.Call (.Attribute o "append" apos) [e] [] cpos) (mAppE to te) :=
  pe_weak (pe_bm PySem.F.plainAttrs_list PySem.F.slot_list_append PySem.F.type_list_append mt_append (pe_c ho) (pa_cons (pe_c he) pa_nil hs) hbase hfew hline hs hplain) fun σ H Q q => by
    refine ⟨_, q, fun x H1 r => ?_⟩
    obtain ⟨l, xs, rfl, h, r⟩ := r
    refine ⟨Or.inl ⟨rfl, _, SqL.of h⟩, _, r, fun y H2 r2 => ?_⟩
    unfold mApp at r2
    obtain ⟨l2, ys, e2, h2, hz, q2⟩ := r2
    exact ⟨l2, ys, y, e2, rfl, h2, szl hz, q2⟩
/-- o[i] = e, o a list -/
@[irreducible] def mSetL : V → V → V → Hp → (Hp → Prop) → Prop := rSetL
theorem set_listM {X : Cx} : PSet X mSetL := fun pins s σ H o i v uo ui uv Q I ro ri rv q => set_list pins s σ H o i v uo ui uv Q I ro ri rv (by
  unfold mSetL at q
  exact q)
theorem rd_setL {l : Addr} {xs : List V} {k : Int} {y : V} {H : Hp} {Q : Hp → Prop} (h : H l = some (.lst xs)) (h0 : 0 ≤ k) (h1 : k < (xs.length : Int)) (q : Q (upd H l (.lst (xs.set k.toNat y)))) : mSetL (.ref l) (.int k) y H Q := by
  unfold mSetL
  refine ⟨l, xs, k, k.toNat, rfl, rfl, h, ?_, q⟩
  unfold ixN
  first
    | (rw [if_pos h0, if_pos (by omega)]; done)
    | (rw [if_neg (by omega), if_pos (by omega)]; done)
    | simp [show ¬ k < 0 by omega, h0, h1]
/-- what a loop keeps of its own list: all else as it was -/
def But (p : Addr) (H H' : Hp) : Prop := ∀ b o, b ≠ p → H b = some o → H' b = some o

@[irreducible] def mSum (K : PySem.W.Frag) : List V → Hp → VK → Prop := rSum K
theorem call_sumM {X : Cx} (hc : X.calm = true) : CallR X (.builtin "sum") (mSum X.K) := fun pins s σ H xs us Q I r q => cr_sum hc pins s σ H xs us Q I r (by
  unfold mSum at q
  exact q)
theorem rd_sum {K : PySem.W.Frag} {H : Hp} {Q : VK} {a : Addr} {ns : List Int} (h : SqL K H a (ns.map V.int)) (q : Q (.int ns.sum) H) : mSum K [.ref a] H Q := by
  unfold mSum
  exact ⟨a, ns, rfl, h, q⟩

/-- isinstance(e, C), e the error that the suite holds, whatever its class -/
def mIsE (K : PySem.W.Frag) (cls : Value) (d : Option Addr) (a : Addr) : List V → Hp → VK → Prop := fun xs H Q => ∃ (D C : Addr) (b : Bool), xs = [.ref a, .ref C] ∧ cls = .ref D ∧ d = none ∧ ExcC K D ∧ PySem.W.kitOne K (.ref D) (.ref C) = some b ∧ Q (.bl b) H
theorem call_isEM {X : Cx} {a : Addr} {oe : Obj} {cls : Value} {d : Option Addr} {pn : List (Addr × Obj)} (hz : Zc cls d oe) (hf : ∃ vs, oe.data = .fields vs) : CallR (X.suite a ((a, oe) :: pn)) (.builtin "isinstance") (mIsE X.K cls d a) := by
  intro pins s σ H xs us Q I r h
  obtain ⟨D, C, b, rfl, rfl, rfl, hD, hk, q⟩ := h
  exact call_isE hD hz hf pins s σ H [.ref a, .ref C] us Q I r ⟨.ref C, .ref C, b, rfl, fun u hu => hu, hk, q⟩
theorem kit_same {K : PySem.W.Frag} {D : Addr} : PySem.W.kitOne K (.ref D) (.ref D) = some true := by
  unfold PySem.W.kitOne
  rw [if_pos (by simp)]

/-! ### constants, extend, repetition, min of three -/
theorem pe_gint {X : Cx} {x : Str} {n : Int} {pos : Pos} (hg : Gl X x) (hm : ∃ t, X.mg x = some (.int n t)) (hd : (x == ("__debug__" : Str)) = false := by decide) : PE X (.Name x pos) (tC (.int n)) := by
  obtain ⟨t, hm⟩ := hm
  exact pe_glob hg hm ⟨t, rfl⟩ hd
@[irreducible] def mExt (x y : V) (H : Hp) (Q : VK) : Prop := ∃ l b xs zs, x = .ref l ∧ y = .ref b ∧ H l = some (.lst xs) ∧ H b = some (.lst zs) ∧ xs.length + zs.length ≤ 1000000 ∧ Q .non (upd H l (.lst (xs ++ zs)))
def mExtE (to te : TE) : TE := fun σ H Q => to σ H fun x H1 => ∃ l xs, x = .ref l ∧ H1 l = some (.lst xs) ∧ te σ H1 fun y H2 => mExt x y H2 Q
theorem rd_ext {l b : Addr} {xs zs : List V} {H : Hp} {Q : VK} (h : H l = some (.lst xs)) (hb : H b = some (.lst zs)) (hz : xs.length + zs.length ≤ 1000000) (q : Q .non (upd H l (.lst (xs ++ zs)))) : mExt (.ref l) (.ref b) H Q := by
  unfold mExt
  exact ⟨l, b, xs, zs, rfl, rfl, h, hb, hz, q⟩
theorem pe_ext {X : Cx} {o e : Expr} {to te : TE} {apos cpos : Pos} (ho : PE X o to) (he : PE X e te) (hbase : attributeBase o "extend" X.env (eval o X.env) = eval o X.env := by rfl)
    (hfew : ((backTo cpos (starEach [e] X.env)).all (fun x => !x.1) && (backToKw cpos (keywordEach [] X.env)).all (fun x => x.1.isSome)
      && decide ([e].length + ([] : List Keyword).length + (if ([] : List Keyword).isEmpty then 0 else 1) < 30)) = true := by rfl)
    (hline : (apos.endLine == cpos.line) = true := by rfl) (hs : starEach [e] X.env = (false, eval e X.env) :: starEach [] X.env := by rfl) (hplain : (backTo cpos (starEach [] X.env)).any (·.1) = false := by rfl) :
    PE X (.Call (.Attribute o "extend" apos) [e] [] cpos) (mExtE to te) :=
  pe_weak (pe_bm PySem.F.plainAttrs_list PySem.F.slot_list_extend PySem.F.type_list_extend mt_extend (pe_c ho) (pa_cons (pe_c he) pa_nil hs) hbase hfew hline hs hplain) fun σ H Q q => by
    refine ⟨_, q, fun x H1 r => ?_⟩
    obtain ⟨l, xs, rfl, h, r⟩ := r
    refine ⟨Or.inl ⟨rfl, _, SqL.of h⟩, _, r, fun y H2 r2 => ?_⟩
    unfold mExt at r2
    obtain ⟨l2, b2, ys, zs, e2, rfl, h2, h3, hz, q2⟩ := r2
    exact ⟨l2, b2, ys, zs, e2, rfl, h2, h3, sz hz, q2⟩
theorem op_repM {X : Cx} : OpR X (binaryOp .Mult) mRep := fun pins s σ H x y v u Q I rx ry q => op_rep pins s σ H x y v u Q I rx ry (by
  unfold mRep at q
  obtain ⟨l, k, xs, e1, e2, h1, h0, hk, hz, h⟩ := q
  have big : (2 : Int) ^ 63 = 9223372036854775808 := by decide
  exact ⟨l, k, xs, e1, e2, h1, by omega, by omega, sz hz, h.go⟩)
theorem rd_rep {l : Addr} {k : Int} {xs : List V} {H : Hp} {Q : VK} (h1 : H l = some (.lst xs)) (h0 : 0 ≤ k) (hk : k ≤ 100000) (hz : xs.length * k.toNat ≤ 1000000) (h : NewO (.lst (List.replicate k.toNat xs).flatten) H Q) : mRep (.ref l) (.int k) H Q := by
  unfold mRep
  exact ⟨l, k, xs, rfl, rfl, h1, h0, hk, hz, h⟩
def mMin3 : List V → Hp → VK → Prop := fun vs H Q => ∃ i j k, vs = [.int i, .int j, .int k] ∧ Q (.int (min (min i j) k)) H
theorem call_min3M {X : Cx} (hc : X.calm = true) : CallR X (.builtin "min") mMin3 := fun pins s σ H xs us Q I r ⟨i, j, k, e, q⟩ => call_min3Nu hc pins s σ H xs us Q I r ⟨_, _, _, _, e, by
  show (Option.map (fun c => if c = true then V.int j else V.int i) (some (decide (j < i)))).bind _ = _
  by_cases h : j < i
  · rw [decide_eq_true h]
    show Option.map (fun c => if c = true then V.int k else V.int j) (some (decide (k < j))) = some (.int (min (min i j) k))
    by_cases h2 : k < j
    · rw [decide_eq_true h2]
      show some (V.int k) = _
      congr 2
      omega
    · rw [decide_eq_false h2]
      show some (V.int j) = _
      congr 2
      omega
  · rw [decide_eq_false h]
    show Option.map (fun c => if c = true then V.int k else V.int i) (some (decide (k < i))) = some (.int (min (min i j) k))
    by_cases h2 : k < i
    · rw [decide_eq_true h2]
      show some (V.int k) = _
      congr 2
      omega
    · rw [decide_eq_false h2]
      show some (V.int i) = _
      congr 2
      omega, q⟩
/-! ### comprehensions whose elements are new tuples -/
def EltT (te : TE) (σ : L2.St) (H : Hp) (xs : List V) : Prop := ∀ H', Same H H' → te σ H' fun v H'' => Same H' H'' ∧ ∃ p, v = .ref p ∧ H'' p = some (.tup xs)
def NewTs (n : Nat) (f : Nat → List V) (H : Hp) (Q : VK) : Prop := ∀ (D : Addr) (H' : Hp) (ps : List Addr), H D = none → Same H H' → H' D = some (.lst (ps.map V.ref)) → ps.length = n → (∀ i p, ps[i]? = some p → H' p = some (.tup (f i))) → Q (.ref D) H'
@[irreducible] def mLcTR3 (ta : TA) (j : Nat) (te : TE) (vs : List Nat) : TE := fun σ H Q => ta σ H fun ws H1 => ∃ (lo hi c : Int) (n : Nat) (f : Nat → List V), ws = [.int lo, .int hi, .int c] ∧ RgC lo hi c n ∧ n ≤ 1000 ∧ (∀ i, i < n → EltT te ((wipe σ vs).set j (some (.int (lo + (i : Nat) * c)))) H1 (f i)) ∧ NewTs n f H1 Q
theorem rd_lcTR3 {ta : TA} {j : Nat} {te : TE} {vs : List Nat} {σ : L2.St} {H : Hp} {Q : VK} (h : ta σ H fun ws H1 => ∃ (lo hi c : Int) (n : Nat) (f : Nat → List V), ws = [.int lo, .int hi, .int c] ∧ RgC lo hi c n ∧ n ≤ 1000 ∧ (∀ i, i < n → EltT te ((wipe σ vs).set j (some (.int (lo + (i : Nat) * c)))) H1 (f i)) ∧ NewTs n f H1 Q) : mLcTR3 ta j te vs σ H Q := by
  unfold mLcTR3
  exact h
@[irreducible] def mLcTL (K : PySem.W.Frag) (tl : TE) (j : Nat) (te : TE) (vs : List Nat) : TE := fun σ H Q => tl σ H fun x H1 => ∃ (a : Addr) (xs : List V) (f : Nat → List V), x = .ref a ∧ SqL K H1 a xs ∧ xs.length ≤ 1000 ∧ (∀ i y, xs[i]? = some y → EltT te ((wipe σ vs).set j (some y)) H1 (f i)) ∧ NewTs xs.length f H1 Q
theorem rd_lcTL {K : PySem.W.Frag} {tl : TE} {j : Nat} {te : TE} {vs : List Nat} {σ : L2.St} {H : Hp} {Q : VK} (h : tl σ H fun x H1 => ∃ (a : Addr) (xs : List V) (f : Nat → List V), x = .ref a ∧ SqL K H1 a xs ∧ xs.length ≤ 1000 ∧ (∀ i y, xs[i]? = some y → EltT te ((wipe σ vs).set j (some y)) H1 (f i)) ∧ NewTs xs.length f H1 Q) : mLcTL K tl j te vs σ H Q := by
  unfold mLcTL
  exact h
def TsW (H1 : Hp) (D : Addr) (f : Nat → List V) (i : Nat) (H' : Hp) : Prop := Same H1 H' ∧ ∃ ps : List Addr, H' D = some (.lst (ps.map V.ref)) ∧ ps.length = i ∧ ∀ k p, ps[k]? = some p → H' p = some (.tup (f k))
theorem TsW.next {H1 H' H'' : Hp} {D p : Addr} {f : Nat → List V} {i : Nat} (hD : H1 D = none) (w : TsW H1 D f i H') (s : Same H' H'') (hp : H'' p = some (.tup (f i))) : ∃ acc, H'' D = some (.lst acc) ∧ acc.length = i ∧ TsW H1 D f (i + 1) (upd H'' D (.lst (acc ++ [.ref p]))) := by
  obtain ⟨sm, ps, hd, hl, ht⟩ := w
  have hd2 := s _ _ hd
  have ne : ∀ {q : Addr} {xs : List V}, H'' q = some (.tup xs) → q ≠ D := fun {q xs} h e => by
    rw [e, hd2] at h
    cases h
  refine ⟨_, hd2, by rw [List.length_map, hl], same_mut (sm.trans s) hD, ps ++ [p], ?_, by rw [List.length_append, List.length_singleton, hl], fun k q hk => ?_⟩
  · rw [upd_same, List.map_append]
    rfl
  · by_cases h : k < ps.length
    · rw [List.getElem?_append_left h] at hk
      have := s _ _ (ht k q hk)
      rw [upd_ne (ne this)]
      exact this
    · rw [List.getElem?_append_right (by omega)] at hk
      have h0 : k - ps.length = 0 := by
        cases e : k - ps.length with
        | zero => rfl
        | succ m => rw [e] at hk; simp at hk
      rw [h0] at hk
      have e : p = q := Option.some.inj hk
      have ek : k = i := by omega
      subst e
      rw [ek, upd_ne (ne hp)]
      exact hp
section
variable {X : Cx} {te : TE} {ta : TA} {pos : Pos}
theorem lcTR3_of {ta : TA} {j : Nat} {te : TE} {vs : List Nat} {σ : L2.St} {H : Hp} {Q : VK} (hj : vs = [j]) (q : mLcTR3 ta j te vs σ H Q) : tLc (iRng3 (cTA ta)) (gName j) tYes (cTE te) vs σ H Q := by
  unfold mLcTR3 at q
  refine ⟨_, q, fun ws H1 r => ?_⟩
  obtain ⟨lo, hi, c, n, f, rfl, hr, hn, he, hq⟩ := r
  refine ⟨lo, hi, c, n, rfl, hr, fun D hD => ?_⟩
  refine ⟨fun i m H' => m = n - i ∧ i ≤ n ∧ TsW H1 D f i H', ⟨n, rfl, Nat.zero_le _, same_upd hD, [], upd_same, rfl, fun k p h => by cases h⟩, ?_⟩
  rintro i m H' ⟨rfl, hi, w⟩
  by_cases hlt : i < n
  · refine .inr ⟨hlt, TsW H1 D f (i + 1), fun H2 w2 => ⟨n - (i + 1), by omega, rfl, hlt, w2⟩, fun x H2 y => ?_⟩
    obtain ⟨e, y⟩ := y
    subst e
    subst y
    refine ⟨wipe_set hj, _, he i hlt _ w.1, fun v H'' r => ?_⟩
    obtain ⟨s, p, rfl, hp⟩ := r
    obtain ⟨acc, h1, h2, h3⟩ := w.next hD s hp
    exact ⟨acc, h1, szl (by omega), h3⟩
  · have e : i = n := by omega
    subst e
    obtain ⟨sm, ps, hd, hl, ht⟩ := w
    exact .inl ⟨Nat.le_refl _, hq D H' ps hD sm hd hl ht⟩
theorem lcTL_of {K : PySem.W.Frag} {tl : TE} {j : Nat} {te : TE} {vs : List Nat} {σ : L2.St} {H : Hp} {Q : VK} (hj : vs = [j]) (q : mLcTL K tl j te vs σ H Q) : tLc (iList K (cTE tl)) (gName j) tYes (cTE te) vs σ H Q := by
  unfold mLcTL at q
  refine ⟨_, q, fun x H1 r => ?_⟩
  obtain ⟨a, xs, f, rfl, hx, hn, he, hq⟩ := r
  refine ⟨a, rfl, ⟨xs, hx⟩, fun D hD => ?_⟩
  refine lc_list (xs := xs) (fun i H' => TsW H1 D f i H') ⟨same_upd hD, [], upd_same, rfl, fun k p h => by cases h⟩ (fun i H' _ w => w.1.seq hx) (fun i y H' hi w => ⟨wipe_set hj, _, he i y hi H' w.1, fun v H'' r => ?_⟩) fun H' w => ?_
  · obtain ⟨s, p, rfl, hp⟩ := r
    obtain ⟨acc, h1, h2, h3⟩ := w.next hD s hp
    have hl : i < xs.length := (List.getElem?_eq_some_iff.mp hi).1
    exact ⟨acc, h1, szl (by omega), h3⟩
  · obtain ⟨sm, ps, hd, hl, ht⟩ := w
    exact hq D H' ps hD sm hd hl ht
theorem pe_lcTL {elt it : Expr} {scope : Scope} {j : Nat} {x : Str} {xpos : Pos} (hc : X.calm = true) (hN : X.N.Nodup) {tl : TE} (ha : PE X it tl) (ok : BlkOk X.N X.env.scope scope [(x, j)])
    (hgt : ∀ (s : Shared) (H : Hp) (C : Addr) (cl : List (Str × Addr)) (fp : List Addr), PG (X.blk s H scope (compEnvC scope cl C X.env) fp) (.Name x xpos) (gName j))
    (he : ∀ (s : Shared) (H : Hp) (C : Addr) (cl : List (Str × Addr)) (fp : List Addr), PE (X.blk s H scope (compEnvC scope cl C X.env) fp) elt te) (hs2 : ∀ y, foldedSetIterable it X.env y = pure y := by intro _; rfl) :
    PE X (.ListComp elt [⟨.Name x xpos, it, [], 0⟩] scope pos) (mLcTL X.K tl j te [j]) :=
  pe_weak (pe_lc hc hN (pi_list (pe_c ha)) ok hgt (fun _ _ _ _ _ => pts_nil) (fun s H C cl fp => pe_c (he s H C cl fp)) hs2) fun _ _ _ q => lcTL_of rfl q
theorem ps_setLcTL {i : Nat} {y : Str} {py spos : Pos} {elt it : Expr} {scope : Scope} {j : Nat} {x : Str} {xpos : Pos} {tl : TE} (hc : X.calm = true) (hN : X.N.Nodup) (hy : X.N[i]? = some y) (hyl : X.env.scope.names.lookup y = some .local)
    (hsw : swapsWith (.ListComp elt [⟨.Name x xpos, it, [], 0⟩] scope pos) (some (.Name y py)) spos.line X.env = pure true) (ha : PE X it tl) (ok : BlkOk X.N X.env.scope scope [(x, j)])
    (hgt : ∀ (s : Shared) (H : Hp) (C : Addr) (cl : List (Str × Addr)) (fp : List Addr), PG (X.blk s H scope (compEnvC scope cl C X.env) fp) (.Name x xpos) (gName j))
    (he : ∀ (s : Shared) (H : Hp) (C : Addr) (cl : List (Str × Addr)) (fp : List Addr), PE (X.blk s H scope (compEnvC scope cl C X.env) fp) elt te) (hs2 : ∀ y, foldedSetIterable it X.env y = pure y := by intro _; rfl) :
    PS X (.Assign [.Name y py] (.ListComp elt [⟨.Name x xpos, it, [], 0⟩] scope pos) spos) (tAsg (mLcTL X.K tl j te [j]) (gName i)) :=
  ps_weak (ps_setLc hc hN hy hyl hsw (pi_list (pe_c ha)) ok hgt (fun _ _ _ _ _ => pts_nil) (fun s H C cl fp => pe_c (he s H C cl fp)) hs2) fun _ _ _ q => lcTL_of rfl q
theorem ps_setLcTR3 {i : Nat} {y : Str} {py spos : Pos} {elt : Expr} {scope : Scope} {j : Nat} {x : Str} {a b c : Expr} {p p2 xpos : Pos} (hc : X.calm = true) (hN : X.N.Nodup) (hy : X.N[i]? = some y) (hyl : X.env.scope.names.lookup y = some .local)
    (hsw : swapsWith (.ListComp elt [⟨.Name x xpos, .Call (.Name "range" p) [a, b, c] [] p2, [], 0⟩] scope pos) (some (.Name y py)) spos.line X.env = pure true) (hg : Gl X "range") (hm : X.mg "range" = none) (ha : PA X [a, b, c] ta) (ok : BlkOk X.N X.env.scope scope [(x, j)])
    (hgt : ∀ (s : Shared) (H : Hp) (C : Addr) (cl : List (Str × Addr)) (fp : List Addr), PG (X.blk s H scope (compEnvC scope cl C X.env) fp) (.Name x xpos) (gName j))
    (he : ∀ (s : Shared) (H : Hp) (C : Addr) (cl : List (Str × Addr)) (fp : List Addr), PE (X.blk s H scope (compEnvC scope cl C X.env) fp) elt te)
    (hs : starEach [a, b, c] X.env = (false, eval a X.env) :: starEach [b, c] X.env := by rfl) (hpl : (backTo p2 (starEach [b, c] X.env)).any (·.1) = false := by rfl) (hs2 : ∀ y, foldedSetIterable (.Call (.Name "range" p) [a, b, c] [] p2) X.env y = pure y := by intro _; rfl) :
    PS X (.Assign [.Name y py] (.ListComp elt [⟨.Name x xpos, .Call (.Name "range" p) [a, b, c] [] p2, [], 0⟩] scope pos) spos) (tAsg (mLcTR3 ta j te [j]) (gName i)) :=
  ps_weak (ps_setLc hc hN hy hyl hsw (pi_range3 hg hm (pa_c ha) hs hpl) ok hgt (fun _ _ _ _ _ => pts_nil) (fun s H C cl fp => pe_c (he s H C cl fp)) hs2) fun _ _ _ q => lcTR3_of rfl q
end

/-! ### the same rules within a comprehension: the written part by its own name -/
section
variable {X : Cx} {K : PySem.W.Frag}
theorem ix_listK (h : X.K = K) : IxR X (mIxL K) := h ▸ ix_listM
theorem ix_tupK (h : X.K = K) : IxR X (mIxT K) := h ▸ ix_tupM
theorem call_lenK (h : X.K = K) : CallR X (.builtin "len") (mLen K) := h ▸ call_lenM
end

theorem br_nonI {x : Int} {A B : Prop} (h : B) : Br (decide (V.int x = V.non)) A B := br_f (fun e => by cases e) h
theorem br_nonR {x : Addr} {A B : Prop} (h : B) : Br (decide (V.ref x = V.non)) A B := br_f (fun e => by cases e) h
theorem br_nonN {A B : Prop} (h : A) : Br (decide (V.non = V.non)) A B := br_t rfl h
theorem dec_nonI {x : Int} : decide (V.int x = V.non) = false := decide_eq_false fun e => by cases e
theorem dec_nonR {x : Addr} : decide (V.ref x = V.non) = false := decide_eq_false fun e => by cases e

/-! ### if t: x = e, told once by what x holds behind it -/
@[irreducible] def IfSet (b : Bool) (te : TE) (i : Nat) (D : Ends) (σ : L2.St) (H : Hp) : Prop := ∃ P : V → Hp → Prop, (b = true → te σ H P) ∧ (b = false → ∃ v, σ.set i (some v) = σ ∧ P v H) ∧ ∀ v H', P v H' → D.nx (σ.set i (some v)) H'
theorem rd_ifSet {b : Bool} {te : TE} {i : Nat} {D : Ends} {σ : L2.St} {H : Hp} (P : V → Hp → Prop) (h1 : b = true → te σ H P) (h2 : b = false → ∃ v, σ.set i (some v) = σ ∧ P v H) (k : ∀ v H', P v H' → D.nx (σ.set i (some v)) H') : IfSet b te i D σ H := by
  unfold IfSet
  exact ⟨P, h1, h2, k⟩
def mIfSet (tt : TT) (te : TE) (i : Nat) : TS := fun D σ H => tt σ H fun b H1 => IfSet b te i D σ H1
theorem ps_ifSet {X : Cx} {i : Nat} {x : Str} {c e : Expr} {tt : TT} {te : TE} {pos pos2 pos' : Pos} (hc : PT X c tt) (hN : X.N.Nodup) (hi : X.N[i]? = some x) (hx : Loc X.env.scope x) (he : PE X e te) (hs : swapsWith e (some (.Name x pos')) pos2.line X.env = pure false := by rfl)
    (hf : X.fn x = true ∨ X.env.scope.names.lookup x = some .local := by first | exact .inl rfl | exact .inr rfl | assumption) : PS X (.If c [.Assign [.Name x pos'] e pos2] [] pos) (mIfSet tt te i) :=
  ps_weak (ps_if (pt_c hc) (pss_one (ps_set (i := i) hN hi hx (pe_c he) hs hf)) pss_nil) fun D σ H q => ⟨_, q, fun b H1 r => by
    unfold IfSet at r
    obtain ⟨P, h1, h2, k⟩ := r
    cases b with
    | true => exact iteT ⟨P, h1 rfl, fun v H' p => k v H' p⟩
    | false =>
      obtain ⟨v, e, p⟩ := h2 rfl
      refine iteF ?_
      have := k v H1 p
      rw [e] at this
      exact this⟩
section
variable {X : Cx}
/-- what stands in a list at a whole number, as the store in place reads it -/
theorem get_listM : PGet X (mIxL X.K) := fun pins s σ H x y vx vy Q inv rx ry h => by
  unfold mIxL at h
  obtain ⟨p, xs, k, z, rfl, rfl, hsq, hat, q⟩ := h
  cases rx
  obtain ⟨tk, rfl⟩ := ry
  obtain ⟨its, rel, plain, _⟩ := inv.list hsq
  obtain ⟨j, hj, hget, hn, hlo, hhi⟩ := atI_get hat
  obtain ⟨wv, hwv, relz⟩ := rel.get hget
  have hlen := rel.length
  have h63 := line63
  by_cases hk : 0 ≤ k
  · have ej : k.toNat = j := by
      rw [seqIndex_of hk hhi] at hj
      exact Option.some.inj hj
    exact wpAny_getItem_list plain.isList hk (by omega) (by rw [ej]; simpa using hwv) ⟨z, H, inv, relz, q⟩
  · have ej : (k + (its.toArray.size : Int)).toNat = j := by
      rw [seqIndex_neg (by omega) hlo] at hj
      rw [List.size_toArray, ← hlen]
      exact Option.some.inj hj
    exact wpAny_getItem_list_neg plain.isList (by omega) (by rw [List.size_toArray]; omega) (by omega) (by rw [ej]; simpa using hwv) ⟨z, H, inv, relz, q⟩
end
section
variable {X : Cx} {te : TE} {ta : TA} {pos : Pos}
/-- [(…) for x in range(n)] -/
@[irreducible] def mLcTR1 (ta : TA) (j : Nat) (te : TE) (vs : List Nat) : TE := fun σ H Q => ta σ H fun ws H1 => ∃ (n : Int) (f : Nat → List V), ws = [.int n] ∧ (-100000 ≤ n ∧ n ≤ 100000) ∧ (∀ i, i < n.toNat → EltT te ((wipe σ vs).set j (some (.int (i : Nat)))) H1 (f i)) ∧ NewTs n.toNat f H1 Q
theorem rd_lcTR1 {ta : TA} {j : Nat} {te : TE} {vs : List Nat} {σ : L2.St} {H : Hp} {Q : VK} (h : ta σ H fun ws H1 => ∃ (n : Int) (f : Nat → List V), ws = [.int n] ∧ (-100000 ≤ n ∧ n ≤ 100000) ∧ (∀ i, i < n.toNat → EltT te ((wipe σ vs).set j (some (.int (i : Nat)))) H1 (f i)) ∧ NewTs n.toNat f H1 Q) : mLcTR1 ta j te vs σ H Q := by
  unfold mLcTR1
  exact h
theorem lcTR1_of {ta : TA} {j : Nat} {te : TE} {vs : List Nat} {σ : L2.St} {H : Hp} {Q : VK} (hj : vs = [j]) (q : mLcTR1 ta j te vs σ H Q) : tLc (iRng1 (cTA ta)) (gName j) tYes (cTE te) vs σ H Q := by
  unfold mLcTR1 at q
  refine ⟨_, q, fun ws H1 r => ?_⟩
  obtain ⟨n, f, rfl, ⟨hn0, hn⟩, he, hq⟩ := r
  have big : (2 : Int) ^ 62 = 4611686018427387904 := by decide
  refine ⟨n, rfl, by omega, by omega, fun D hD => ?_⟩
  refine lc_range (lo := 0) (n := n.toNat) (fun i H' => TsW H1 D f i H') ⟨same_upd hD, [], upd_same, rfl, fun k p h => by cases h⟩ (fun i H' hi w => ⟨wipe_set hj, ?_⟩) fun H' w => ?_
  · show cTE te ((wipe σ vs).set j (some (.int (0 + (i : Int))))) H' _
    rw [Int.zero_add]
    refine ⟨_, he i hi H' w.1, fun v H'' r => ?_⟩
    obtain ⟨s, p, rfl, hp⟩ := r
    obtain ⟨acc, h1, h2, h3⟩ := w.next hD s hp
    exact ⟨acc, h1, szl (by omega), h3⟩
  · obtain ⟨sm, ps, hd, hl, ht⟩ := w
    exact hq D H' ps hD sm hd hl ht
theorem ps_setLcTR1 {i : Nat} {y : Str} {py spos : Pos} {elt : Expr} {scope : Scope} {j : Nat} {x : Str} {a : Expr} {p p2 xpos : Pos} (hc : X.calm = true) (hN : X.N.Nodup) (hy : X.N[i]? = some y) (hyl : X.env.scope.names.lookup y = some .local)
    (hsw : swapsWith (.ListComp elt [⟨.Name x xpos, .Call (.Name "range" p) [a] [] p2, [], 0⟩] scope pos) (some (.Name y py)) spos.line X.env = pure true) (hg : Gl X "range") (hm : X.mg "range" = none) (ha : PA X [a] ta) (ok : BlkOk X.N X.env.scope scope [(x, j)])
    (hgt : ∀ (s : Shared) (H : Hp) (C : Addr) (cl : List (Str × Addr)) (fp : List Addr), PG (X.blk s H scope (compEnvC scope cl C X.env) fp) (.Name x xpos) (gName j))
    (he : ∀ (s : Shared) (H : Hp) (C : Addr) (cl : List (Str × Addr)) (fp : List Addr), PE (X.blk s H scope (compEnvC scope cl C X.env) fp) elt te)
    (hs : starEach [a] X.env = [(false, eval a X.env)] := by rfl) (hs2 : ∀ y, foldedSetIterable (.Call (.Name "range" p) [a] [] p2) X.env y = pure y := by intro _; rfl) :
    PS X (.Assign [.Name y py] (.ListComp elt [⟨.Name x xpos, .Call (.Name "range" p) [a] [] p2, [], 0⟩] scope pos) spos) (tAsg (mLcTR1 ta j te [j]) (gName i)) :=
  ps_weak (ps_setLc hc hN hy hyl hsw (pi_range1 hg hm (pa_c ha) hs) ok hgt (fun _ _ _ _ _ => pts_nil) (fun s H C cl fp => pe_c (he s H C cl fp)) hs2) fun _ _ _ q => lcTR1_of rfl q
end
/-! ### a comprehension over any walk, its elements values, some left out -/
def IMono (wi' wi : TI) : Prop := ∀ (σ : L2.St) (H : Hp) (R R' : It → Hp → Prop), (∀ J H', R J H' → R' J H') → wi' σ H R → wi σ H R'
section
variable {K : PySem.W.Frag}
theorem im_zip {ta : TA} : IMono (iZip K ta) (iZip K (cTA ta)) := fun σ H R R' h q => ⟨_, q, fun v H' r => by
  obtain ⟨a, b, xs, ys, e, h1, h2, r⟩ := r
  exact ⟨a, b, xs, ys, e, h1, h2, h _ _ r⟩⟩
theorem im_enum {ta : TA} : IMono (iEnum K ta) (iEnum K (cTA ta)) := fun σ H R R' h q => ⟨_, q, fun v H' r => by
  obtain ⟨a, xs, e, h1, r⟩ := r
  exact ⟨a, xs, e, h1, h _ _ r⟩⟩
theorem im_list {tl : TE} : IMono (iList K tl) (iList K (cTE tl)) := fun σ H R R' h q => ⟨_, q, fun v H' r => by
  obtain ⟨a, e, h1, r⟩ := r
  exact ⟨a, e, h1, h _ _ r⟩⟩
theorem im_tup {tl : TE} : IMono (iTup K tl) (iTup K (cTE tl)) := fun σ H R R' h q => ⟨_, q, fun v H' r => by
  obtain ⟨a, e, h1, r⟩ := r
  exact ⟨a, e, h1, h _ _ r⟩⟩
theorem im_rng1 {ta : TA} : IMono (iRng1 ta) (iRng1 (cTA ta)) := fun σ H R R' h q => ⟨_, q, fun v H' r => by
  obtain ⟨j, e, h1, h2, r⟩ := r
  exact ⟨j, e, h1, h2, h _ _ r⟩⟩
theorem im_rng2 {ta : TA} : IMono (iRng2 ta) (iRng2 (cTA ta)) := fun σ H R R' h q => ⟨_, q, fun v H' r => by
  obtain ⟨i, j, e, h1, r⟩ := r
  exact ⟨i, j, e, h1, h _ _ r⟩⟩
end
/-- the new list at D behind i turns -/
structure LcP (H1 : Hp) (D : Addr) (keep : Nat → Bool) (f : Nat → V) (i : Nat) (H' : Hp) : Prop where
  sm : Same H1 H'
  at' : H' D = some (.lst (((List.range i).filter keep).map f))
def LcN (H1 : Hp) (D : Addr) (keep : Nat → Bool) (f : Nat → V) (i : Nat) (y : V) (H4 : Hp) : Prop := ∃ acc, H4 D = some (.lst acc) ∧ acc.length < sizeLine ∧ LcP H1 D keep f (i + 1) (upd H4 D (.lst (acc ++ [y])))
theorem LcP.put {H1 H' H4 : Hp} {D : Addr} {keep : Nat → Bool} {f : Nat → V} {i : Nat} {y : V} (p : LcP H1 D keep f i H') (hD : H1 D = none) (hi : i < 100000) (s : Same H' H4) (hk : keep i = true) (e : y = f i) : LcN H1 D keep f i y H4 := by
  refine ⟨_, s _ _ p.at', ?_, same_mut (p.sm.trans s) hD, ?_⟩
  · have h1 := List.length_filter_le keep (List.range i)
    rw [List.length_range] at h1
    rw [List.length_map]
    exact szl (by omega)
  · rw [upd_same, List.range_succ, List.filter_append, List.map_append, e]
    have e2 : [i].filter keep = [i] := by
      rw [List.filter_cons, if_pos hk]
      rfl
    rw [e2]
    rfl
theorem LcP.skip {H1 H' H4 : Hp} {D : Addr} {keep : Nat → Bool} {f : Nat → V} {i : Nat} (p : LcP H1 D keep f i H') (s : Same H' H4) (hk : keep i = false) : LcP H1 D keep f (i + 1) H4 := by
  refine ⟨p.sm.trans s, ?_⟩
  rw [s _ _ p.at', List.range_succ, List.filter_append]
  have e2 : [i].filter keep = [] := by
    rw [List.filter_cons, if_neg (by rw [hk]; decide)]
    rfl
  rw [e2, List.append_nil]
@[irreducible] def mLcP (wi : TI) (g : TG) (tt : TT) (te : TE) (vs : List Nat) : TE := fun σ H Q => wi σ H fun J H1 => ∃ (n : Nat) (G : Hp → Prop) (Y : Nat → Hp → V → Hp → Prop) (keep : Nat → Bool) (f : Nat → V), Walk J n G Y ∧ n ≤ 100000 ∧ (∀ H', Same H1 H' → G H') ∧
  (∀ D, H1 D = none → ∀ i x H' H'', i < n → LcP H1 D keep f i H' → Y i H' x H'' → g x (wipe σ vs) H'' fun σ2 H2 => wipe σ2 vs = wipe σ vs ∧ tt σ2 H2 fun b H3 => Br b (te σ2 H3 fun y H4 => LcN H1 D keep f i y H4) (LcP H1 D keep f (i + 1) H3)) ∧ NewO (.lst (((List.range n).filter keep).map f)) H1 Q
theorem rd_lcP {wi : TI} {g : TG} {tt : TT} {te : TE} {vs : List Nat} {σ : L2.St} {H : Hp} {Q : VK} (h : wi σ H fun J H1 => ∃ (n : Nat) (G : Hp → Prop) (Y : Nat → Hp → V → Hp → Prop) (keep : Nat → Bool) (f : Nat → V), Walk J n G Y ∧ n ≤ 100000 ∧ (∀ H', Same H1 H' → G H') ∧
  (∀ D, H1 D = none → ∀ i x H' H'', i < n → LcP H1 D keep f i H' → Y i H' x H'' → g x (wipe σ vs) H'' fun σ2 H2 => wipe σ2 vs = wipe σ vs ∧ tt σ2 H2 fun b H3 => Br b (te σ2 H3 fun y H4 => LcN H1 D keep f i y H4) (LcP H1 D keep f (i + 1) H3)) ∧ NewO (.lst (((List.range n).filter keep).map f)) H1 Q) : mLcP wi g tt te vs σ H Q := by
  unfold mLcP
  exact h
def cTG (g : TG) : TG := fun v σ H Q => ∃ R : L2.St → Hp → Prop, g v σ H R ∧ ∀ σ' H', R σ' H' → Q σ' H'
section
variable {X : Cx} {e tg : Expr} {ifs : List Expr} {g : TG} {tt : TT} {te : TE}
theorem pg_c (h : PG X tg g) : PG X tg (cTG g) := ⟨fun pins s σ H v u Q I r ⟨R, h1, h2⟩ => wpAny_mono (h.run pins s σ H v u R I r h1) (fun _ s1 ⟨σ1, H1, I1, q⟩ => ⟨σ1, H1, I1, h2 _ _ q⟩) fun _ _ z => z⟩
theorem pts_c (h : PTs X ifs tt) : PTs X ifs (cTT tt) := ⟨fun pins s σ H Q I ⟨R, h1, h2⟩ => wpAny_mono (h.run pins s σ H R I h1) (fun _ s1 ⟨H1, I1, q⟩ => ⟨H1, I1, h2 _ _ q⟩) fun _ _ z => z⟩
theorem lcP_of {wi wi' : TI} {vs : List Nat} {σ : L2.St} {H : Hp} {Q : VK} (hw : IMono wi' wi) (q : mLcP wi' g tt te vs σ H Q) : tLc wi (cTG g) (cTT tt) (cTE te) vs σ H Q := by
  unfold mLcP at q
  refine hw _ _ _ _ (fun J H1 r => ?_) q
  obtain ⟨n, G, Y, keep, f, w, hn, hG, ht, hq⟩ := r
  intro D hD
  refine lc_it w (LcP H1 D keep f) ⟨same_upd hD, upd_same⟩ (fun i H' _ p => hG H' p.sm) (fun i x H' H'' hi p y => ?_) fun H' p => hq D H' hD p.sm p.at'
  refine ⟨_, ht D hD i x H' H'' hi p y, fun σ2 H2 r => ⟨r.1, _, r.2, fun b H3 r => ?_⟩⟩
  cases b with
  | true => exact iteT ⟨_, (r.un : if true = true then _ else _), fun y H4 z => z⟩
  | false => exact iteF (r.un : if false = true then _ else _)
theorem pe_lcP {iter elt : Expr} {scope : Scope} {own : List (Str × Nat)} {pos : Pos} {wi wi' : TI} (vs : List Nat) (hw : IMono wi' wi) (hc : X.calm = true) (hN : X.N.Nodup) (hi : PI X tg iter wi) (ok : BlkOk X.N X.env.scope scope own)
    (hg : ∀ (s : Shared) (H : Hp) (C : Addr) (cl : List (Str × Addr)) (fp : List Addr), PG (X.blk s H scope (compEnvC scope cl C X.env) fp) tg g) (ht : ∀ (s : Shared) (H : Hp) (C : Addr) (cl : List (Str × Addr)) (fp : List Addr), PTs (X.blk s H scope (compEnvC scope cl C X.env) fp) ifs tt)
    (he : ∀ (s : Shared) (H : Hp) (C : Addr) (cl : List (Str × Addr)) (fp : List Addr), PE (X.blk s H scope (compEnvC scope cl C X.env) fp) elt te) (hvs : own.map (·.2) = vs := by rfl) (hs : ∀ x, foldedSetIterable iter X.env x = pure x := by intro _; rfl) :
    PE X (.ListComp elt [⟨tg, iter, ifs, 0⟩] scope pos) (mLcP wi' g tt te vs) :=
  pe_weak (pe_lc hc hN hi ok (fun s H C cl fp => pg_c (hg s H C cl fp)) (fun s H C cl fp => pts_c (ht s H C cl fp)) (fun s H C cl fp => pe_c (he s H C cl fp)) hs) fun _ _ _ q => by
    rw [hvs]
    exact lcP_of hw q
theorem ps_setLcP {i : Nat} {y : Str} {py : Pos} {iter elt : Expr} {scope : Scope} {own : List (Str × Nat)} {pos spos : Pos} {wi wi' : TI} (vs : List Nat) (hw : IMono wi' wi) (hc : X.calm = true) (hN : X.N.Nodup) (hy : X.N[i]? = some y) (hyl : X.env.scope.names.lookup y = some .local)
    (hsw : swapsWith (.ListComp elt [⟨tg, iter, ifs, 0⟩] scope pos) (some (.Name y py)) spos.line X.env = pure true) (hi : PI X tg iter wi) (ok : BlkOk X.N X.env.scope scope own)
    (hg : ∀ (s : Shared) (H : Hp) (C : Addr) (cl : List (Str × Addr)) (fp : List Addr), PG (X.blk s H scope (compEnvC scope cl C X.env) fp) tg g) (ht : ∀ (s : Shared) (H : Hp) (C : Addr) (cl : List (Str × Addr)) (fp : List Addr), PTs (X.blk s H scope (compEnvC scope cl C X.env) fp) ifs tt)
    (he : ∀ (s : Shared) (H : Hp) (C : Addr) (cl : List (Str × Addr)) (fp : List Addr), PE (X.blk s H scope (compEnvC scope cl C X.env) fp) elt te) (hvs : own.map (·.2) = vs := by rfl) (hs : ∀ x, foldedSetIterable iter X.env x = pure x := by intro _; rfl) :
    PS X (.Assign [.Name y py] (.ListComp elt [⟨tg, iter, ifs, 0⟩] scope pos) spos) (tAsg (mLcP wi' g tt te vs) (gName i)) :=
  ps_weak (ps_setLc hc hN hy hyl hsw hi ok (fun s H C cl fp => pg_c (hg s H C cl fp)) (fun s H C cl fp => pts_c (ht s H C cl fp)) (fun s H C cl fp => pe_c (he s H C cl fp)) hs) fun _ _ _ q => by
    rw [hvs]
    exact lcP_of hw q
end
theorem wipe2 {σ : L2.St} {i j : Nat} {x y : Option V} (h : i ≠ j) : wipe (((wipe σ [i, j]).set i x).set j y) [i, j] = wipe σ [i, j] := by
  show (((((σ.set j none).set i none).set i x).set j y).set j none).set i none = (σ.set j none).set i none
  have e : ∀ (z : Option V), ((σ.set j none).set i z).set j none = (σ.set j none).set i z := fun z => by rw [List.set_comm _ _ h, List.set_set]
  rw [List.set_set, List.set_set, e, List.set_set]
/-! ### slices; lists of whole numbers compared -/
theorem sIx_nn {n d : Nat} {k : Int} (h : 0 ≤ k) : HT.sIx n d (some k) = min k.toNat n := by
  show (if k < 0 then (k + (n : Int)).toNat else min k.toNat n) = _
  rw [if_neg (by omega)]
theorem sIx_neg {n d : Nat} {k : Int} (h : k < 0) : HT.sIx n d (some k) = (k + (n : Int)).toNat := by
  show (if k < 0 then (k + (n : Int)).toNat else min k.toNat n) = _
  rw [if_pos h]
theorem drop_min {α : Type} (xs : List α) (k : Nat) : xs.drop (min k xs.length) = xs.drop k := by
  by_cases h : k ≤ xs.length
  · rw [Nat.min_eq_left h]
  · rw [Nat.min_eq_right (by omega), List.drop_of_length_le (Nat.le_refl _), List.drop_of_length_le (by omega)]
theorem take_all {α : Type} (xs : List α) {k m : Nat} (h : xs.length ≤ k) (h2 : xs.length ≤ m) : xs.take k = xs.take m := by
  rw [List.take_of_length_le h, List.take_of_length_le h2]
theorem cutX_from {xs : List V} {k : Int} (h : 0 ≤ k) : cutV xs (some k) none = xs.drop k.toNat := by
  unfold cutV
  rw [HT.sIx_none, sIx_nn h, drop_min]
  refine List.take_of_length_le ?_
  rw [List.length_drop]
  omega
theorem cutX_to {xs : List V} {k : Int} (h : 0 ≤ k) : cutV xs none (some k) = xs.take k.toNat := by
  unfold cutV
  rw [HT.sIx_none, sIx_nn h, List.drop_zero, Nat.sub_zero]
  by_cases h2 : k.toNat ≤ xs.length
  · rw [Nat.min_eq_left h2]
  · exact take_all _ (by omega) (by omega)
theorem cutX_nn {xs : List V} {i j : Int} (h : 0 ≤ i) (h' : 0 ≤ j) : cutV xs (some i) (some j) = (xs.drop i.toNat).take (j.toNat - i.toNat) := by
  unfold cutV
  rw [sIx_nn h, sIx_nn h', drop_min]
  by_cases h2 : j.toNat ≤ xs.length
  · by_cases h3 : i.toNat ≤ xs.length
    · rw [Nat.min_eq_left h2, Nat.min_eq_left h3]
    · rw [List.drop_of_length_le (by omega), List.take_nil, List.take_nil]
  · refine take_all _ ?_ ?_ <;> (rw [List.length_drop]; omega)
theorem cutX_butLast {xs : List V} {i : Int} (h : 0 ≤ i) : cutV xs (some i) (some (-1)) = (xs.drop i.toNat).take (xs.length - 1 - i.toNat) := by
  unfold cutV
  rw [sIx_nn h, sIx_neg (by decide), drop_min]
  have e : (-1 + (xs.length : Int)).toNat = xs.length - 1 := by omega
  rw [e]
  by_cases h3 : i.toNat ≤ xs.length
  · rw [Nat.min_eq_left h3]
  · rw [List.drop_of_length_le (by omega), List.take_nil, List.take_nil]
theorem eqvAll_ints : ∀ ns ms : List Int, PyData.eqvAll (ns.map PyData.int) (ms.map PyData.int) = decide (ns = ms)
  | [], [] => rfl
  | [], _ :: _ => by
    rw [decide_eq_false (by intro e; cases e)]
    rfl
  | _ :: _, [] => by
    rw [decide_eq_false (by intro e; cases e)]
    rfl
  | a :: r, b :: s => by
    rw [List.map_cons, List.map_cons, PyData.eqvAll, eqvAll_ints r s, PyData.eqv]
    by_cases h : a = b
    · subst h
      simp
    · simp [h]
section
variable {K : PySem.W.Frag} {H : Hp} {Q : VK} {a b : Addr}
theorem rd_eqI {ns ms : List Int} (h1 : SqL K H a (ns.map V.int)) (h2 : SqL K H b (ms.map V.int)) (h : Q (.bl (decide (ns = ms))) H) : mEqD K (.ref a) (.ref b) H Q :=
  rd_eqA (n := 1) (m := 1) (.list (ns.map PyData.int)) (.list (ms.map PyData.int)) (dp_ints h1) (dp_ints h2) (sh_lst (sh_ints _)) (sh_lst (sh_ints _)) (by rw [PyData.eqv, eqvAll_ints]; exact h)
theorem rd_neI {ns ms : List Int} (h1 : SqL K H a (ns.map V.int)) (h2 : SqL K H b (ms.map V.int)) (h : Q (.bl (!decide (ns = ms))) H) : mNeD K (.ref a) (.ref b) H Q :=
  rd_neA (n := 1) (m := 1) (.list (ns.map PyData.int)) (.list (ms.map PyData.int)) (dp_ints h1) (dp_ints h2) (sh_lst (sh_ints _)) (sh_lst (sh_ints _)) (by rw [PyData.eqv, eqvAll_ints]; exact h)
end
theorem rd_yes {σ : L2.St} {H : Hp} {Q : Bool → Hp → Prop} (h : Q true H) : tYes σ H Q := h
theorem at_last {ns : List Int} (h : 0 < ns.length) : atI (ns.map V.int) (-1) = some (.int (ns.getD (ns.length - 1) 0)) := by
  have hne : ns ≠ [] := fun e => by
    rw [e] at h
    cases h
  obtain ⟨r, x, rfl⟩ : ∃ r x, ns = r ++ [x] := ⟨ns.dropLast, ns.getLast hne, (List.dropLast_concat_getLast hne).symm⟩
  rw [List.map_append]
  have e : (r ++ [x]).getD ((r ++ [x]).length - 1) 0 = x := by
    rw [List.length_append, List.length_singleton, Nat.add_sub_cancel, List.getD_eq_getElem?_getD, List.getElem?_append_right (Nat.le_refl _), Nat.sub_self]
    rfl
  rw [e]
  exact atI_last _ _
/-- the frame in another form -/
theorem frS {F : L2.St → Hp → Prop} {σ σ' : L2.St} {H : Hp} (e : σ' = σ) (h : F σ' H) : F σ H := e ▸ h
theorem br_xnonI {x : Int} {A B : Prop} (h : A) : Br (!decide (V.int x = V.non)) A B := br_nt (fun e => by cases e) h
theorem br_xnonR {x : Addr} {A B : Prop} (h : A) : Br (!decide (V.ref x = V.non)) A B := br_nt (fun e => by cases e) h
theorem br_xnonN {A B : Prop} (h : B) : Br (!decide (V.non = V.non)) A B := br_nf rfl h
theorem rd_listT {K : PySem.W.Frag} {a : Addr} {xs : List V} {H : Hp} {Q : VK} (h1 : SqT K H a xs) (h : NewO (.lst xs) H Q) : mListOf K [.ref a] H Q := by
  unfold mListOf
  exact ⟨a, xs, rfl, .inr h1, h⟩
/-- tuple(xs) of a list -/
@[irreducible] def mTupOf (K : PySem.W.Frag) : List V → Hp → VK → Prop := fun xs H Q => ∃ p ys, xs = [.ref p] ∧ SqL K H p ys ∧ NewO (.tup ys) H Q
theorem rd_tupOf {K : PySem.W.Frag} {a : Addr} {xs : List V} {H : Hp} {Q : VK} (h1 : SqL K H a xs) (h : NewO (.tup xs) H Q) : mTupOf K [.ref a] H Q := by
  unfold mTupOf
  exact ⟨a, xs, rfl, h1, h⟩
theorem call_tupOfM {X : Cx} : CallR X (.type "tuple") (mTupOf X.K) := fun pins s σ H xs us Q I r q => call_tuple_of pins s σ H xs us Q I r (by
  unfold mTupOf at q
  obtain ⟨a, ys, e1, h1, h⟩ := q
  exact ⟨a, ys, e1, .inl ⟨h1, h.go⟩⟩)
/-! ### own cells: objects that change, beside a world that only grows -/
structure Cells (H B : Hp) (l : List (Addr × HO)) : Prop where
  cell : ∀ a o, (a, o) ∈ l → H a = some o
  nd : (l.map Prod.fst).Nodup
  imm : Same B H
  dis : ∀ a o, (a, o) ∈ l → B a = none
structure Own (S B0 : Hp) (as : List Addr) (B : Hp) (l : List (Addr × HO)) (H : Hp) : Prop where
  c : Cells H B l
  kept : ∀ b o, b ∉ as → S b = some o → H b = some o
  own : ∀ a o, (a, o) ∈ l → a ∈ as ∨ S a = none
  grow : Same B0 B
  new : ∀ b, B0 b = none → B b ≠ none → S b = none
  there : ∀ a, a ∈ as → H a ≠ none
theorem mem_fst {l : List (Addr × HO)} {a : Addr} {o : HO} (h : (a, o) ∈ l) : a ∈ l.map Prod.fst := List.mem_map.mpr ⟨(a, o), h, rfl⟩
theorem fst_mem {l : List (Addr × HO)} {a : Addr} (h : a ∈ l.map Prod.fst) : ∃ o, (a, o) ∈ l := by
  obtain ⟨⟨a', o⟩, h2, rfl⟩ := List.mem_map.mp h
  exact ⟨o, h2⟩
theorem Cells.start {H B : Hp} {l : List (Addr × HO)} (c : Cells H B l) : Own H B (l.map Prod.fst) B l H :=
  ⟨c, fun _ _ _ h => h, fun _ _ h => .inl (mem_fst h), Same.refl _, fun _ h k => absurd h k, fun a h => by
    obtain ⟨o, h⟩ := fst_mem h
    rw [c.cell a o h]
    exact fun e => nomatch e⟩
theorem Own.mk0 {H : Hp} : Own H H [] H [] H := ⟨⟨fun _ _ h => (nomatch h), List.nodup_nil, Same.refl _, fun _ _ h => (nomatch h)⟩, fun _ _ _ h => h, fun _ _ h => (nomatch h), Same.refl _, fun _ h k => absurd h k, fun _ h => (nomatch h)⟩
section
variable {S B0 B H H' : Hp} {as : List Addr} {l : List (Addr × HO)} {p : Addr} {o : HO}
theorem Own.mem (w : Own S B0 as B l H) (h : (p, o) ∈ l) : H p = some o := w.c.cell p o h
theorem Own.imm (w : Own S B0 as B l H) : Same B H := w.c.imm
theorem Own.same (w : Own S B0 [] B l H) : Same S H := fun b o h => w.kept b o (fun z => nomatch z) h
theorem Own.frS (w : Own S B0 as B l H) (n : H p = none) : S p = none ∧ p ∉ as := by
  have h2 : p ∉ as := fun h => w.there p h n
  refine ⟨?_, h2⟩
  cases e : S p with
  | none => rfl
  | some u => rw [w.kept p u h2 e] at n; cases n
theorem Own.frB (w : Own S B0 as B l H) (n : H p = none) : B p = none := same_none w.imm n
theorem Own.more (w : Own S B0 as B l H) (s : Same H H') : Own S B0 as B l H' :=
  ⟨⟨fun a u h => s _ _ (w.c.cell a u h), w.c.nd, w.c.imm.trans s, w.c.dis⟩, fun b u hb h => s _ _ (w.kept b u hb h), w.own, w.grow, w.new, fun a h e => w.there a h (same_none s e)⟩
theorem Own.notin (w : Own S B0 as B l H) (n : H p = none) {u : HO} : (p, u) ∉ l := fun h => by
  rw [w.c.cell p u h] at n
  cases n
theorem Own.ro (w : Own S B0 as B l H) (n : H p = none) (s : Same H H') (e : H' p = some o) : ∃ B', Same B B' ∧ B' p = some o ∧ B p = none ∧ Own S B0 as B' l H' := by
  have nb := w.frB n
  refine ⟨upd B p o, same_upd nb, upd_same, nb, ⟨fun a u h => s _ _ (w.c.cell a u h), w.c.nd, fun b u h => ?_, fun a u h => ?_⟩, fun b u hb h => s _ _ (w.kept b u hb h), w.own, w.grow.trans (same_upd nb), fun b h k => ?_, fun a h e => w.there a h (same_none s e)⟩
  · by_cases hb : b = p
    · rw [hb, upd_same] at h
      rw [hb, e, h]
    · rw [upd_ne hb] at h
      exact s _ _ (w.c.imm _ _ h)
  · rw [upd_ne (fun z => w.notin n (z ▸ h))]
    exact w.c.dis a u h
  · by_cases hb : b = p
    · rw [hb]
      exact (w.frS n).1
    · rw [upd_ne hb] at k
      exact w.new b h k
theorem Own.add (w : Own S B0 as B l H) (n : H p = none) (s : Same H H') (e : H' p = some o) : Own S B0 as B ((p, o) :: l) H' :=
  ⟨⟨fun a u h => by
      rcases List.mem_cons.mp h with h | h
      · cases h
        exact e
      · exact s _ _ (w.c.cell a u h), List.nodup_cons.mpr ⟨fun h => by
      obtain ⟨u, h⟩ := fst_mem h
      exact w.notin n h, w.c.nd⟩, w.c.imm.trans s, fun a u h => by
      rcases List.mem_cons.mp h with h | h
      · cases h
        exact w.frB n
      · exact w.c.dis a u h⟩, fun b u hb h => s _ _ (w.kept b u hb h), fun a u h => by
      rcases List.mem_cons.mp h with h | h
      · cases h
        exact .inr (w.frS n).1
      · exact w.own a u h, w.grow, w.new, fun a h e => w.there a h (same_none s e)⟩
theorem Own.sub {l' : List (Addr × HO)} (w : Own S B0 as B l H) (h : ∀ c, c ∈ l' → c ∈ l) (nd : (l'.map Prod.fst).Nodup) : Own S B0 as B l' H :=
  ⟨⟨fun a u k => w.c.cell a u (h _ k), nd, w.c.imm, fun a u k => w.c.dis a u (h _ k)⟩, w.kept, fun a u k => w.own a u (h _ k), w.grow, w.new, w.there⟩
/-- a cell changes: a list of the cells as they stand, one of them another -/
theorem Own.chg {l' : List (Addr × HO)} (w : Own S B0 as B l H) {u : HO} (hm : (p, u) ∈ l) (hf : l'.map Prod.fst = l.map Prod.fst) (hc : ∀ a v, (a, v) ∈ l' → (a = p ∧ v = o) ∨ (a ≠ p ∧ (a, v) ∈ l)) : Own S B0 as B l' (upd H p o) := by
  have old : ∀ {a v}, (a, v) ∈ l' → ∃ v', (a, v') ∈ l := fun {a v} h => by
    have := mem_fst h
    rw [hf] at this
    exact fst_mem this
  refine ⟨⟨fun a v h => ?_, hf ▸ w.c.nd, fun b v h => ?_, fun a v h => ?_⟩, fun b v hb h => ?_, fun a v h => ?_, w.grow, w.new, fun a h => ?_⟩
  · rcases hc a v h with ⟨rfl, rfl⟩ | ⟨hn, h⟩
    · exact upd_same
    · rw [upd_ne hn]
      exact w.c.cell a v h
  · have hb : b ≠ p := fun e => by
      rw [e, w.c.dis p u hm] at h
      cases h
    rw [upd_ne hb]
    exact w.c.imm b v h
  · obtain ⟨v', h'⟩ := old h
    exact w.c.dis a v' h'
  · have hn : b ≠ p := fun e => by
      subst e
      rcases w.own b u hm with z | z
      · exact hb z
      · rw [z] at h
        cases h
    rw [upd_ne hn]
    exact w.kept b v hb h
  · obtain ⟨v', h'⟩ := old h
    exact w.own a v' h'
  · by_cases e : a = p
    · rw [e, upd_same]
      exact fun z => nomatch z
    · rw [upd_ne e]
      exact w.there a h
theorem nd_ne {a b : Addr} {x y : HO} {l : List (Addr × HO)} (nd : (((a, x) :: l).map Prod.fst).Nodup) (h : (b, y) ∈ l) : b ≠ a := fun e => by
  subst e
  exact (List.nodup_cons.mp nd).1 (mem_fst h)
/-- the i-th cell changes -/
theorem Own.set (w : Own S B0 as B l H) (i : Nat) {u : HO} (hi : l[i]? = some (p, u)) (o : HO) : Own S B0 as B (l.set i (p, o)) (upd H p o) := by
  have hm : (p, u) ∈ l := List.mem_of_getElem? hi
  have hil := (List.getElem?_eq_some_iff.mp hi).1
  refine w.chg hm ?_ fun a v h => ?_
  · apply List.ext_getElem?
    intro j
    rw [List.getElem?_map, List.getElem?_map, List.getElem?_set]
    by_cases e : i = j
    · subst e
      rw [if_pos rfl, if_pos hil, hi]
      rfl
    · rw [if_neg e]
  · obtain ⟨j, hj⟩ := List.getElem?_of_mem h
    rw [List.getElem?_set] at hj
    by_cases e : i = j
    · rw [if_pos e, if_pos hil] at hj
      cases hj
      exact .inl ⟨rfl, rfl⟩
    · rw [if_neg e] at hj
      refine .inr ⟨fun z => ?_, List.mem_of_getElem? hj⟩
      subst z
      have h1 : (l.map Prod.fst)[i]? = some a := by rw [List.getElem?_map, hi]; rfl
      have h2 : (l.map Prod.fst)[j]? = some a := by rw [List.getElem?_map, hj]; rfl
      have hil2 : i < (l.map Prod.fst).length := by rw [List.length_map]; exact hil
      exact e ((List.getElem?_inj hil2 w.c.nd).mp (h1.trans h2.symm))
/-- a callee that works on the first cells -/
theorem Own.call {lc lr l' : List (Addr × HO)} {B' : Hp} (w : Own S B0 as B (lc ++ lr) H) (w' : Own H B (lc.map Prod.fst) B' l' H') : Own S B0 as B' (l' ++ lr) H' := by
  have nd := w.c.nd
  rw [List.map_append] at nd
  have ndr := (List.nodup_append.mp nd)
  have hr : ∀ a o, (a, o) ∈ lr → a ∉ lc.map Prod.fst := fun a o h k => ndr.2.2 a k a (mem_fst h) rfl
  have hl : ∀ a o, (a, o) ∈ l' → a ∈ lc.map Prod.fst ∨ H a = none := w'.own
  refine ⟨⟨fun a o h => ?_, ?_, w'.c.imm, fun a o h => ?_⟩, fun b o hb h => ?_, fun a o h => ?_, w.grow.trans w'.grow, fun b h k => ?_, fun a h => ?_⟩
  · rcases List.mem_append.mp h with h | h
    · exact w'.c.cell a o h
    · exact w'.kept a o (hr a o h) (w.c.cell a o (List.mem_append_right _ h))
  · rw [List.map_append]
    refine List.nodup_append.mpr ⟨w'.c.nd, ndr.2.1, fun a h b k e => ?_⟩
    subst e
    obtain ⟨o, h⟩ := fst_mem h
    obtain ⟨o2, k⟩ := fst_mem k
    rcases hl a o h with z | z
    · exact hr a o2 k z
    · rw [w.c.cell a o2 (List.mem_append_right _ k)] at z
      cases z
  · rcases List.mem_append.mp h with h | h
    · exact w'.c.dis a o h
    · have hb := w.c.dis a o (List.mem_append_right _ h)
      cases e : B' a with
      | none => rfl
      | some u =>
        have := w'.new a hb (by rw [e]; exact fun z => nomatch z)
        rw [w.c.cell a o (List.mem_append_right _ h)] at this
        cases this
  · refine w'.kept b o (fun z => ?_) (w.kept b o hb h)
    obtain ⟨u, z⟩ := fst_mem z
    rcases w.own b u (List.mem_append_left _ z) with y | y
    · exact hb y
    · rw [y] at h
      cases h
  · rcases List.mem_append.mp h with h | h
    · rcases hl a o h with z | z
      · obtain ⟨u, z⟩ := fst_mem z
        exact w.own a u (List.mem_append_left _ z)
      · exact .inr (w.frS z).1
    · exact w.own a o (List.mem_append_right _ h)
  · cases e : B b with
    | none => exact (w.frS (w'.new b e k)).1
    | some u => exact w.new b h (by rw [e]; exact fun z => nomatch z)
  · intro e
    have ha := w.there a h
    cases e2 : H a with
    | none => exact ha e2
    | some u =>
      by_cases hc : a ∈ lc.map Prod.fst
      · exact w'.there a hc e
      · rw [w'.kept a u hc e2] at e
        cases e
theorem Own.call0 {lc l' : List (Addr × HO)} {B' : Hp} (w : Own S B0 as B lc H) (w' : Own H B (lc.map Prod.fst) B' l' H') : Own S B0 as B' l' H' := by
  have w2 : Own S B0 as B (lc ++ []) H := by rw [List.append_nil]; exact w
  have w3 := w2.call w'
  rw [List.append_nil] at w3
  exact w3
theorem Own.cellsL {lc lr : List (Addr × HO)} (w : Own S B0 as B (lc ++ lr) H) : Cells H B lc := by
  have nd := w.c.nd
  rw [List.map_append] at nd
  exact ⟨fun a o h => w.c.cell a o (List.mem_append_left _ h), (List.nodup_append.mp nd).1, w.c.imm, fun a o h => w.c.dis a o (List.mem_append_left _ h)⟩
/-- the first cell changes no more -/
theorem Own.ice (w : Own S B0 as B ((p, o) :: l) H) (n : S p = none) : ∃ B', Same B B' ∧ B' p = some o ∧ Own S B0 as B' l H := by
  have nb := w.c.dis p o (List.mem_cons_self ..)
  have nd := List.nodup_cons.mp w.c.nd
  refine ⟨upd B p o, same_upd nb, upd_same, ⟨fun a u h => w.c.cell a u (List.mem_cons_of_mem _ h), nd.2, fun b u h => ?_, fun a u h => ?_⟩, w.kept, fun a u h => w.own a u (List.mem_cons_of_mem _ h), w.grow.trans (same_upd nb), fun b h k => ?_, w.there⟩
  · by_cases hb : b = p
    · rw [hb, upd_same] at h
      rw [hb, w.c.cell p o (List.mem_cons_self ..), h]
    · rw [upd_ne hb] at h
      exact w.c.imm b u h
  · rw [upd_ne (fun z => nd.1 (by rw [← show a = p from z]; exact mem_fst h))]
    exact w.c.dis a u (List.mem_cons_of_mem _ h)
  · by_cases hb : b = p
    · rw [hb]
      exact n
    · rw [upd_ne hb] at k
      exact w.new b h k
end

/-! ### fields, methods, dicts, whiles: readings that stop the walk at what the heap holds -/
@[irreducible] def mGetF (C : Addr) (f : Str) (x : V) (H : Hp) (Q : VK) : Prop := ∃ a dx fs v, x = .ref a ∧ H a = some (.ins C dx fs) ∧ fs.lookup f = some v ∧ Q v H
@[irreducible] def mPutF (C : Addr) (f : Str) (x y : V) (H : Hp) (k : Hp → Prop) : Prop := ∃ a dx fs, x = .ref a ∧ H a = some (.ins C dx fs) ∧ fs.length < 1000 ∧ k (upd H a (.ins C dx (putF f y fs)))
@[irreducible] def mIns (C : Addr) (m : Str) (x : V) (H : Hp) (A : Prop) : Prop := ∃ a dx fs, x = .ref a ∧ H a = some (.ins C dx fs) ∧ fs.lookup m = none ∧ A
@[irreducible] def mDIn (x y : V) (H : Hp) (Q : VK) : Prop := ∃ a kvs k, x = .ref a ∧ y = kV k ∧ H a = some (.dK kvs) ∧ Q (.bl (valV kvs k).isSome) H
@[irreducible] def mDNotIn (x y : V) (H : Hp) (Q : VK) : Prop := ∃ a kvs k, x = .ref a ∧ y = kV k ∧ H a = some (.dK kvs) ∧ Q (.bl (!(valV kvs k).isSome)) H
@[irreducible] def mDGet (x y : V) (H : Hp) (Q : VK) : Prop := ∃ a kvs k v, x = .ref a ∧ y = kV k ∧ Rd H a (.dK kvs) ∧ valV kvs k = some v ∧ Q v H
@[irreducible] def mDPut (x y v : V) (H : Hp) (k : Hp → Prop) : Prop := ∃ a kvs key, x = .ref a ∧ y = kV key ∧ H a = some (.dK kvs) ∧ kvs.length < 1000000 ∧ k (upd H a (.dK (putK kvs key v)))
@[irreducible] def mDDel (x y : V) (H : Hp) (k : Hp → Prop) : Prop := ∃ a kvs key, x = .ref a ∧ y = kV key ∧ H a = some (.dK kvs) ∧ (valV kvs key).isSome = true ∧ k (upd H a (.dK (dropK kvs key)))
@[irreducible] def mPopAt (x i : V) (H : Hp) (Q : VK) : Prop := ∃ l xs k y, x = .ref l ∧ i = .int k ∧ H l = some (.lst xs) ∧ 0 ≤ k ∧ k < (xs.length : Int) ∧ k ≤ 1000000 ∧ xs[k.toNat]? = some y ∧ Q y (upd H l (.lst (xs.eraseIdx k.toNat)))
@[irreducible] def mInsert (x i y : V) (H : Hp) (Q : VK) : Prop := ∃ l xs k, x = .ref l ∧ i = .int k ∧ H l = some (.lst xs) ∧ xs.length < 1000000 ∧ 0 ≤ k ∧ k ≤ 1000000 ∧ Q .non (upd H l (.lst (xs.take k.toNat ++ [y] ++ xs.drop k.toNat)))
@[irreducible] def mTru (K : PySem.W.Frag) (x : V) (H : Hp) (Q : Bool → Hp → Prop) : Prop := ∃ k, TruV K x H k ∧ Q k H
def mFld (C : Addr) (ta : TE) (f : Str) : TE := fun σ H Q => ta σ H fun x H1 => mGetF C f x H1 Q
def mSFld (C : Addr) (ta tv : TE) (f : Str) : TS := fun D σ H => tv σ H fun y H1 => ta σ H1 fun x H2 => mPutF C f x y H2 fun H3 => D.nx σ H3
def mSFldAug (C : Addr) (ta tv : TE) (rd : R2) (f : Str) : TS := fun D σ H => ta σ H fun x H1 => mGetF C f x H1 fun v _ => tv σ H1 fun y H2 => rd v y H2 fun z H3 => mPutF C f x z H3 fun H4 => D.nx σ H4
def mMeth (C : Addr) (m : Str) (sp : Sp) (dvs : List V) (E : XK) (ta : TE) (t : TA) : TE := fun σ H Q => ta σ H fun x H1 => mIns C m x H1 (t σ H1 fun vs H2 => sp (x :: (vs ++ dvs)) H2 Q E)
def mDInE (ty td : TE) : TE := fun σ H Q => ty σ H fun y H1 => td σ H1 fun x H2 => mDIn x y H2 Q
def mDNotInE (ty td : TE) : TE := fun σ H Q => ty σ H fun y H1 => td σ H1 fun x H2 => mDNotIn x y H2 Q
def mDGetE (td ty : TE) : TE := fun σ H Q => td σ H fun x H1 => ty σ H1 fun y H2 => mDGet x y H2 Q
def mSDPut (td ty tv : TE) : TS := fun D σ H => tv σ H fun v H1 => td σ H1 fun x H2 => ty σ H2 fun y H3 => mDPut x y v H3 fun H4 => D.nx σ H4
def mSDDel (td ty : TE) : TS := fun D σ H => td σ H fun x H1 => ty σ H1 fun y H2 => mDDel x y H2 fun H3 => D.nx σ H3
def mPopE (to te : TE) : TE := fun σ H Q => to σ H fun x H1 => ∃ l xs, x = .ref l ∧ H1 l = some (.lst xs) ∧ te σ H1 fun y H2 => mPopAt x y H2 Q
def mInsE (to ti te : TE) : TE := fun σ H Q => to σ H fun x H1 => ∃ l xs, x = .ref l ∧ H1 l = some (.lst xs) ∧ ti σ H1 fun i H2 => te σ H2 fun y H3 => mInsert x i y H3 Q
def mTruth (K : PySem.W.Frag) (ta : TE) : TT := fun σ H Q => ta σ H fun x H1 => mTru K x H1 Q
@[irreducible] def mWhile (c : TT) (tb : TS) : TS := fun D σ H => ∃ (Pv : L2.St → Hp → Prop) (μ : L2.St → Hp → Nat), Pv σ H ∧ ∀ σ H, Pv σ H → c σ H fun b H1 => Br b (tb { D with nx := fun σ' H' => Pv σ' H' ∧ μ σ' H' < μ σ H, ct := fun σ' H' => Pv σ' H' ∧ μ σ' H' < μ σ H, bk := D.nx } σ H1) (D.nx σ H1)
theorem rd_while {c : TT} {tb : TS} {D : Ends} {σ : L2.St} {H : Hp} (Pv : L2.St → Hp → Prop) (μ : L2.St → Hp → Nat) (h0 : Pv σ H) (hs : ∀ σ H, Pv σ H → c σ H fun b H1 => Br b (tb { D with nx := fun σ' H' => Pv σ' H' ∧ μ σ' H' < μ σ H, ct := fun σ' H' => Pv σ' H' ∧ μ σ' H' < μ σ H, bk := D.nx } σ H1) (D.nx σ H1)) : mWhile c tb D σ H := by
  unfold mWhile
  exact ⟨Pv, μ, h0, hs⟩
section
variable {C a : Addr} {f m : Str} {H : Hp} {Q : VK} {dx : Addr} {fs : List (Str × V)} {v y : V} {kvs : List (Key × V)} {n : Int} {t : Str} {xs : List V}
theorem rd_getF (h : H a = some (.ins C dx fs)) (hl : fs.lookup f = some v) (q : Q v H) : mGetF C f (.ref a) H Q := by
  unfold mGetF
  exact ⟨a, dx, fs, v, rfl, h, hl, q⟩
theorem rd_putF {k : Hp → Prop} {fs' : List (Str × V)} (h : H a = some (.ins C dx fs)) (hz : fs.length < 1000) (e : putF f y fs = fs') (q : k (upd H a (.ins C dx fs'))) : mPutF C f (.ref a) y H k := by
  unfold mPutF
  exact ⟨a, dx, fs, rfl, h, hz, e ▸ q⟩
theorem rd_ins {A : Prop} (h : H a = some (.ins C dx fs)) (hl : fs.lookup m = none) (q : A) : mIns C m (.ref a) H A := by
  unfold mIns
  exact ⟨a, dx, fs, rfl, h, hl, q⟩
theorem rd_din (h : H a = some (.dK kvs)) (q : Q (.bl (valV kvs (.inl n)).isSome) H) : mDIn (.ref a) (.int n) H Q := by
  unfold mDIn
  exact ⟨a, kvs, .inl n, rfl, rfl, h, q⟩
theorem rd_dnotin (h : H a = some (.dK kvs)) (q : Q (.bl (!(valV kvs (.inl n)).isSome)) H) : mDNotIn (.ref a) (.int n) H Q := by
  unfold mDNotIn
  exact ⟨a, kvs, .inl n, rfl, rfl, h, q⟩
theorem rd_dget (h : H a = some (.dK kvs)) (e : valV kvs (.inl n) = some v) (q : Q v H) : mDGet (.ref a) (.int n) H Q := by
  unfold mDGet
  exact ⟨a, kvs, .inl n, v, rfl, rfl, .inl h, e, q⟩
theorem rd_dgetR (h : Rd H a (.dK kvs)) (e : valV kvs (.inl n) = some v) (q : Q v H) : mDGet (.ref a) (.int n) H Q := by
  unfold mDGet
  exact ⟨a, kvs, .inl n, v, rfl, rfl, h, e, q⟩
theorem rd_dgetS (h : H a = some (.dK kvs)) (e : valV kvs (.inr t) = some v) (q : Q v H) : mDGet (.ref a) (.str t) H Q := by
  unfold mDGet
  exact ⟨a, kvs, .inr t, v, rfl, rfl, .inl h, e, q⟩
theorem rd_dput {k : Hp → Prop} (h : H a = some (.dK kvs)) (hz : kvs.length < 1000000) (q : k (upd H a (.dK (putK kvs (.inl n) y)))) : mDPut (.ref a) (.int n) y H k := by
  unfold mDPut
  exact ⟨a, kvs, .inl n, rfl, rfl, h, hz, q⟩
theorem rd_dputS {k : Hp → Prop} (h : H a = some (.dK kvs)) (hz : kvs.length < 1000000) (q : k (upd H a (.dK (putK kvs (.inr t) y)))) : mDPut (.ref a) (.str t) y H k := by
  unfold mDPut
  exact ⟨a, kvs, .inr t, rfl, rfl, h, hz, q⟩
theorem rd_ddel {k : Hp → Prop} (h : H a = some (.dK kvs)) (e : (valV kvs (.inl n)).isSome = true) (q : k (upd H a (.dK (dropK kvs (.inl n))))) : mDDel (.ref a) (.int n) H k := by
  unfold mDDel
  exact ⟨a, kvs, .inl n, rfl, rfl, h, e, q⟩
theorem rd_pop0 {xs : List V} (h : H a = some (.lst (y :: xs))) (q : Q y (upd H a (.lst xs))) : mPopAt (.ref a) (.int 0) H Q := by
  unfold mPopAt
  exact ⟨a, y :: xs, 0, y, rfl, rfl, h, Int.le_refl 0, by rw [List.length_cons]; omega, by decide, rfl, q⟩
theorem rd_popAt (h : H a = some (.lst xs)) (h0 : 0 ≤ n) (h1 : n < (xs.length : Int)) (h2 : n ≤ 1000000) (e : xs[n.toNat]? = some y) (q : Q y (upd H a (.lst (xs.eraseIdx n.toNat)))) : mPopAt (.ref a) (.int n) H Q := by
  unfold mPopAt
  exact ⟨a, xs, n, y, rfl, rfl, h, h0, h1, h2, e, q⟩
theorem rd_insert (h : H a = some (.lst xs)) (hz : xs.length < 1000000) (h0 : 0 ≤ n) (h1 : n ≤ 1000000) (q : Q .non (upd H a (.lst (xs.take n.toNat ++ [y] ++ xs.drop n.toNat)))) : mInsert (.ref a) (.int n) y H Q := by
  unfold mInsert
  exact ⟨a, xs, n, rfl, rfl, h, hz, h0, h1, q⟩
theorem rd_truL {K : PySem.W.Frag} {R : Bool → Hp → Prop} (h : SqL K H a xs) (q : R (!xs.isEmpty) H) : mTru K (.ref a) H R := by
  unfold mTru
  exact ⟨_, .inl ⟨xs, h, rfl⟩, q⟩
theorem rd_truD {K : PySem.W.Frag} {R : Bool → Hp → Prop} (h : H a = some (.dK kvs)) (q : R (!kvs.isEmpty) H) : mTru K (.ref a) H R := by
  unfold mTru
  exact ⟨_, .inr (.inr ⟨kvs, h, rfl⟩), q⟩
theorem rd_truB {K : PySem.W.Frag} {R : Bool → Hp → Prop} {b : Bool} (q : R b H) : mTru K (.bl b) H R := by
  unfold mTru
  exact ⟨b, rfl, q⟩
end
section
variable {X : Cx} {e o value i c : Expr} {f m : Str} {pos pos' tpos apos cpos : Pos} {ta tv td ty te ti to : TE} {C : Addr}
theorem pe_fldM (he : PE X e ta) (c : Cls X.K C) (n : NoAttr X.K C f) (hb : attributeBase e f X.env (eval e X.env) = eval e X.env := by rfl) : PE X (.Attribute e f pos) (mFld C ta f) :=
  pe_weak (pe_fld (pe_c he) hb) fun σ H Q q => ⟨_, q, fun x H1 r => by
    unfold mGetF at r
    obtain ⟨a, dx, fs, v, e1, h, hl, r⟩ := r
    exact ⟨a, C, dx, fs, v, e1, h, c, n, hl, r⟩⟩
theorem ps_fldM (ha : PE X o ta) (hv : PE X value tv) (c : Cls X.K C) (n : NoAttr X.K C f) (hs : swapsWith value (some (.Attribute o f pos')) pos.line X.env = pure false := by rfl) : PS X (.Assign [.Attribute o f pos'] value pos) (mSFld C ta tv f) :=
  ps_weak (ps_fld (pe_c ha) (pe_c hv) hs) fun D σ H q => ⟨_, q, fun y H1 r => ⟨_, r, fun x H2 r => by
    unfold mPutF at r
    obtain ⟨a, dx, fs, e1, h, hz, r⟩ := r
    exact ⟨a, C, dx, fs, e1, h, c, n, hz, r⟩⟩⟩
theorem inop_c {op : Operator} {rd : R2} (h : InOp X op rd) : InOp X op (cR2 rd) := fun pins s σ H x y u v Q I rx ry ⟨R, h1, h2⟩ => thn (h pins s σ H x y u v R I rx ry h1) fun w s1 ⟨z, H1, I1, rz, q⟩ => ⟨z, H1, I1, rz, h2 _ _ q⟩
theorem ps_fldaugM {op : Operator} {rd : R2} (ha : PE X o ta) (hv : PE X value tv) (hop : InOp X op rd) (c : Cls X.K C) (n : NoAttr X.K C f) : PS X (.AugAssign (.Attribute o f tpos) op value pos) (mSFldAug C ta tv rd f) :=
  ps_weak (ps_fldaug (pe_c ha) (pe_c hv) (inop_c hop)) fun D σ H q => ⟨_, q, fun x H1 r => by
    unfold mGetF at r
    obtain ⟨a, dx, fs, v, e1, h, hl, r⟩ := r
    subst e1
    refine ⟨a, C, dx, fs, v, rfl, h, c, n, hl, _, r, fun y H2 r => ⟨_, r, fun z H3 r => ?_⟩⟩
    unfold mPutF at r
    obtain ⟨a', dx', fs', e1, h', hz, r⟩ := r
    cases e1
    exact ⟨dx', fs', h', hz, r⟩⟩
theorem pc_weak {op : CmpOp} {a b : Expr} {t t' : TE} (h : PC X op a b t) (w : ∀ σ H Q, t' σ H Q → t σ H Q) : PC X op a b t' := ⟨fun pins s σ H Q I q => h.run pins s σ H Q I (w σ H Q q)⟩
theorem pc_dinM (hu : X.A.units + 1 < cLine) (hi : PE X i ty) (ho : PE X o td) : PC X .In i o (mDInE ty td) :=
  pc_weak (pc_din hu (pe_c hi) (pe_c ho)) fun σ H Q q => ⟨_, q, fun y H1 r => ⟨_, r, fun x H2 r => by
    unfold mDIn at r
    obtain ⟨a, kvs, k, e1, e2, h, r⟩ := r
    exact ⟨a, _, e1, e2 ▸ DGet.k h, r⟩⟩⟩
theorem pc_dnotinM (hu : X.A.units + 1 < cLine) (hi : PE X i ty) (ho : PE X o td) : PC X .NotIn i o (mDNotInE ty td) :=
  pc_weak (pc_dnotin hu (pe_c hi) (pe_c ho)) fun σ H Q q => ⟨_, q, fun y H1 r => ⟨_, r, fun x H2 r => by
    unfold mDNotIn at r
    obtain ⟨a, kvs, k, e1, e2, h, r⟩ := r
    exact ⟨a, _, e1, e2 ▸ DGet.k h, r⟩⟩⟩
theorem pe_dgetM (hu : X.A.units + 1 < cLine) (ho : PE X o td) (hi : PE X i ty) (hs : NoSl i := by exact fun _ _ => rfl) : PE X (.Subscript o i pos) (mDGetE td ty) :=
  pe_weak (pe_dget hu (pe_c ho) (pe_c hi) hs) fun σ H Q q => ⟨_, q, fun x H1 r => ⟨_, r, fun y H2 r => by
    unfold mDGet at r
    obtain ⟨a, kvs, k, v, e1, e2, h, e, r⟩ := r
    exact ⟨a, v, e1, .inl ⟨kvs, k, h, e2, e.symm⟩, r⟩⟩⟩
theorem ps_dputM (hu : X.A.units + 1 < cLine) (ho : PE X o td) (hi : PE X i ty) (hv : PE X value tv) (hs : swapsWith value (some (.Subscript o i pos')) pos.line X.env = pure false := by rfl) : PS X (.Assign [.Subscript o i pos'] value pos) (mSDPut td ty tv) :=
  ps_weak (ps_dput hu (pe_c ho) (pe_c hi) (pe_c hv) hs) fun D σ H q => ⟨_, q, fun v H1 r => ⟨_, r, fun x H2 r => ⟨_, r, fun y H3 r => by
    unfold mDPut at r
    obtain ⟨a, kvs, k, e1, e2, h, hz, r⟩ := r
    exact ⟨a, _, e1, e2 ▸ DPut.k h (szl hz), r⟩⟩⟩⟩
theorem ps_ddelM (ho : PE X o td) (hi : PE X i ty) : PS X (.Delete [.Subscript o i tpos] pos) (mSDDel td ty) :=
  ps_weak (ps_ddel (pe_c ho) (pe_c hi)) fun D σ H q => ⟨_, q, fun x H1 r => ⟨_, r, fun y H2 r => by
    unfold mDDel at r
    obtain ⟨a, kvs, k, e1, e2, h, e, r⟩ := r
    exact ⟨a, kvs, k, e1, h, e2, e, r⟩⟩⟩
theorem pt_truthM (ha : PE X e ta) (he : ∀ whole, isTrue e X.env whole = (do let v ← whole; standAt e.pos; holding [v] (truthy v))) : PT X e (mTruth X.K ta) :=
  pt_weak (pt_truth (pe_c ha) he) fun σ H Q q => ⟨_, q, fun x H1 r => by
    unfold mTru at r
    exact r⟩
theorem ps_whileM {body : List Stmt} {tc : TT} {tb : TS} (hp : PassesOwn (model X.prog X.w) X.A X.env X.xe) (hc : PT X c tc) (hb : PSs X body tb) : PS X (.While c body [] pos) (mWhile tc tb) :=
  ps_weak (ps_while hp (pt_c hc) hb) fun D σ H q => by
    unfold mWhile at q
    obtain ⟨Pv, μ, h0, hs⟩ := q
    exact while_by Pv μ h0 (fun σ H p => ⟨_, hs σ H p, fun b H1 r => r.un⟩) fun σ H Q Q' h ⟨R, h1, h2⟩ => ⟨R, h1, fun b H1 r => h _ _ (h2 _ _ r)⟩
theorem pe_pop {o e : Expr} (ho : PE X o to) (he : PE X e te) (hbase : attributeBase o "pop" X.env (eval o X.env) = eval o X.env := by rfl)
    (hfew : ((backTo cpos (starEach [e] X.env)).all (fun x => !x.1) && (backToKw cpos (keywordEach [] X.env)).all (fun x => x.1.isSome)
      && decide ([e].length + ([] : List Keyword).length + (if ([] : List Keyword).isEmpty then 0 else 1) < 30)) = true := by rfl)
    (hline : (apos.endLine == cpos.line) = true := by rfl) (hs : starEach [e] X.env = (false, eval e X.env) :: starEach [] X.env := by rfl) (hplain : (backTo cpos (starEach [] X.env)).any (·.1) = false := by rfl) :
    PE X (.Call (.Attribute o "pop" apos) [e] [] cpos) (mPopE to te) :=
  pe_weak (pe_bm PySem.F.plainAttrs_list PySem.F.slot_list_pop PySem.F.type_list_pop mt_popAt (pe_c ho) (pa_cons (pe_c he) pa_nil hs) hbase hfew hline hs hplain) fun σ H Q q => by
    refine ⟨_, q, fun x H1 r => ?_⟩
    obtain ⟨l, xs, rfl, h, r⟩ := r
    refine ⟨Or.inl ⟨rfl, _, SqL.of h⟩, _, r, fun y H2 r2 => ?_⟩
    unfold mPopAt at r2
    obtain ⟨l2, ys, k, z, e2, e3, h2, h0, h1, hk, hy, q2⟩ := r2
    have big : (2 : Int) ^ 63 = 9223372036854775808 := by decide
    exact ⟨l2, ys, k, k.toNat, z, e2, congrArg (fun u => [u]) e3, h2, by omega, by omega, seqIndex_of h0 h1, hy, q2⟩
end
section
variable {X : Cx} {e o i : Expr} {m : Str} {apos cpos : Pos} {ta te ti to : TE} {C : Addr} {t : TA} {sp : Sp} {dvs : List V} {E : XK}
theorem meth_weak (h : PE X e (tMeth C m sp dvs E (cTE ta) t)) : PE X e (mMeth C m sp dvs E ta t) := pe_weak h fun σ H Q q => ⟨_, q, fun x H1 r => by
  unfold mIns at r
  exact r⟩
theorem pe_insert {o i e : Expr} (ho : PE X o to) (hi : PE X i ti) (he : PE X e te) (hbase : attributeBase o "insert" X.env (eval o X.env) = eval o X.env := by rfl)
    (hfew : ((backTo cpos (starEach [i, e] X.env)).all (fun x => !x.1) && (backToKw cpos (keywordEach [] X.env)).all (fun x => x.1.isSome)
      && decide ([i, e].length + ([] : List Keyword).length + (if ([] : List Keyword).isEmpty then 0 else 1) < 30)) = true := by rfl)
    (hline : (apos.endLine == cpos.line) = true := by rfl) (hs1 : starEach [e] X.env = (false, eval e X.env) :: starEach [] X.env := by rfl) (hs : starEach [i, e] X.env = (false, eval i X.env) :: starEach [e] X.env := by rfl) (hplain : (backTo cpos (starEach [e] X.env)).any (·.1) = false := by rfl) :
    PE X (.Call (.Attribute o "insert" apos) [i, e] [] cpos) (mInsE to ti te) :=
  pe_weak (pe_bm PySem.F.plainAttrs_list PySem.F.slot_list_insert PySem.F.type_list_insert mt_insert (pe_c ho) (pa_cons (pe_c hi) (pa_cons (pe_c he) pa_nil hs1) hs) hbase hfew hline hs hplain) fun σ H Q q => by
    refine ⟨_, q, fun x H1 r => ?_⟩
    obtain ⟨l, xs, rfl, h, r⟩ := r
    refine ⟨Or.inl ⟨rfl, _, SqL.of h⟩, _, r, fun y H2 r => ⟨_, r, fun z H3 r2 => ?_⟩⟩
    unfold mInsert at r2
    obtain ⟨l2, ys, k, e2, e3, h2, hz, h0, h1, q2⟩ := r2
    have big : (2 : Int) ^ 63 = 9223372036854775808 := by decide
    exact ⟨l2, ys, k, z, e2, congrArg (fun u => [u, z]) e3, h2, szl hz, h0, by omega, q2⟩
end
/-! ### an if whose ways meet again: told once by what holds behind it -/
def cTSs (t : TS) : TS := fun D σ H => ∃ P : L2.St → Hp → Prop, t { D with nx := P } σ H ∧ ∀ σ' H', P σ' H' → D.nx σ' H'
theorem pss_c {X : Cx} {sts : List Stmt} {t : TS} (h : PSs X sts t) : PSs X sts (cTSs t) := ⟨fun pins s σ H D I ⟨P, h1, h2⟩ => thn (h.run pins s σ H { D with nx := P } I h1) fun f s' q => by
  cases f with
  | next =>
    obtain ⟨σ', H', I', q⟩ := q
    exact ⟨σ', H', I', h2 _ _ q⟩
  | brk => exact q
  | cont => exact q
  | ret u => exact q⟩
@[irreducible] def IfJ (b : Bool) (t u : TS) (D : Ends) (σ : L2.St) (H : Hp) : Prop := ∃ P : L2.St → Hp → Prop, (b = true → t { D with nx := P } σ H) ∧ (b = false → u { D with nx := P } σ H) ∧ ∀ σ' H', P σ' H' → D.nx σ' H'
def mIfJ (c : TT) (t u : TS) : TS := fun D σ H => c σ H fun b H1 => IfJ b t u D σ H1
theorem rd_ifJ {b : Bool} {t u : TS} {D : Ends} {σ : L2.St} {H : Hp} (P : L2.St → Hp → Prop) (h1 : b = true → t { D with nx := P } σ H) (h2 : b = false → u { D with nx := P } σ H) (k : ∀ σ' H', P σ' H' → D.nx σ' H') : IfJ b t u D σ H := by
  unfold IfJ
  exact ⟨P, h1, h2, k⟩
theorem ps_ifJ {X : Cx} {c : Expr} {bs us : List Stmt} {pos : Pos} {tt : TT} {t u : TS} (hc : PT X c tt) (ha : PSs X bs t) (hb : PSs X us u) : PS X (.If c bs us pos) (mIfJ tt t u) :=
  ps_weak (ps_if (pt_c hc) (pss_c ha) (pss_c hb)) fun D σ H q => ⟨_, q, fun b H1 r => by
    unfold IfJ at r
    obtain ⟨P, h1, h2, k⟩ := r
    cases b with
    | true => exact iteT ⟨P, h1 rfl, k⟩
    | false => exact iteF ⟨P, h2 rfl, k⟩⟩
end My
namespace My
open PySem L2

section
open PySem.Spec PyProof.Rows
variable {prog : Program} {w : World} {A : Around} {E : Value → Shared → Prop} {s : Shared}
def bestA (b : Option (Int × Tok)) : Array Value := match b with | none => #[] | some p => #[Value.int p.1 p.2, Value.int p.1 p.2]
def bestO (b : Option (Int × Tok)) (c : Nat) : Obj := { cls := .type "list", dict := none, data := .seq (bestA b) c, slots := #[] }
def endsIn (o : Option Int) (dv v : Value) : Prop := match o with | none => v = dv | some m => ∃ t, v = Value.int m t
theorem kw_tree {id : String} {b : Builtin} {args : List Value} {kw : List (Str × Value)} {Q : Value → Shared → Prop} (hk : builtinKind id = none) (hp : plainId id = true) (hb : entryFor table id = some b) (ha : argsOk id ⟨args, kw⟩)
    (hc : wpAny (model prog w) A.in1 (b ⟨args, kw⟩) (fun fin s' => match fin with
      | .done f => (match (Except.ok f : Result) with | .ok (.ret v) => Q v s' | .ok _ => False | .error e => E e s')
      | .again d => d.quiet = true ∧ codeAny (model prog w) A d (fun r s' => match r with | .ok (.ret v) => Q v s' | .ok _ => False | .error e => E e s') s') E s) : wpAny (model prog w) A (call (.builtin id) args kw) Q E s := by
  refine wpAny_call (codeAny_call_builtin hp hb ?_)
  simp only [checkBuiltinCall, hk]
  cases hs : Manifest.signature? id with
  | none => exact wpAny_pure hc
  | some sig =>
    have h2 : Bind.checkArgs id sig ⟨args, kw⟩ = pure () := by simpa only [argsOk, hs] using ha
    show wpAny _ A.in1 (Bind.checkArgs id sig ⟨args, kw⟩) _ _ s
    rw [h2]
    exact wpAny_pure hc
end

section
open PySem.Spec PyProof.Rows
variable {prog : Program} {w : World} {A : Around} {R : Result → Shared → Prop} {I : Addr} {fp wr : List Addr} {G : Array GenState → Array GenState → Prop} {n : Nat} {P : Nat → Value → Prop} {St : Nat → Shared → Prop}
def mxTo (val : Nat → Int) : Nat → Option Int
  | 0 => none
  | i + 1 => some (match mxTo val i with | none => val i | some m => if val i > m then val i else m)
theorem mx_loop (W : WalksS prog w A.in1 I fp wr G n P St) (val : Nat → Int) (hv : ∀ i v, P i v → ∃ t, v = Value.int (val i) t) (S : Addr) (hSf : S ∉ fp) (dv : Value) :
    ∀ (k i : Nat) (s : Shared) (c : Nat) (b : Option (Int × Tok)), n - i = k → i ≤ n → St i s → b.map Prod.fst = mxTo val i → s.heap.get? S = some (bestO b c) →
      (∀ v s', Moved (S :: wr) G s s' → endsIn (mxTo val n) dv v → R (.ok (.ret v)) s') → codeAny (model prog w) A (.builtin "max.loop" ⟨[.ref I, .none, .ref S], [(Str.ofString "default", dv)]⟩) R s := by
  have nw : S ∉ wr := fun z => hSf (W.sub _ z)
  have up : ∀ b ∈ wr, b ∈ S :: wr := fun b z => .tail _ z
  have hN : (toString "max" ++ toString ".loop" : String) = "max.loop" := by decide
  have hne : ∀ {b : Addr}, b ∉ S :: wr → S ≠ b := fun z e => z (e ▸ .head _)
  intro k
  induction k with
  | zero =>
    intro i s c b hk hi st hb hS fin
    have en : i = n := by omega
    subst en
    refine codeAny_builtin F.entry_max_loop ?_
    rw [Around.under_plainId F.plain_max_loop _]
    show wpAny _ A.in1 (seqItems? (.ref S) >>= _) _ _ s
    refine wpAny_bind (wpAny_seqItems hS (show (bestO b c).data = .seq (bestA b) c from rfl) ?_)
    show wpAny _ A.in1 (tryCatch (pyNext (.ref I)) _ >>= _) _ _ s
    refine wpAny_bind (wpAny_tryCatch (W.done s _ _ st fun s' mv => ?_))
    have hS2 := mv.heap S _ nw hS
    cases b with
    | none =>
      refine wpAny_bind (m := rule _) (wpAny_rule (wpAny_pure (fin _ _ (mv.mono up) ?_)))
      rw [← hb]
      rfl
    | some p =>
      obtain ⟨m, t⟩ := p
      show wpAny _ A.in1 (updateSeq S (fun _ => #[]) >>= _) _ _ _
      refine wpAny_bind ?_
      refine wpAny_updateSeq (hz := by show 2 ≤ sizeLine; rw [sizeLine_eq]; decide) hS2 rfl (wpAny_bind (wpAny_letGo (wpAny_pure ?_)))
      refine fin (.int m t) _ ((mv.mono up).then_heap (tk := s'.toks) (Nat.le_refl _) fun b o z e => (Heap.get?_update_other _ _ (hne z)).trans e) ?_
      rw [← hb]
      exact ⟨t, rfl⟩
  | succ k ih =>
    intro i s c b hk hi st hb hS fin
    have hlt : i < n := by omega
    refine codeAny_builtin F.entry_max_loop ?_
    rw [Around.under_plainId F.plain_max_loop _]
    show wpAny _ A.in1 (seqItems? (.ref S) >>= _) _ _ s
    refine wpAny_bind (wpAny_seqItems hS (show (bestO b c).data = .seq (bestA b) c from rfl) ?_)
    show wpAny _ A.in1 (tryCatch (pyNext (.ref I)) _ >>= _) _ _ s
    refine wpAny_bind (wpAny_tryCatch (W.item i s _ _ hlt st fun v s' pv st' mv => ?_))
    obtain ⟨u, rfl⟩ := hv i v pv
    have hS2 := mv.heap S _ nw hS
    have stay : ∀ (h' : Heap) (tk : Nat), s'.toks ≤ tk → (∀ b, b ≠ S → h'.get? b = s'.heap.get? b) → St (i + 1) { s' with heap := h', toks := tk } := fun h' tk htk hh => W.frame _ s' _ _ st' htk fun b zb o e => (hh b fun z => hSf (z ▸ zb)).trans e
    cases b with
    | none =>
      show wpAny _ A.in1 (updateSeq S (fun _ => #[Value.int (val i) u, Value.int (val i) u]) >>= _) _ _ _
      refine wpAny_bind ?_
      refine wpAny_updateSeq hS2 rfl ?_
      rw [hN]
      refine wpAny_pure ⟨plainId_quiet F.plain_max_loop _, ih (i + 1) _ _ (some (val i, u)) (by omega) hlt (stay _ s'.toks (Nat.le_refl _) fun b z => Heap.get?_update_other _ _ (Ne.symm z)) ?_ (Heap.get?_update_self _ hS2 rfl) fun v' s'' mv' hv' => ?_⟩
      · show some (val i) = mxTo val (i + 1)
        unfold mxTo
        rw [← hb]
        rfl
      · exact fin v' s'' (Moved.trans W.gtrans ((mv.mono up).then_heap (tk := s'.toks) (Nat.le_refl _) fun b o z e => (Heap.get?_update_other _ _ (hne z)).trans e) mv') hv'
    | some p =>
      obtain ⟨m, t⟩ := p
      have eb : mxTo val (i + 1) = some (if val i > m then val i else m) := by
        have hb2 : some m = mxTo val i := hb
        show some (match mxTo val i with | none => val i | some m => if val i > m then val i else m) = _
        rw [← hb2]
      show wpAny _ A.in1 (tryCatch (holding [Value.int (val i) u, Value.int (val i) u] (richCompare .Gt (Value.int (val i) u) (Value.int m t) >>= _)) _ >>= _) _ _ _
      refine wpAny_bind (wpAny_tryCatch (wpAny_holding (wpAny_bind ((CmpOf.ints_gt (P := fun a v => ∃ t, v = Value.int (if a = 0 then val i else m) t) (fun j : Nat => if j = 0 then val i else m) fun _ _ z => z) 0 1 _ _ _ _ _ ⟨u, rfl⟩ ⟨t, rfl⟩ ?_))))
      refine wpAny_bind (wpAny_holding (wpAny_truthy_bool ?_))
      refine wpAny_bind (wpAny_letGo (wpAny_pure ?_))
      show wpAny _ _ (if decide (val i > m) = true then _ else _) _ _ _
      by_cases hc : val i > m
      · rw [decide_eq_true hc]
        simp only [if_true]
        refine wpAny_bind ?_
        refine wpAny_updateSeq (hz := by show 2 ≤ sizeLine; rw [sizeLine_eq]; decide) hS2 rfl (wpAny_bind (wpAny_letGo ?_))
        rw [hN]
        refine wpAny_pure ⟨plainId_quiet F.plain_max_loop _, ih (i + 1) _ _ (some (val i, u)) (by omega) hlt (stay _ s'.toks (Nat.le_refl _) fun b z => Heap.get?_update_other _ _ (Ne.symm z)) (by rw [eb, if_pos hc]; rfl) (Heap.get?_update_self _ hS2 rfl) fun v' s'' mv' hv' => ?_⟩
        exact fin v' s'' (Moved.trans W.gtrans ((mv.mono up).then_heap (tk := s'.toks) (Nat.le_refl _) fun b o z e => (Heap.get?_update_other _ _ (hne z)).trans e) mv') hv'
      · rw [decide_eq_false hc]
        simp only [Bool.false_eq_true, if_false]
        refine wpAny_bind (wpAny_letGo ?_)
        rw [hN]
        refine wpAny_pure ⟨plainId_quiet F.plain_max_loop _, ih (i + 1) _ _ (some (m, t)) (by omega) hlt st' (by rw [eb, if_neg hc]; rfl) hS2 fun v' s'' mv' hv' => ?_⟩
        exact fin v' s'' (Moved.trans W.gtrans (mv.mono up) mv') hv'
theorem mx_kw {A : Around} {E : Value → Shared → Prop} {s : Shared} {x dv : Value} {Q : Value → Shared → Prop}
    (h : wpAny (model prog w) A.in1 (pyIter x) (fun it s2 => ∃ I fp wr G n P St val, it = .ref I ∧ WalksS prog w A.in1 I fp wr G n P St ∧ St 0 s2 ∧ (∀ b ∈ fp, b < s2.heap.objs.size) ∧ (∀ i v, P i v → ∃ t, v = Value.int (val i) t) ∧
      ∀ v s', Moved wr G s2 s' → endsIn (mxTo val n) dv v → Q v s') E s) : wpAny (model prog w) A (call (.builtin "max") [x] [(Str.ofString "default", dv)]) Q E s := by
  have hN : (toString "max" ++ toString ".loop" : String) = "max.loop" := by decide
  refine kw_tree F.kind_max F.plain_max F.entry_max (by unfold argsOk; kernel_rfl) ?_
  show wpAny _ A.in1 (Builtin.Builtins.bindParams "max" ["key", "default"] 0 ⟨[], [(Str.ofString "default", dv)]⟩ >>= _) _ _ s
  refine wpAny_bind (wpAny_of_eq (show Builtin.Builtins.bindParams "max" ["key", "default"] 0 ⟨[], [(Str.ofString "default", dv)]⟩ = pure [none, some dv] from by kernel_rfl) ?_)
  refine wpAny_bind (wpAny_pure ?_)
  refine wpAny_bind (wpAny_mono h (fun it s2 h2 => ?_) fun _ _ e => e)
  obtain ⟨I, fp, wr, G, n, P, St, val, rfl, W, st, hfp, hval, fin⟩ := h2
  refine wpAny_bind (wpAny_newObj_type ?_)
  have hSf : s2.heap.objs.size ∉ fp := fun z => Nat.lt_irrefl _ (hfp _ z)
  rw [hN]
  refine wpAny_pure ⟨plainId_quiet F.plain_max_loop _, mx_loop W val hval s2.heap.objs.size hSf dv n 0 _ 0 none (Nat.sub_zero n) (Nat.zero_le _) (W.frame 0 s2 _ s2.toks st (Nat.le_refl _) fun b _ o e => Heap.get?_push_of_some _ e) rfl (Heap.get?_push_size _ rfl) fun v s' mv hv => ?_⟩
  exact fin v s' (Moved.drop_new (tk := s2.toks) mv (Nat.le_refl _)) hv
end

section
open PySem.Spec PyProof.Rows
variable {prog : Program} {w : World} {A : Around} {R : Result → Shared → Prop} {I : Addr} {fp wr : List Addr} {G : Array GenState → Array GenState → Prop} {n : Nat} {P : Nat → Value → Prop} {St : Nat → Shared → Prop}
def mnTo (val : Nat → Int) : Nat → Option Int
  | 0 => none
  | i + 1 => some (match mnTo val i with | none => val i | some m => if val i < m then val i else m)
theorem mn_loop (W : WalksS prog w A.in1 I fp wr G n P St) (val : Nat → Int) (hv : ∀ i v, P i v → ∃ t, v = Value.int (val i) t) (S : Addr) (hSf : S ∉ fp) (dv : Value) :
    ∀ (k i : Nat) (s : Shared) (c : Nat) (b : Option (Int × Tok)), n - i = k → i ≤ n → St i s → b.map Prod.fst = mnTo val i → s.heap.get? S = some (bestO b c) →
      (∀ v s', Moved (S :: wr) G s s' → endsIn (mnTo val n) dv v → R (.ok (.ret v)) s') → codeAny (model prog w) A (.builtin "min.loop" ⟨[.ref I, .none, .ref S], [(Str.ofString "default", dv)]⟩) R s := by
  have nw : S ∉ wr := fun z => hSf (W.sub _ z)
  have up : ∀ b ∈ wr, b ∈ S :: wr := fun b z => .tail _ z
  have hN : (toString "min" ++ toString ".loop" : String) = "min.loop" := by decide
  have hne : ∀ {b : Addr}, b ∉ S :: wr → S ≠ b := fun z e => z (e ▸ .head _)
  intro k
  induction k with
  | zero =>
    intro i s c b hk hi st hb hS fin
    have en : i = n := by omega
    subst en
    refine codeAny_builtin F.entry_min_loop ?_
    rw [Around.under_plainId F.plain_min_loop _]
    show wpAny _ A.in1 (seqItems? (.ref S) >>= _) _ _ s
    refine wpAny_bind (wpAny_seqItems hS (show (bestO b c).data = .seq (bestA b) c from rfl) ?_)
    show wpAny _ A.in1 (tryCatch (pyNext (.ref I)) _ >>= _) _ _ s
    refine wpAny_bind (wpAny_tryCatch (W.done s _ _ st fun s' mv => ?_))
    have hS2 := mv.heap S _ nw hS
    cases b with
    | none =>
      refine wpAny_bind (m := rule _) (wpAny_rule (wpAny_pure (fin _ _ (mv.mono up) ?_)))
      rw [← hb]
      rfl
    | some p =>
      obtain ⟨m, t⟩ := p
      show wpAny _ A.in1 (updateSeq S (fun _ => #[]) >>= _) _ _ _
      refine wpAny_bind ?_
      refine wpAny_updateSeq (hz := by show 2 ≤ sizeLine; rw [sizeLine_eq]; decide) hS2 rfl (wpAny_bind (wpAny_letGo (wpAny_pure ?_)))
      refine fin (.int m t) _ ((mv.mono up).then_heap (tk := s'.toks) (Nat.le_refl _) fun b o z e => (Heap.get?_update_other _ _ (hne z)).trans e) ?_
      rw [← hb]
      exact ⟨t, rfl⟩
  | succ k ih =>
    intro i s c b hk hi st hb hS fin
    have hlt : i < n := by omega
    refine codeAny_builtin F.entry_min_loop ?_
    rw [Around.under_plainId F.plain_min_loop _]
    show wpAny _ A.in1 (seqItems? (.ref S) >>= _) _ _ s
    refine wpAny_bind (wpAny_seqItems hS (show (bestO b c).data = .seq (bestA b) c from rfl) ?_)
    show wpAny _ A.in1 (tryCatch (pyNext (.ref I)) _ >>= _) _ _ s
    refine wpAny_bind (wpAny_tryCatch (W.item i s _ _ hlt st fun v s' pv st' mv => ?_))
    obtain ⟨u, rfl⟩ := hv i v pv
    have hS2 := mv.heap S _ nw hS
    have stay : ∀ (h' : Heap) (tk : Nat), s'.toks ≤ tk → (∀ b, b ≠ S → h'.get? b = s'.heap.get? b) → St (i + 1) { s' with heap := h', toks := tk } := fun h' tk htk hh => W.frame _ s' _ _ st' htk fun b zb o e => (hh b fun z => hSf (z ▸ zb)).trans e
    cases b with
    | none =>
      show wpAny _ A.in1 (updateSeq S (fun _ => #[Value.int (val i) u, Value.int (val i) u]) >>= _) _ _ _
      refine wpAny_bind ?_
      refine wpAny_updateSeq hS2 rfl ?_
      rw [hN]
      refine wpAny_pure ⟨plainId_quiet F.plain_min_loop _, ih (i + 1) _ _ (some (val i, u)) (by omega) hlt (stay _ s'.toks (Nat.le_refl _) fun b z => Heap.get?_update_other _ _ (Ne.symm z)) ?_ (Heap.get?_update_self _ hS2 rfl) fun v' s'' mv' hv' => ?_⟩
      · show some (val i) = mnTo val (i + 1)
        unfold mnTo
        rw [← hb]
        rfl
      · exact fin v' s'' (Moved.trans W.gtrans ((mv.mono up).then_heap (tk := s'.toks) (Nat.le_refl _) fun b o z e => (Heap.get?_update_other _ _ (hne z)).trans e) mv') hv'
    | some p =>
      obtain ⟨m, t⟩ := p
      have eb : mnTo val (i + 1) = some (if val i < m then val i else m) := by
        have hb2 : some m = mnTo val i := hb
        show some (match mnTo val i with | none => val i | some m => if val i < m then val i else m) = _
        rw [← hb2]
      show wpAny _ A.in1 (tryCatch (holding [Value.int (val i) u, Value.int (val i) u] (richCompare .Lt (Value.int (val i) u) (Value.int m t) >>= _)) _ >>= _) _ _ _
      refine wpAny_bind (wpAny_tryCatch (wpAny_holding (wpAny_bind ((CmpOf.ints_lt (P := fun a v => ∃ t, v = Value.int (if a = 0 then val i else m) t) (fun j : Nat => if j = 0 then val i else m) fun _ _ z => z) 0 1 _ _ _ _ _ ⟨u, rfl⟩ ⟨t, rfl⟩ ?_))))
      refine wpAny_bind (wpAny_holding (wpAny_truthy_bool ?_))
      refine wpAny_bind (wpAny_letGo (wpAny_pure ?_))
      show wpAny _ _ (if decide (val i < m) = true then _ else _) _ _ _
      by_cases hc : val i < m
      · rw [decide_eq_true hc]
        simp only [if_true]
        refine wpAny_bind ?_
        refine wpAny_updateSeq (hz := by show 2 ≤ sizeLine; rw [sizeLine_eq]; decide) hS2 rfl (wpAny_bind (wpAny_letGo ?_))
        rw [hN]
        refine wpAny_pure ⟨plainId_quiet F.plain_min_loop _, ih (i + 1) _ _ (some (val i, u)) (by omega) hlt (stay _ s'.toks (Nat.le_refl _) fun b z => Heap.get?_update_other _ _ (Ne.symm z)) (by rw [eb, if_pos hc]; rfl) (Heap.get?_update_self _ hS2 rfl) fun v' s'' mv' hv' => ?_⟩
        exact fin v' s'' (Moved.trans W.gtrans ((mv.mono up).then_heap (tk := s'.toks) (Nat.le_refl _) fun b o z e => (Heap.get?_update_other _ _ (hne z)).trans e) mv') hv'
      · rw [decide_eq_false hc]
        simp only [Bool.false_eq_true, if_false]
        refine wpAny_bind (wpAny_letGo ?_)
        rw [hN]
        refine wpAny_pure ⟨plainId_quiet F.plain_min_loop _, ih (i + 1) _ _ (some (m, t)) (by omega) hlt st' (by rw [eb, if_neg hc]; rfl) hS2 fun v' s'' mv' hv' => ?_⟩
        exact fin v' s'' (Moved.trans W.gtrans (mv.mono up) mv') hv'
theorem mn_kw {A : Around} {E : Value → Shared → Prop} {s : Shared} {x dv : Value} {Q : Value → Shared → Prop}
    (h : wpAny (model prog w) A.in1 (pyIter x) (fun it s2 => ∃ I fp wr G n P St val, it = .ref I ∧ WalksS prog w A.in1 I fp wr G n P St ∧ St 0 s2 ∧ (∀ b ∈ fp, b < s2.heap.objs.size) ∧ (∀ i v, P i v → ∃ t, v = Value.int (val i) t) ∧
      ∀ v s', Moved wr G s2 s' → endsIn (mnTo val n) dv v → Q v s') E s) : wpAny (model prog w) A (call (.builtin "min") [x] [(Str.ofString "default", dv)]) Q E s := by
  have hN : (toString "min" ++ toString ".loop" : String) = "min.loop" := by decide
  refine kw_tree F.kind_min F.plain_min F.entry_min (by unfold argsOk; kernel_rfl) ?_
  show wpAny _ A.in1 (Builtin.Builtins.bindParams "min" ["key", "default"] 0 ⟨[], [(Str.ofString "default", dv)]⟩ >>= _) _ _ s
  refine wpAny_bind (wpAny_of_eq (show Builtin.Builtins.bindParams "min" ["key", "default"] 0 ⟨[], [(Str.ofString "default", dv)]⟩ = pure [none, some dv] from by kernel_rfl) ?_)
  refine wpAny_bind (wpAny_pure ?_)
  refine wpAny_bind (wpAny_mono h (fun it s2 h2 => ?_) fun _ _ e => e)
  obtain ⟨I, fp, wr, G, n, P, St, val, rfl, W, st, hfp, hval, fin⟩ := h2
  refine wpAny_bind (wpAny_newObj_type ?_)
  have hSf : s2.heap.objs.size ∉ fp := fun z => Nat.lt_irrefl _ (hfp _ z)
  rw [hN]
  refine wpAny_pure ⟨plainId_quiet F.plain_min_loop _, mn_loop W val hval s2.heap.objs.size hSf dv n 0 _ 0 none (Nat.sub_zero n) (Nat.zero_le _) (W.frame 0 s2 _ s2.toks st (Nat.le_refl _) fun b _ o e => Heap.get?_push_of_some _ e) rfl (Heap.get?_push_size _ rfl) fun v s' mv hv => ?_⟩
  exact fin v s' (Moved.drop_new (tk := s2.toks) mv (Nat.le_refl _)) hv
end
theorem ints_nth {its : List Value} {ns : List Int} (h : PyProof.Rows.IntsAre its ns) : ∀ {i : Nat} {v : Value}, its[i]? = some v → ∃ t, v = Value.int (ns.getD i 0) t := by
  induction h with
  | nil => intro i v e; cases i <;> cases e
  | cons x t h ih =>
    intro i v e
    cases i with
    | zero =>
      cases e
      exact ⟨_, rfl⟩
    | succ i =>
      obtain ⟨t2, e2⟩ := ih e
      exact ⟨t2, e2⟩
theorem snocG {α : Type} {P : List α → Prop} (h0 : P []) (hs : ∀ l x, P l → P (l ++ [x])) (l : List α) : P l := by
  have key : ∀ m : List α, P m.reverse := by
    intro m
    induction m with
    | nil => exact h0
    | cons x r ih =>
      rw [List.reverse_cons]
      exact hs _ _ ih
  have := key l.reverse
  rwa [List.reverse_reverse] at this
section
open PySem.Spec PyProof.Rows
def mxL (d : Int) (ns : List Int) : Int := (mxTo (fun i => ns.getD i 0) ns.length).getD d
def mnL (d : Int) (ns : List Int) : Int := (mnTo (fun i => ns.getD i 0) ns.length).getD d
/-- the whole numbers that a walk over it gives -/
def IntsAt (K : PySem.W.Frag) (H : Hp) (a : Addr) (ns : List Int) : Prop := SqL K H a (ns.map V.int) ∨ ∃ kvs : List (Key × V), H a = some (.dK kvs) ∧ kvs.map Prod.fst = ns.map Sum.inl
@[irreducible] def mMaxD (K : PySem.W.Frag) : List V → List V → Hp → VK → Prop := fun vs zs H Q => ∃ (a : Addr) (ns : List Int) (d : Int), vs = [.ref a] ∧ zs = [.int d] ∧ IntsAt K H a ns ∧ Q (.int (mxL d ns)) H
@[irreducible] def mMinD (K : PySem.W.Frag) : List V → List V → Hp → VK → Prop := fun vs zs H Q => ∃ (a : Addr) (ns : List Int) (d : Int), vs = [.ref a] ∧ zs = [.int d] ∧ IntsAt K H a ns ∧ Q (.int (mnL d ns)) H
section
variable {K : PySem.W.Frag} {H : Hp} {Q : VK} {a : Addr} {ns : List Int} {d : Int}
theorem rd_maxD (h : IntsAt K H a ns) (q : Q (.int (mxL d ns)) H) : mMaxD K [.ref a] [.int d] H Q := by
  unfold mMaxD
  exact ⟨a, ns, d, rfl, rfl, h, q⟩
theorem rd_minD (h : IntsAt K H a ns) (q : Q (.int (mnL d ns)) H) : mMinD K [.ref a] [.int d] H Q := by
  unfold mMinD
  exact ⟨a, ns, d, rfl, rfl, h, q⟩
end
/-- such a walk, laid -/
theorem ints_walk {X : Cx} {pins : List (Addr × Obj)} {σ : L2.St} {H : Hp} {s : Shared} {a : Addr} {ns : List Int} {R : Value → Shared → Prop} {Er : Value → Shared → Prop} (hc : X.calm = true) (I : Inv X pins σ H s) (h : IntsAt X.K H a ns)
    (k : ∀ (J : Addr) (fp wr : List Addr) (n : Nat) (P : Nat → Value → Prop) (St : Nat → Shared → Prop) (s2 : Shared), n = ns.length → WalksS X.prog X.w X.A.in1 J fp wr (fun x y => y = x) n P St → St 0 s2 → (∀ b ∈ fp, b < s2.heap.objs.size) → (∀ i v, P i v → ∃ t, v = Value.int (ns.getD i 0) t) →
      (∀ s', Moved wr (fun x y => y = x) s2 s' → Inv X pins σ H s') → R (.ref J) s2) : wpAny (model X.prog X.w) X.A.in1 (pyIter (.ref a)) R Er s := by
  have hh : X.A.in1.handled = none := I.ok.hd hc
  -- the walk's own new object is all that moves
  have old : ∀ (o : Obj) (s' : Shared), Moved [s.heap.objs.size] (fun x y => y = x) { s with heap := s.heap.push o } s' → Inv X pins σ H s' := fun o s' mv => by
    obtain ⟨hp, gs, dr, tk, os⟩ := s'
    obtain ⟨h1, h2, h3, h4, h5⟩ := mv
    dsimp only at h1 h2 h3 h4 h5
    subst h2 h3 h4
    exact I.kept (t' := tk) fun b ob e => h1 b ob (fun z => by
      have := Heap.lt_size e
      rw [List.mem_singleton.mp z] at this
      exact Nat.lt_irrefl _ this) (Heap.get?_push_of_some _ e)
  rcases h with h | ⟨kvs, h, hk⟩
  · obtain ⟨its, rv, hl, _⟩ := I.list h
    have hI := rv.ints
    have ha : a < s.heap.objs.size := by
      obtain ⟨_, _, e, _⟩ := hl
      exact Heap.lt_size e
    have hlen : its.length = ns.length := hI.length
    refine wpAny_pyIter_list hl.isList ?_
    have W := (Walks.list (prog := X.prog) (w := X.w) (A := X.A.in1) hh s.heap.objs.size a (Nat.ne_of_lt ha) its.toArray).toS
    have en : its.toArray.size = ns.length := by
      rw [List.size_toArray]
      exact hlen
    refine k s.heap.objs.size _ _ _ _ _ _ en W ⟨⟨_, Heap.get?_push_size _ rfl, rfl, rfl⟩, hl.isList.push _⟩ (fun b hb => ?_) (fun i v e => ?_) (old _)
    · show b < (s.heap.push _).objs.size
      rw [Heap.size_push]
      rcases List.mem_cons.mp hb with z | z
      · exact z ▸ Nat.lt_succ_self _
      · exact List.mem_singleton.mp z ▸ Nat.lt_succ_of_lt ha
    · rw [List.getElem?_toArray] at e
      have hi : i < its.length := (List.getElem?_eq_some_iff.mp e).1
      obtain ⟨t, e2⟩ := ints_nth hI e
      exact ⟨t, e2⟩
  · obtain ⟨hz, hd, vs, rel, dd⟩ := dk_of I.hok h
    obtain ⟨es, ep, hr, hsz, hen⟩ := Heap.DictOf.raw dd
    have hkeys : vs.map Prod.fst = ns.map Sum.inl := rel.keys.symm.trans hk
    have hl : vs.length = ns.length := by
      have e := congrArg List.length hkeys
      rw [List.length_map, List.length_map] at e
      exact e
    have ha : a < s.heap.objs.size := by
      obtain ⟨o, e, _⟩ := id hr
      exact Heap.lt_size e
    refine wpAny_pyIter_dict_raw hd hr ?_
    have W := (Walks.rawKeys (prog := X.prog) (w := X.w) (A := X.A.in1) hh s.heap.objs.size a (Nat.ne_of_lt ha) es ep).toS
    refine k s.heap.objs.size _ _ _ _ _ _ (hsz.trans hl) W ⟨?_, ?_⟩ (fun b hb => ?_) (fun i v e => ?_) (old _)
    · exact ⟨_, Heap.get?_push_size _ rfl, rfl, rfl⟩
    · exact hr.at fun o e => Heap.get?_push_of_some _ e
    · show b < (s.heap.push _).objs.size
      rw [Heap.size_push]
      rcases List.mem_cons.mp hb with z | z
      · exact z ▸ Nat.lt_succ_self _
      · exact List.mem_singleton.mp z ▸ Nat.lt_succ_of_lt ha
    · obtain ⟨hi, rfl⟩ := e
      have hi2 : i < vs.length := by omega
      have hi3 : i < ns.length := by omega
      have h1 : (mixKind X.prog X.w).is vs[i].1 es[i].key = true := (hen i hi _ _ (List.getElem?_eq_getElem hi2)).1
      have e3 : vs[i].1 = Sum.inl ns[i] := by
        have z : (vs.map Prod.fst)[i]? = (ns.map (Sum.inl (β := Str)))[i]? := by rw [hkeys]
        rw [List.getElem?_map, List.getElem?_map, List.getElem?_eq_getElem hi2, List.getElem?_eq_getElem hi3] at z
        exact Option.some.inj z
      rw [e3] at h1
      obtain ⟨t, e4⟩ := relV_key (k := .inl ns[i]) h1
      refine ⟨t, ?_⟩
      rw [e4, List.getD_eq_getElem?_getD, List.getElem?_eq_getElem hi3]
      rfl
section
variable {X : Cx}
theorem cr_maxDf (hc : X.calm = true) : CallRK X (.builtin "max") [Str.ofString "default"] (mMaxD X.K) := by
  intro pins s σ H vs zs us ws Q I r rz h
  unfold mMaxD at h
  obtain ⟨a, ns, d, rfl, rfl, hn, q⟩ := h
  obtain rfl := Vals.ref1 r
  obtain ⟨w1, rfl, t1, e1⟩ := vals1 rz
  subst e1
  refine mx_kw (dv := .int d t1) (ints_walk hc I hn fun J fp wr n P St s2 en W st hfp hv hI => ⟨J, fp, wr, _, n, P, St, fun i => ns.getD i 0, rfl, W, st, hfp, hv, fun v s' mv hv' => ?_⟩)
  refine ⟨.int (mxL d ns), H, hI _ mv, ?_, q⟩
  unfold mxL
  unfold endsIn at hv'
  rw [en] at hv'
  split at hv'
  · rename_i e
    rw [e]
    exact ⟨t1, hv'⟩
  · rename_i m e
    rw [e]
    exact hv'
theorem cr_minDf (hc : X.calm = true) : CallRK X (.builtin "min") [Str.ofString "default"] (mMinD X.K) := by
  intro pins s σ H vs zs us ws Q I r rz h
  unfold mMinD at h
  obtain ⟨a, ns, d, rfl, rfl, hn, q⟩ := h
  obtain rfl := Vals.ref1 r
  obtain ⟨w1, rfl, t1, e1⟩ := vals1 rz
  subst e1
  refine mn_kw (dv := .int d t1) (ints_walk hc I hn fun J fp wr n P St s2 en W st hfp hv hI => ⟨J, fp, wr, _, n, P, St, fun i => ns.getD i 0, rfl, W, st, hfp, hv, fun v s' mv hv' => ?_⟩)
  refine ⟨.int (mnL d ns), H, hI _ mv, ?_, q⟩
  unfold mnL
  unfold endsIn at hv'
  rw [en] at hv'
  split at hv'
  · rename_i e
    rw [e]
    exact ⟨t1, hv'⟩
  · rename_i m e
    rw [e]
    exact hv'
end
theorem mxTo_ok (val : Nat → Int) : ∀ n : Nat, 0 < n → ∃ m, mxTo val n = some m ∧ (∃ i, i < n ∧ m = val i) ∧ ∀ i, i < n → val i ≤ m := by
  intro n
  induction n with
  | zero => exact fun h => absurd h (Nat.lt_irrefl _)
  | succ n ih =>
    intro _
    by_cases hn : 0 < n
    · obtain ⟨m, e, ⟨i, hi, ei⟩, hm⟩ := ih hn
      refine ⟨if val n > m then val n else m, ?_, ?_, fun j hj => ?_⟩
      · show some (match mxTo val n with | none => val n | some m => if val n > m then val n else m) = _
        rw [e]
      · split
        · exact ⟨n, by omega, rfl⟩
        · exact ⟨i, by omega, ei⟩
      · by_cases hjn : j < n
        · have := hm j hjn
          split <;> omega
        · have : j = n := by omega
          subst this
          split <;> omega
    · have : n = 0 := by omega
      subst this
      refine ⟨val 0, rfl, ⟨0, by omega, rfl⟩, fun j hj => ?_⟩
      obtain rfl : j = 0 := by omega
      exact Int.le_refl _
theorem mnTo_ok (val : Nat → Int) : ∀ n : Nat, 0 < n → ∃ m, mnTo val n = some m ∧ (∃ i, i < n ∧ m = val i) ∧ ∀ i, i < n → m ≤ val i := by
  intro n
  induction n with
  | zero => exact fun h => absurd h (Nat.lt_irrefl _)
  | succ n ih =>
    intro _
    by_cases hn : 0 < n
    · obtain ⟨m, e, ⟨i, hi, ei⟩, hm⟩ := ih hn
      refine ⟨if val n < m then val n else m, ?_, ?_, fun j hj => ?_⟩
      · show some (match mnTo val n with | none => val n | some m => if val n < m then val n else m) = _
        rw [e]
      · split
        · exact ⟨n, by omega, rfl⟩
        · exact ⟨i, by omega, ei⟩
      · by_cases hjn : j < n
        · have := hm j hjn
          split <;> omega
        · have : j = n := by omega
          subst this
          split <;> omega
    · have : n = 0 := by omega
      subst this
      refine ⟨val 0, rfl, ⟨0, by omega, rfl⟩, fun j hj => ?_⟩
      obtain rfl : j = 0 := by omega
      exact Int.le_refl _
theorem mxL_nil {d : Int} : mxL d [] = d := rfl
theorem mnL_nil {d : Int} : mnL d [] = d := rfl
theorem mxL_ok {d : Int} {ns : List Int} (h : ns ≠ []) : mxL d ns ∈ ns ∧ ∀ y ∈ ns, y ≤ mxL d ns := by
  obtain ⟨m, e, ⟨i, hi, ei⟩, hm⟩ := mxTo_ok (fun i => ns.getD i 0) ns.length (List.length_pos_iff.mpr h)
  unfold mxL
  rw [e]
  refine ⟨?_, fun y hy => ?_⟩
  · show m ∈ ns
    rw [ei]
    show ns.getD i 0 ∈ ns
    rw [List.getD_eq_getElem?_getD, List.getElem?_eq_getElem hi]
    exact List.getElem_mem hi
  · obtain ⟨j, hj, ej⟩ := List.mem_iff_getElem.mp hy
    have := hm j hj
    rw [List.getD_eq_getElem?_getD, List.getElem?_eq_getElem hj, Option.getD_some, ej] at this
    exact this
theorem mnL_ok {d : Int} {ns : List Int} (h : ns ≠ []) : mnL d ns ∈ ns ∧ ∀ y ∈ ns, mnL d ns ≤ y := by
  obtain ⟨m, e, ⟨i, hi, ei⟩, hm⟩ := mnTo_ok (fun i => ns.getD i 0) ns.length (List.length_pos_iff.mpr h)
  unfold mnL
  rw [e]
  refine ⟨?_, fun y hy => ?_⟩
  · show m ∈ ns
    rw [ei]
    show ns.getD i 0 ∈ ns
    rw [List.getD_eq_getElem?_getD, List.getElem?_eq_getElem hi]
    exact List.getElem_mem hi
  · obtain ⟨j, hj, ej⟩ := List.mem_iff_getElem.mp hy
    have := hm j hj
    rw [List.getD_eq_getElem?_getD, List.getElem?_eq_getElem hj, Option.getD_some, ej] at this
    exact this
end
/-! ### lists of a dict's keys; sorted; get and setdefault -/
section
open PySem.Spec PyProof.Rows
variable {X : Cx} {K : PySem.W.Frag} {H : Hp} {Q : VK} {a : Addr} {kvs : List (Key × V)} {ns : List Int} {n : Int} {z v : V}
@[irreducible] def mListD : List V → Hp → VK → Prop := fun xs H Q => ∃ (a : Addr) (kvs : List (Key × V)) (ns : List Int), xs = [.ref a] ∧ H a = some (.dK kvs) ∧ kvs.map Prod.fst = ns.map Sum.inl ∧ NewO (.lst (ns.map V.int)) H Q
theorem rd_listD (h : H a = some (.dK kvs)) (hk : kvs.map Prod.fst = ns.map Sum.inl) (q : NewO (.lst (ns.map V.int)) H Q) : mListD [.ref a] H Q := by
  unfold mListD
  exact ⟨a, kvs, ns, rfl, h, hk, q⟩
theorem keys_vals : ∀ {kvs : List (Key × V)} {ns : List Int}, kvs.map Prod.fst = ns.map Sum.inl → (kvs.map fun kv => kV kv.1) = ns.map V.int
  | [], [], _ => rfl
  | [], _ :: _, h => nomatch h
  | _ :: _, [], h => nomatch h
  | x :: r, n :: ns, h => by
    injection h with h1 h2
    rw [List.map_cons, List.map_cons, keys_vals h2, h1]
    rfl
theorem call_listDM (hc : X.calm = true) : CallR X (.type "list") mListD := fun pins s σ H xs us Q I r q => call_listD hc pins s σ H xs us Q I r (by
  unfold mListD at q
  obtain ⟨a, kvs, ns, e, h, hk, q⟩ := q
  refine ⟨a, kvs, e, .inl h, ?_⟩
  rw [keys_vals hk]
  exact q.go)
@[irreducible] def mSortD : List V → Hp → VK → Prop := fun xs H Q => ∃ (a : Addr) (kvs : List (Key × V)) (ns : List Int), xs = [.ref a] ∧ H a = some (.dK kvs) ∧ kvs.map Prod.fst = ns.map Sum.inl ∧ ns.length < 64 ∧ ∀ ys : List Int, ys.Perm ns → ys.Pairwise (· ≤ ·) → NewO (.lst (ys.map V.int)) H Q
theorem rd_sortD (h : H a = some (.dK kvs)) (hk : kvs.map Prod.fst = ns.map Sum.inl) (hl : ns.length < 64) (q : ∀ ys : List Int, ys.Perm ns → ys.Pairwise (· ≤ ·) → NewO (.lst (ys.map V.int)) H Q) : mSortD [.ref a] H Q := by
  unfold mSortD
  exact ⟨a, kvs, ns, rfl, h, hk, hl, q⟩
theorem call_sortDM (hc : X.calm = true) : CallR X (.builtin "sorted") mSortD := fun pins s σ H xs us Q I r q => call_sortedDI hc pins s σ H xs us Q I r (by
  unfold mSortD at q
  obtain ⟨a, kvs, ns, e, h, hk, hl, q⟩ := q
  exact ⟨a, kvs, ns, e, .inl h, hk, hl, fun ys p hp ho => (q ys hp ho).go p⟩)
@[irreducible] def mSortL (K : PySem.W.Frag) : List V → Hp → VK → Prop := fun xs H Q => ∃ (a : Addr) (ns : List Int), xs = [.ref a] ∧ SqL K H a (ns.map V.int) ∧ ns.length < 64 ∧ ∀ ys : List Int, ys.Perm ns → ys.Pairwise (· ≤ ·) → NewO (.lst (ys.map V.int)) H Q
theorem rd_sortL (h : SqL K H a (ns.map V.int)) (hl : ns.length < 64) (q : ∀ ys : List Int, ys.Perm ns → ys.Pairwise (· ≤ ·) → NewO (.lst (ys.map V.int)) H Q) : mSortL K [.ref a] H Q := by
  unfold mSortL
  exact ⟨a, ns, rfl, h, hl, q⟩
theorem call_sortLM : CallR X (.builtin "sorted") (mSortL X.K) := fun pins s σ H xs us Q I r q => cr_sorted pins s σ H xs us Q I r (by
  unfold mSortL at q
  obtain ⟨a, ns, e, h, hl, q⟩ := q
  exact ⟨a, ns, e, h, hl, fun ys p hp ho => (q ys hp ho).go p⟩)
@[irreducible] def mDGet2 (x y z : V) (H : Hp) (Q : VK) : Prop := ∃ a kvs k, x = .ref a ∧ y = kV k ∧ H a = some (.dK kvs) ∧ Q ((valV kvs k).getD z) H
theorem rd_dget2 (h : H a = some (.dK kvs)) (q : Q ((valV kvs (.inl n)).getD z) H) : mDGet2 (.ref a) (.int n) z H Q := by
  unfold mDGet2
  exact ⟨a, kvs, .inl n, rfl, rfl, h, q⟩
def mDGet2E (td ty tz : TE) : TE := fun σ H Q => td σ H fun x H1 => ∃ a kvs, x = .ref a ∧ H1 a = some (.dK kvs) ∧ ty σ H1 fun y H2 => tz σ H2 fun z H3 => mDGet2 x y z H3 Q
@[irreducible] def mDSetd (x y z : V) (H : Hp) (Q : VK) : Prop := ∃ a kvs k, x = .ref a ∧ y = kV k ∧ H a = some (.dK kvs) ∧ kvs.length < 1000000 ∧ (∀ v, valV kvs k = some v → Q v H) ∧ (valV kvs k = none → Q z (upd H a (.dK (putK kvs k z))))
theorem rd_dsetd (h : H a = some (.dK kvs)) (hl : kvs.length < 1000000) (q1 : ∀ v, valV kvs (.inl n) = some v → Q v H) (q2 : valV kvs (.inl n) = none → Q z (upd H a (.dK (putK kvs (.inl n) z)))) : mDSetd (.ref a) (.int n) z H Q := by
  unfold mDSetd
  exact ⟨a, kvs, .inl n, rfl, rfl, h, hl, q1, q2⟩
def mDSetdE (td ty tz : TE) : TE := fun σ H Q => td σ H fun x H1 => ∃ a kvs, x = .ref a ∧ H1 a = some (.dK kvs) ∧ ty σ H1 fun y H2 => tz σ H2 fun z H3 => mDSetd x y z H3 Q
theorem pe_dget2M {o e f : Expr} {td ty tz : TE} {apos cpos : Pos} (hu : X.A.units + 1 < cLine) (ho : PE X o td) (he : PE X e ty) (hf : PE X f tz) (hbase : attributeBase o "get" X.env (eval o X.env) = eval o X.env := by rfl)
    (hfew : ((backTo cpos (starEach [e, f] X.env)).all (fun x => !x.1) && (backToKw cpos (keywordEach [] X.env)).all (fun x => x.1.isSome) && decide (([e, f] : List Expr).length + ([] : List Keyword).length + (if ([] : List Keyword).isEmpty then 0 else 1) < 30)) = true := by rfl)
    (hline : (apos.endLine == cpos.line) = true := by rfl) (htr : backTo cpos (starEach [e, f] X.env) = [(false, eval e X.env), (false, eval f X.env)] := by rfl) : PE X (.Call (.Attribute o "get" apos) [e, f] [] cpos) (mDGet2E td ty tz) :=
  pe_weak (pe_dget2 hu (pe_c ho) (pe_c he) (pe_c hf) ⟨hbase, hfew, hline, htr⟩) fun σ H Q q => ⟨_, q, fun x H1 r => by
    obtain ⟨a, kvs, rfl, h, r⟩ := r
    refine ⟨a, rfl, .inl ⟨kvs, .inl h⟩, _, r, fun y H2 r => ⟨_, r, fun z H3 r => ?_⟩⟩
    unfold mDGet2 at r
    obtain ⟨a2, kvs2, k, e1, e2, h2, r⟩ := r
    cases e1
    exact ⟨_, e2 ▸ DGet.k h2, r⟩⟩
theorem pe_dsetdM {o e f : Expr} {td ty tz : TE} {apos cpos : Pos} (ho : PE X o td) (he : PE X e ty) (hf : PE X f tz) (hbase : attributeBase o "setdefault" X.env (eval o X.env) = eval o X.env := by rfl)
    (hfew : ((backTo cpos (starEach [e, f] X.env)).all (fun x => !x.1) && (backToKw cpos (keywordEach [] X.env)).all (fun x => x.1.isSome) && decide (([e, f] : List Expr).length + ([] : List Keyword).length + (if ([] : List Keyword).isEmpty then 0 else 1) < 30)) = true := by rfl)
    (hline : (apos.endLine == cpos.line) = true := by rfl) (htr : backTo cpos (starEach [e, f] X.env) = [(false, eval e X.env), (false, eval f X.env)] := by rfl) : PE X (.Call (.Attribute o "setdefault" apos) [e, f] [] cpos) (mDSetdE td ty tz) :=
  pe_weak (pe_dsetd (pe_c ho) (pe_c he) (pe_c hf) ⟨hbase, hfew, hline, htr⟩) fun σ H Q q => ⟨_, q, fun x H1 r => by
    obtain ⟨a, kvs, rfl, h, r⟩ := r
    refine ⟨a, rfl, .inl ⟨kvs, .inl h⟩, _, r, fun y H2 r => ⟨_, r, fun z H3 r => ?_⟩⟩
    unfold mDSetd at r
    obtain ⟨a2, kvs2, k, e1, e2, h2, hl, q1, q2⟩ := r
    cases e1
    exact ⟨kvs2, k, h2, e2, szl hl, q1, q2⟩⟩
/-! ### in, not in: lists of data -/
@[irreducible] def mInD (K : PySem.W.Frag) : R2 := rInD K
@[irreducible] def mNotInD (K : PySem.W.Frag) : R2 := rNotInD K
theorem hu65 {A : Around} {k : Nat} (r : Room k A) : A.units + 65 < cLine := by
  have := r.un
  omega
theorem op_inDM (hu : X.A.units + 65 < cLine) : OpR X (compareOp .In) (mInD X.K) := fun pins s σ H x y v u Q I rx ry q => op_inD hu pins s σ H x y v u Q I rx ry (by
  unfold mInD at q
  exact q)
theorem op_notInDM (hu : X.A.units + 65 < cLine) : OpR X (compareOp .NotIn) (mNotInD X.K) := fun pins s σ H x y v u Q I rx ry q => op_notInD hu pins s σ H x y v u Q I rx ry (by
  unfold mNotInD at q
  exact q)
theorem op_inDK (h : X.K = K) (hu : X.A.units + 65 < cLine) : OpR X (compareOp .In) (mInD K) := h ▸ op_inDM hu
theorem op_notInDK (h : X.K = K) (hu : X.A.units + 65 < cLine) : OpR X (compareOp .NotIn) (mNotInD K) := h ▸ op_notInDM hu
theorem rd_inD {x y : V} {m k : Nat} (d : PyData) (ds : List PyData) (h1 : Dp K H x d) (h2 : Dp K H y (.list ds)) (s1 : Sh m d) (s2 : ShA k ds) (q : Q (.bl (ds.any fun z => PyData.eqv z d)) H) (hm : m ≤ 64 := by decide) (hk : k + 1 ≤ 64 := by decide) : mInD K x y H Q := by
  unfold mInD
  exact ⟨d, ds, h1, h2, s1.shaped hm, (sh_lst s2).shaped hk, q⟩
theorem rd_notInD {x y : V} {m k : Nat} (d : PyData) (ds : List PyData) (h1 : Dp K H x d) (h2 : Dp K H y (.list ds)) (s1 : Sh m d) (s2 : ShA k ds) (q : Q (.bl (!ds.any fun z => PyData.eqv z d)) H) (hm : m ≤ 64 := by decide) (hk : k + 1 ≤ 64 := by decide) : mNotInD K x y H Q := by
  unfold mNotInD
  exact ⟨d, ds, h1, h2, s1.shaped hm, (sh_lst s2).shaped hk, q⟩
theorem any_ints (n : Int) : ∀ ns : List Int, ((ns.map PyData.int).any fun z => PyData.eqv z (.int n)) = decide (n ∈ ns)
  | [] => by simp
  | m :: r => by
    rw [List.map_cons, List.any_cons, any_ints n r, PyData.eqv]
    by_cases h : m = n
    · subst h
      simp
    · have h2 : ¬ n = m := fun e => h e.symm
      simp [h, h2]
theorem rd_inI (h : SqL K H a (ns.map V.int)) (q : Q (.bl (decide (n ∈ ns))) H) : mInD K (.int n) (.ref a) H Q :=
  rd_inD (m := 0) (k := 0) (.int n) (ns.map PyData.int) (.int n) (dp_ints h) sh_int (sh_ints ns) (by rw [any_ints]; exact q)
theorem rd_notInI (h : SqL K H a (ns.map V.int)) (q : Q (.bl (!decide (n ∈ ns))) H) : mNotInD K (.int n) (.ref a) H Q :=
  rd_notInD (m := 0) (k := 0) (.int n) (ns.map PyData.int) (.int n) (dp_ints h) sh_int (sh_ints ns) (by rw [any_ints]; exact q)
end
/-! ### for i, x in enumerate(xs) -/
@[irreducible] def mForE (K : PySem.W.Frag) (ta : TA) (i1 i2 : Nat) (tb : TS) : TS := fun D σ H => ta σ H fun ws H1 => ∃ (a : Addr) (xs : List V) (Pv : Nat → L2.St → Hp → Prop), ws = [.ref a] ∧ SqL K H1 a xs ∧ Pv 0 σ H1 ∧ (∀ i σ' H', i ≤ xs.length → Pv i σ' H' → SqL K H' a xs) ∧
  (∀ i x σ' H' H'', xs[i]? = some x → Pv i σ' H' → Same H' H'' → tb { D with nx := Pv (i + 1), ct := Pv (i + 1), bk := D.nx } ((σ'.set i1 (some (.int (i : Nat)))).set i2 (some x)) H'') ∧ ∀ σ' H', Pv xs.length σ' H' → D.nx σ' H'
theorem rd_forE {K : PySem.W.Frag} {ta : TA} {i1 i2 : Nat} {tb : TS} {D : Ends} {σ : L2.St} {H : Hp} (h : ta σ H fun ws H1 => ∃ (a : Addr) (xs : List V) (Pv : Nat → L2.St → Hp → Prop), ws = [.ref a] ∧ SqL K H1 a xs ∧ Pv 0 σ H1 ∧ (∀ i σ' H', i ≤ xs.length → Pv i σ' H' → SqL K H' a xs) ∧
  (∀ i x σ' H' H'', xs[i]? = some x → Pv i σ' H' → Same H' H'' → tb { D with nx := Pv (i + 1), ct := Pv (i + 1), bk := D.nx } ((σ'.set i1 (some (.int (i : Nat)))).set i2 (some x)) H'') ∧ ∀ σ' H', Pv xs.length σ' H' → D.nx σ' H') : mForE K ta i1 i2 tb D σ H := by
  unfold mForE
  exact h
theorem ps_forE {X : Cx} {ta : TA} {pos : Pos} {e : Expr} {kk : Nat} {p p2 tpos : Pos} {i1 i2 : Nat} {body : List Stmt} {tb : TS} {t1 t2 : Expr} (hp : PassesOwn (model X.prog X.w) X.A X.env X.xe) (hc : X.calm = true) (hg : Gl X "enumerate") (hm : X.mg "enumerate" = none) (ha : PA X [e] ta)
    (hgt : PG X (.Tuple [t1, t2] kk tpos) (gTup X.K 2 (gCons (gName i1) (gCons (gName i2) gNil)))) (hb : PSs X body tb)
    (hs : starEach [e] X.env = [(false, eval e X.env)] := by rfl) (hs2 : ∀ y, foldedSetIterable (.Call (.Name "enumerate" p) [e] [] p2) X.env y = pure y := by intro _; rfl) :
    PS X (.For (.Tuple [t1, t2] kk tpos) (.Call (.Name "enumerate" p) [e] [] p2) body [] pos) (mForE X.K ta i1 i2 tb) :=
  ps_weak (ps_for hp hc (pi_enum hg hm (pa_c ha) hs) hgt hb hs2) fun D σ H q => by
    unfold mForE at q
    refine ⟨_, q, fun ws H1 r => ?_⟩
    obtain ⟨a, xs, Pv, rfl, hx, h0, hq, hs, hd⟩ := r
    refine ⟨a, xs, rfl, hx, ?_⟩
    refine for_it (walk_enum (K := X.K) (a := a) (xs := xs)) Pv h0 hq (fun i x σ' H' H'' hi p y => ?_) hd
    obtain ⟨T, u, v, rfl, hT, rfl, e1, e2⟩ := y
    cases e1
    exact ⟨T, [.int (i : Nat), v], rfl, st_of upd_same, rfl, .int (i : Nat), [v], rfl, v, [], rfl, rfl, hs i v σ' H' _ e2 p (same_upd hT)⟩
/-! ### [e for k in d if t], d a local's dict -/
section
variable {X : Cx} {K : PySem.W.Frag}
theorem im_keys {td : TE} : IMono (iKeys td) (iKeys (cTE td)) := fun σ H R R' h q => ⟨_, q, fun v H' r => by
  obtain ⟨d, o, e, r⟩ := r
  refine ⟨d, o, e, ?_⟩
  rcases r with ⟨kvs, h1, r⟩ | ⟨kvs, h1, r⟩
  · exact .inl ⟨kvs, h1, h _ _ r⟩
  · exact .inr ⟨kvs, h1, h _ _ r⟩⟩
@[irreducible] def mLcK (i j : Nat) (tt : TT) (te : TE) : TE := fun σ H Q => ∃ (d : Addr) (kvs : List (Key × V)) (ns : List Int) (keep : Int → Bool) (f : Int → V), σ[i]? = some (some (.ref d)) ∧ H d = some (.dK kvs) ∧ kvs.map Prod.fst = ns.map Sum.inl ∧ ns.length ≤ 100000 ∧
  (∀ n, n ∈ ns → ∀ H', (∀ b o, b ≠ d → H b = some o → H' b = some o) → tt ((wipe σ [j]).set j (some (.int n))) H' fun b H2 => Same H' H2 ∧ b = keep n ∧ (b = true → te ((wipe σ [j]).set j (some (.int n))) H2 fun v H3 => Same H2 H3 ∧ v = f n)) ∧ NewO (.lst ((ns.filter keep).map f)) H Q
theorem rd_lcK {i j : Nat} {tt : TT} {te : TE} {σ : L2.St} {H : Hp} {Q : VK} (d : Addr) (kvs : List (Key × V)) (ns : List Int) (keep : Int → Bool) (f : Int → V) (h1 : σ[i]? = some (some (.ref d))) (h2 : H d = some (.dK kvs)) (h3 : kvs.map Prod.fst = ns.map Sum.inl) (h4 : ns.length ≤ 100000)
    (h5 : ∀ n, n ∈ ns → ∀ H', (∀ b o, b ≠ d → H b = some o → H' b = some o) → tt ((wipe σ [j]).set j (some (.int n))) H' fun b H2 => Same H' H2 ∧ b = keep n ∧ (b = true → te ((wipe σ [j]).set j (some (.int n))) H2 fun v H3 => Same H2 H3 ∧ v = f n))
    (q : NewO (.lst ((ns.filter keep).map f)) H Q) : mLcK i j tt te σ H Q := by
  unfold mLcK
  exact ⟨d, kvs, ns, keep, f, h1, h2, h3, h4, h5, q⟩
theorem filter_idx {α β : Type} (keep : α → Bool) (f : α → β) (d : α) : ∀ l : List α, ((List.range l.length).filter fun i => keep (l.getD i d)).map (fun i => f (l.getD i d)) = (l.filter keep).map f := by
  refine snocG ?_ ?_
  · rfl
  · intro l x ih
    rw [List.length_append, List.length_singleton, List.range_succ, List.filter_append, List.map_append, List.filter_append, List.map_append, ← ih]
    have hx : (l ++ [x]).getD l.length d = x := by
      rw [List.getD_eq_getElem?_getD, List.getElem?_append_right (Nat.le_refl _), Nat.sub_self]
      rfl
    have hl : ∀ i, i ∈ List.range l.length → (l ++ [x]).getD i d = l.getD i d := fun i hi => by
      rw [List.getD_eq_getElem?_getD, List.getD_eq_getElem?_getD, List.getElem?_append_left (List.mem_range.mp hi)]
    congr 1
    · have e1 : (List.range l.length).filter (fun i => keep ((l ++ [x]).getD i d)) = (List.range l.length).filter (fun i => keep (l.getD i d)) := List.filter_congr fun i hi => by rw [hl i hi]
      rw [e1]
      exact List.map_congr_left fun i hi => by rw [hl i (List.mem_filter.mp hi).1]
    · rw [List.filter_cons, List.filter_cons, hx]
      cases keep x with
      | true => simp only [if_true, List.filter_nil, List.map_cons, List.map_nil, hx]
      | false => rfl
theorem pe_lcK {elt it : Expr} {scope : Scope} {i j : Nat} {x : Str} {xpos pos : Pos} {ifs : List Expr} {tt : TT} {te : TE} (hc : X.calm = true) (hN : X.N.Nodup) (ha : PE X it (fun σ H Q => ∃ v, σ[i]? = some (some v) ∧ Q v H)) (ok : BlkOk X.N X.env.scope scope [(x, j)])
    (hgt : ∀ (s : Shared) (H : Hp) (C : Addr) (cl : List (Str × Addr)) (fp : List Addr), PG (X.blk s H scope (compEnvC scope cl C X.env) fp) (.Name x xpos) (gName j))
    (ht : ∀ (s : Shared) (H : Hp) (C : Addr) (cl : List (Str × Addr)) (fp : List Addr), PTs (X.blk s H scope (compEnvC scope cl C X.env) fp) ifs tt)
    (he : ∀ (s : Shared) (H : Hp) (C : Addr) (cl : List (Str × Addr)) (fp : List Addr), PE (X.blk s H scope (compEnvC scope cl C X.env) fp) elt te) (hs2 : ∀ y, foldedSetIterable it X.env y = pure y := by intro _; rfl) :
    PE X (.ListComp elt [⟨.Name x xpos, it, ifs, 0⟩] scope pos) (mLcK i j tt te) :=
  pe_weak (pe_lock (pe_lcP (wi' := iKeys fun σ H Q => ∃ v, σ[i]? = some (some v) ∧ Q v H) [j] im_keys hc hN (pi_keys (pe_c ha)) ok hgt (fun s H C cl fp => pts_c (ht s H C cl fp)) (fun s H C cl fp => pe_c (he s H C cl fp)) rfl hs2)) fun σ H Q q => by
    unfold mLcK at q
    obtain ⟨d, kvs, ns, keep, f, h1, h2, h3, h4, h5, q⟩ := q
    have hkl : kvs.length = ns.length := by
      have e := congrArg List.length h3
      rw [List.length_map, List.length_map] at e
      exact e
    refine ⟨d, .dK kvs, h2, trivial, fun od => ?_⟩
    unfold mLcP
    refine ⟨.ref d, h1, d, od, rfl, .inl ⟨kvs, upd_same, ?_⟩⟩
    have nd : ∀ {p : Addr}, (upd H d (.frz od (.dK kvs))) p = none → p ≠ d := fun z e => by
      rw [e, upd_same] at z
      cases z
    refine ⟨kvs.length, _, _, fun k => keep (ns.getD k 0), fun k => f (ns.getD k 0), walk_keys (d := d) (o := od) (kvs := kvs), by omega, fun H' s => s _ _ upd_same, fun D hD k y H' H'' hk p w => ?_, fun p H' np s e => ?_⟩
    · obtain ⟨rfl, ky, vy, hkv, rfl⟩ := w
      have hk2 : k < ns.length := by omega
      have ek : ky = Sum.inl (ns.getD k 0) := by
        have z : (kvs.map Prod.fst)[k]? = (ns.map (Sum.inl (β := Str)))[k]? := by rw [h3]
        rw [List.getElem?_map, List.getElem?_map, hkv, List.getElem?_eq_getElem hk2] at z
        rw [List.getD_eq_getElem?_getD, List.getElem?_eq_getElem hk2]
        exact Option.some.inj z
      subst ek
      have hin : ns.getD k 0 ∈ ns := by
        rw [List.getD_eq_getElem?_getD, List.getElem?_eq_getElem hk2]
        exact List.getElem_mem hk2
      have base : ∀ b o, b ≠ d → H b = some o → H'' b = some o := fun b o hb e => p.sm _ _ (by rw [upd_ne hb]; exact e)
      have hh := h5 _ hin H'' base
      refine ⟨wipe_set rfl, _, hh, fun b H2 r => ?_⟩
      obtain ⟨s1, rfl, r⟩ := r
      cases hb : keep (ns.getD k 0) with
      | true =>
        refine br_T ⟨_, r hb, fun v H3 r2 => ?_⟩
        obtain ⟨s2, rfl⟩ := r2
        exact p.put hD (by omega) (s1.trans s2) hb rfl
      | false => exact br_F (p.skip s1 hb)
    · have hpd : p ≠ d := nd np
      rw [hkl, filter_idx keep f 0 ns] at e
      refine ⟨s _ _ upd_same, q p (upd H' d (.dK kvs)) (by rw [upd_ne hpd] at np; exact np) (fun b o hb => ?_) (by rw [upd_ne hpd]; exact e)⟩
      by_cases hbd : b = d
      · subst hbd
        rw [upd_same]
        rw [h2] at hb
        exact hb
      · rw [upd_ne hbd]
        exact s _ _ (by rw [upd_ne hbd]; exact hb)
end
/-! ### new tuples, told to be new -/
def EltF (te : TE) (σ : L2.St) (H : Hp) (xs : List V) : Prop := ∀ H', Same H H' → te σ H' fun v H'' => Same H' H'' ∧ ∃ p, v = .ref p ∧ H' p = none ∧ H'' p = some (.tup xs)
def NewTF (n : Nat) (f : Nat → List V) (H : Hp) (Q : VK) : Prop := ∀ (D : Addr) (H' : Hp) (ps : List Addr), H D = none → Same H H' → H' D = some (.lst (ps.map V.ref)) → ps.length = n → (∀ i p, ps[i]? = some p → H p = none ∧ H' p = some (.tup (f i))) → Q (.ref D) H'
def TsF (H1 : Hp) (D : Addr) (f : Nat → List V) (i : Nat) (H' : Hp) : Prop := Same H1 H' ∧ ∃ ps : List Addr, H' D = some (.lst (ps.map V.ref)) ∧ ps.length = i ∧ ∀ k p, ps[k]? = some p → H1 p = none ∧ H' p = some (.tup (f k))
theorem TsF.next {H1 H' H'' : Hp} {D p : Addr} {f : Nat → List V} {i : Nat} (hD : H1 D = none) (w : TsF H1 D f i H') (s : Same H' H'') (hn : H' p = none) (hp : H'' p = some (.tup (f i))) : ∃ acc, H'' D = some (.lst acc) ∧ acc.length = i ∧ TsF H1 D f (i + 1) (upd H'' D (.lst (acc ++ [.ref p]))) := by
  obtain ⟨sm, ps, hd, hl, ht⟩ := w
  have hd2 := s _ _ hd
  have ne : ∀ {q : Addr} {xs : List V}, H'' q = some (.tup xs) → q ≠ D := fun {q xs} h e => by
    rw [e, hd2] at h
    cases h
  refine ⟨_, hd2, by rw [List.length_map, hl], same_mut (sm.trans s) hD, ps ++ [p], ?_, by rw [List.length_append, List.length_singleton, hl], fun k q hk => ?_⟩
  · rw [upd_same, List.map_append]
    rfl
  · by_cases h : k < ps.length
    · rw [List.getElem?_append_left h] at hk
      have h2 := ht k q hk
      have h3 := s _ _ h2.2
      refine ⟨h2.1, ?_⟩
      rw [upd_ne (ne h3)]
      exact h3
    · rw [List.getElem?_append_right (by omega)] at hk
      have h0 : k - ps.length = 0 := by
        cases e : k - ps.length with
        | zero => rfl
        | succ m => rw [e] at hk; simp at hk
      rw [h0] at hk
      have e : p = q := Option.some.inj hk
      have ek : k = i := by omega
      subst e
      rw [ek, upd_ne (ne hp)]
      exact ⟨same_none sm hn, hp⟩
/-! ### [(..) for x in range(a, b)] -/
@[irreducible] def mLcTR2 (ta : TA) (j : Nat) (te : TE) (vs : List Nat) : TE := fun σ H Q => ta σ H fun ws H1 => ∃ (lo hi : Int) (f : Nat → List V), ws = [.int lo, .int hi] ∧ (-100000 ≤ lo ∧ lo ≤ 100000 ∧ -100000 ≤ hi ∧ hi ≤ 100000) ∧ (∀ i, i < (hi - lo).toNat → EltF te ((wipe σ vs).set j (some (.int (lo + (i : Int))))) H1 (f i)) ∧ NewTF (hi - lo).toNat f H1 Q
theorem rd_lcTR2 {ta : TA} {j : Nat} {te : TE} {vs : List Nat} {σ : L2.St} {H : Hp} {Q : VK} (h : ta σ H fun ws H1 => ∃ (lo hi : Int) (f : Nat → List V), ws = [.int lo, .int hi] ∧ (-100000 ≤ lo ∧ lo ≤ 100000 ∧ -100000 ≤ hi ∧ hi ≤ 100000) ∧ (∀ i, i < (hi - lo).toNat → EltF te ((wipe σ vs).set j (some (.int (lo + (i : Int))))) H1 (f i)) ∧ NewTF (hi - lo).toNat f H1 Q) : mLcTR2 ta j te vs σ H Q := by
  unfold mLcTR2
  exact h
theorem lcTR2_of {ta : TA} {j : Nat} {te : TE} {vs : List Nat} {σ : L2.St} {H : Hp} {Q : VK} (hj : vs = [j]) (q : mLcTR2 ta j te vs σ H Q) : tLc (iRng2 (cTA ta)) (gName j) tYes (cTE te) vs σ H Q := by
  unfold mLcTR2 at q
  refine ⟨_, q, fun ws H1 r => ?_⟩
  obtain ⟨lo, hi, f, rfl, ⟨h1, h2, h3, h4⟩, he, hq⟩ := r
  have big : (2 : Int) ^ 62 = 4611686018427387904 := by decide
  refine ⟨lo, hi, rfl, ⟨by omega, by omega, by omega, by omega⟩, fun D hD => ?_⟩
  refine lc_range (lo := lo) (n := (hi - lo).toNat) (fun i H' => TsF H1 D f i H') ⟨same_upd hD, [], upd_same, rfl, fun k p h => by cases h⟩ (fun i H' hi w => ⟨wipe_set hj, _, he i hi H' w.1, fun v H'' r => ?_⟩) fun H' w => ?_
  · obtain ⟨s, p, rfl, hn, hp⟩ := r
    obtain ⟨acc, k1, k2, k3⟩ := w.next hD s hn hp
    exact ⟨acc, k1, szl (by omega), k3⟩
  · obtain ⟨sm, ps, hd, hl, ht⟩ := w
    exact hq D H' ps hD sm hd hl ht
section
variable {X : Cx} {te : TE} {ta : TA} {pos : Pos}
theorem pe_lcTR2 {elt : Expr} {scope : Scope} {j : Nat} {x : Str} {a b : Expr} {p p2 xpos : Pos} (hc : X.calm = true) (hN : X.N.Nodup) (hg : Gl X "range") (hm : X.mg "range" = none) (ha : PA X [a, b] ta) (ok : BlkOk X.N X.env.scope scope [(x, j)])
    (hgt : ∀ (s : Shared) (H : Hp) (C : Addr) (cl : List (Str × Addr)) (fp : List Addr), PG (X.blk s H scope (compEnvC scope cl C X.env) fp) (.Name x xpos) (gName j))
    (he : ∀ (s : Shared) (H : Hp) (C : Addr) (cl : List (Str × Addr)) (fp : List Addr), PE (X.blk s H scope (compEnvC scope cl C X.env) fp) elt te)
    (hs : starEach [a, b] X.env = [(false, eval a X.env), (false, eval b X.env)] := by rfl) (hs3 : starEach [b] X.env = [(false, eval b X.env)] := by rfl) (hs2 : ∀ y, foldedSetIterable (.Call (.Name "range" p) [a, b] [] p2) X.env y = pure y := by intro _; rfl) :
    PE X (.ListComp elt [⟨.Name x xpos, .Call (.Name "range" p) [a, b] [] p2, [], 0⟩] scope pos) (mLcTR2 ta j te [j]) :=
  pe_weak (pe_lc hc hN (pi_range2 hg hm (pa_c ha) hs hs3) ok hgt (fun _ _ _ _ _ => pts_nil) (fun s H C cl fp => pe_c (he s H C cl fp)) hs2) fun _ _ _ q => lcTR2_of rfl q
end
/-- new objects join what stays -/
theorem Own.adopt {S B0 B H H' : Hp} {as : List Addr} {l : List (Addr × HO)} (w : Own S B0 as B l H) (s : Same H H') (ps : List Addr) (hp : ∀ p ∈ ps, H p = none ∧ H' p ≠ none) : ∃ B', Same B B' ∧ (∀ p ∈ ps, B' p = H' p) ∧ Own S B0 as B' l H' := by
  have hB : ∀ p ∈ ps, B p = none := fun p h => w.frB (hp p h).1
  have sb : Same B (fun b => if b ∈ ps then H' b else B b) := fun b o h => by
    show (if b ∈ ps then H' b else B b) = some o
    rw [if_neg (fun z => by rw [hB b z] at h; cases h)]
    exact h
  refine ⟨fun b => if b ∈ ps then H' b else B b, sb, fun p h => if_pos h, ⟨fun a u h => s _ _ (w.c.cell a u h), w.c.nd, fun b u h => ?_, fun a u h => ?_⟩, fun b u hb h => s _ _ (w.kept b u hb h), w.own, w.grow.trans sb, fun b h k => ?_, fun a h e => w.there a h (same_none s e)⟩
  · have h2 : (if b ∈ ps then H' b else B b) = some u := h
    split at h2
    · exact h2
    · exact s _ _ (w.c.imm _ _ h2)
  · show (if a ∈ ps then H' a else B a) = none
    rw [if_neg (fun z => w.notin (hp a z).1 h)]
    exact w.c.dis a u h
  · by_cases hb : b ∈ ps
    · exact (w.frS (hp b hb).1).1
    · have k2 : (if b ∈ ps then H' b else B b) ≠ none := k
      rw [if_neg hb] at k2
      exact w.new b h k2
theorem br_or {c d : Bool} {Q : VK} {H : Hp} {B : Prop} (hB : Q (.bl d) H → B) (q : Q (.bl (c || d)) H) : Br c (Q (.bl true) H) B := by
  cases c with
  | true => exact br_T q
  | false => exact br_F (hB q)
theorem rd_dget2P {a : Addr} {kvs : List (Key × V)} {n : Int} {z : V} {H : Hp} {Q : VK} (P : V → Hp → Prop) (h : H a = some (.dK kvs)) (p : P ((valV kvs (.inl n)).getD z) H) (k : ∀ v H', P v H' → Q v H') : mDGet2 (.ref a) (.int n) z H Q := rd_dget2 h (k _ _ p)
theorem Own.perm {S B0 B H : Hp} {as : List Addr} {l l' : List (Addr × HO)} (w : Own S B0 as B l H) (h : l'.Perm l) : Own S B0 as B l' H := w.sub (fun _ hc => h.mem_iff.mp hc) ((h.map _).nodup_iff.mpr w.c.nd)
/-! ### [(..) for target in xs]: new tuples -/
@[irreducible] def mLcTG (K : PySem.W.Frag) (tl : TE) (g : TG) (te : TE) (vs : List Nat) : TE := fun σ H Q => tl σ H fun x H1 => ∃ (a : Addr) (xs : List V) (f : Nat → List V), x = .ref a ∧ SqL K H1 a xs ∧ xs.length ≤ 1000 ∧
  (∀ i y, xs[i]? = some y → ∀ H', Same H1 H' → g y (wipe σ vs) H' fun σ2 H2 => wipe σ2 vs = wipe σ vs ∧ te σ2 H2 fun v H3 => Same H' H3 ∧ ∃ p, v = .ref p ∧ H3 p = some (.tup (f i))) ∧ NewTs xs.length f H1 Q
theorem rd_lcTG {K : PySem.W.Frag} {tl : TE} {g : TG} {te : TE} {vs : List Nat} {σ : L2.St} {H : Hp} {Q : VK} (h : tl σ H fun x H1 => ∃ (a : Addr) (xs : List V) (f : Nat → List V), x = .ref a ∧ SqL K H1 a xs ∧ xs.length ≤ 1000 ∧
  (∀ i y, xs[i]? = some y → ∀ H', Same H1 H' → g y (wipe σ vs) H' fun σ2 H2 => wipe σ2 vs = wipe σ vs ∧ te σ2 H2 fun v H3 => Same H' H3 ∧ ∃ p, v = .ref p ∧ H3 p = some (.tup (f i))) ∧ NewTs xs.length f H1 Q) : mLcTG K tl g te vs σ H Q := by
  unfold mLcTG
  exact h
theorem lcTG_of {K : PySem.W.Frag} {tl : TE} {g : TG} {te : TE} {vs : List Nat} {σ : L2.St} {H : Hp} {Q : VK} (q : mLcTG K tl g te vs σ H Q) : tLc (iList K (cTE tl)) (cTG g) tYes (cTE te) vs σ H Q := by
  unfold mLcTG at q
  refine ⟨_, q, fun x H1 r => ?_⟩
  obtain ⟨a, xs, f, rfl, hx, hn, he, hq⟩ := r
  refine ⟨a, rfl, ⟨xs, hx⟩, fun D hD => ?_⟩
  refine lc_list (xs := xs) (fun i H' => TsW H1 D f i H') ⟨same_upd hD, [], upd_same, rfl, fun k p h => by cases h⟩ (fun i H' _ w => w.1.seq hx) (fun i y H' hi w => ⟨_, he i y hi H' w.1, fun σ2 H2 r => ⟨r.1, _, r.2, fun v H3 r2 => ?_⟩⟩) fun H' w => ?_
  · obtain ⟨s, p, rfl, hp⟩ := r2
    obtain ⟨acc, h1, h2, h3⟩ := w.next hD s hp
    have hl : i < xs.length := (List.getElem?_eq_some_iff.mp hi).1
    exact ⟨acc, h1, szl (by omega), h3⟩
  · obtain ⟨sm, ps, hd, hl, ht⟩ := w
    exact hq D H' ps hD sm hd hl ht
theorem pe_lcTG {X : Cx} {tg elt it : Expr} {scope : Scope} {own : List (Str × Nat)} {g : TG} {te tl : TE} {pos : Pos} (vs : List Nat) (hc : X.calm = true) (hN : X.N.Nodup) (ha : PE X it tl) (ok : BlkOk X.N X.env.scope scope own)
    (hgt : ∀ (s : Shared) (H : Hp) (C : Addr) (cl : List (Str × Addr)) (fp : List Addr), PG (X.blk s H scope (compEnvC scope cl C X.env) fp) tg g)
    (he : ∀ (s : Shared) (H : Hp) (C : Addr) (cl : List (Str × Addr)) (fp : List Addr), PE (X.blk s H scope (compEnvC scope cl C X.env) fp) elt te) (hvs : own.map (·.2) = vs := by rfl) (hs2 : ∀ y, foldedSetIterable it X.env y = pure y := by intro _; rfl) :
    PE X (.ListComp elt [⟨tg, it, [], 0⟩] scope pos) (mLcTG X.K tl g te vs) :=
  pe_weak (pe_lc hc hN (pi_list (pe_c ha)) ok (fun s H C cl fp => pg_c (hgt s H C cl fp)) (fun _ _ _ _ _ => pts_nil) (fun s H C cl fp => pe_c (he s H C cl fp)) hs2) fun _ _ _ q => by
    rw [hvs]
    exact lcTG_of q
/-! ### x or y as a value, y a name -/
@[irreducible] def OrB (x : V) (σ : L2.St) (j : Nat) (H : Hp) (Q : VK) : Prop := ∃ c d, x = .bl c ∧ σ[j]? = some (some (.bl d)) ∧ Q (.bl (c || d)) H
def mOrB (ta : TE) (j : Nat) : TE := fun σ H Q => ta σ H fun x H1 => OrB x σ j H1 Q
theorem pe_orB {X : Cx} {a b : Expr} {ta : TE} {j : Nat} {pos : Pos} (ha : PE X a ta) (hb : PE X b (fun σ H Q => ∃ v, σ[j]? = some (some v) ∧ Q v H)) : PE X (.BoolOp .Or [a, b] pos) (mOrB ta j) :=
  pe_weak (pe_orM (pe_c ha) (pe_one hb)) fun σ H Q q => ⟨_, q, fun x H1 r => by
    unfold OrB at r
    obtain ⟨c, d, e, hd, r⟩ := r
    cases c with
    | true => exact ⟨true, e, br_T r⟩
    | false => exact ⟨false, e, br_F ⟨.bl d, hd, r⟩⟩⟩
theorem rd_orB {c d : Bool} {σ : L2.St} {j : Nat} {H : Hp} {Q : VK} (hd : σ[j]? = some (some (.bl d))) (q : Q (.bl (c || d)) H) : OrB (.bl c) σ j H Q := by
  unfold OrB
  exact ⟨c, d, rfl, hd, q⟩
/-- a and b as a test, told as one truth value -/
@[irreducible] def AndP (c : Bool) (u : TT) (σ : L2.St) (H : Hp) (Q : Bool → Hp → Prop) : Prop := ∃ d : Bool, (c = true → u σ H fun d' H2 => d' = d ∧ H2 = H) ∧ Q (c && d) H
def mAndP (t u : TT) : TT := fun σ H Q => t σ H fun c H1 => AndP c u σ H1 Q
theorem pw_andP {X : Cx} {a b : Expr} {tA tB : TT} {pos : Pos} (ha : PT X a tA) (hb : PT X b tB) : PW X (.BoolOp .And [a, b] pos) (mAndP tA tB) :=
  pw_weak (pw_andM (pt_c ha) (pw_and1 (pt_c hb))) fun σ H Q q => ⟨_, q, fun c H1 r => by
    unfold AndP at r
    obtain ⟨d, h1, h2⟩ := r
    cases c with
    | true => exact br_T ⟨_, h1 rfl, fun d' H2 z => by
        obtain ⟨rfl, rfl⟩ := z
        exact h2⟩
    | false => exact br_F h2⟩
theorem rd_andP {c : Bool} {u : TT} {σ : L2.St} {H : Hp} {Q : Bool → Hp → Prop} (d : Bool) (h : c = true → u σ H fun d' H2 => d' = d ∧ H2 = H) (q : Q (c && d) H) : AndP c u σ H Q := by
  unfold AndP
  exact ⟨d, h, q⟩
end My
namespace My
open PySem L2
/-! ### a comprehension told by what holds between its turns -/
theorem im_rng3 {ta : TA} : IMono (iRng3 ta) (iRng3 (cTA ta)) := fun σ H R R' h q => ⟨_, q, fun v H' r => by
  obtain ⟨i, j, c, n, e, h1, r⟩ := r
  exact ⟨i, j, c, n, e, h1, h _ _ r⟩⟩
/-- acc: what the new list holds so far; the turn may change the heap, the new list aside -/
def LcWT (D : Addr) (acc : List V) (P : List V → Hp → Prop) (y : V) (H4 : Hp) : Prop := H4 D = some (.lst acc) ∧ P (acc ++ [y]) (upd H4 D (.lst (acc ++ [y])))
def LcWS (D : Addr) (acc : List V) (P : List V → Hp → Prop) (H4 : Hp) : Prop := H4 D = some (.lst acc) ∧ P acc H4
@[irreducible] def LcWP (J : It) (g : TG) (tt : TT) (te : TE) (vs : List Nat) (σ : L2.St) (Q : VK) (H1 : Hp) : Prop := ∃ (n : Nat) (G : Hp → Prop) (Y : Nat → Hp → V → Hp → Prop), Walk J n G Y ∧ n ≤ 100000 ∧ ∀ D, H1 D = none → ∃ Pv : Nat → List V → Hp → Prop, Pv 0 [] (upd H1 D (.lst [])) ∧
  (∀ i acc H', i ≤ n → acc.length ≤ i → H' D = some (.lst acc) → Pv i acc H' → G H') ∧
  (∀ i acc x H' H'', i < n → acc.length ≤ i → H' D = some (.lst acc) → Pv i acc H' → Y i H' x H'' → g x (wipe σ vs) H'' fun σ2 H2 => wipe σ2 vs = wipe σ vs ∧ tt σ2 H2 fun b H3 => Br b (te σ2 H3 fun y H4 => LcWT D acc (Pv (i + 1)) y H4) (LcWS D acc (Pv (i + 1)) H3)) ∧
  ∀ acc H', acc.length ≤ n → H' D = some (.lst acc) → Pv n acc H' → Q (.ref D) H'
@[irreducible] def mLcW (wi : TI) (g : TG) (tt : TT) (te : TE) (vs : List Nat) : TE := fun σ H Q => wi σ H fun J H1 => LcWP J g tt te vs σ Q H1
theorem lcW_of {g : TG} {tt : TT} {te : TE} {wi wi' : TI} {vs : List Nat} {σ : L2.St} {H : Hp} {Q : VK} (hw : IMono wi' wi) (q : mLcW wi' g tt te vs σ H Q) : tLc wi (cTG g) (cTT tt) (cTE te) vs σ H Q := by
  unfold mLcW at q
  refine hw _ _ _ _ (fun J H1 r => ?_) q
  unfold LcWP at r
  obtain ⟨n, G, Y, w, hn, r⟩ := r
  intro D hD
  obtain ⟨Pv, h0, hG, ht, hq⟩ := r D hD
  refine lc_it w (fun i H' => ∃ acc : List V, acc.length ≤ i ∧ H' D = some (.lst acc) ∧ Pv i acc H') ⟨[], Nat.le_refl _, upd_same, h0⟩ (fun i H' hi p => ?_) (fun i x H' H'' hi p y => ?_) fun H' p => ?_
  · obtain ⟨acc, h1, h2, h3⟩ := p
    exact hG i acc H' hi h1 h2 h3
  · obtain ⟨acc, h1, h2, h3⟩ := p
    refine ⟨_, ht i acc x H' H'' hi h1 h2 h3 y, fun σ2 H2 r => ⟨r.1, _, r.2, fun b H3 r => ?_⟩⟩
    cases b with
    | true =>
      refine iteT ⟨_, (r.un : if true = true then _ else _), fun y2 H4 z => ⟨acc, z.1, szl (by omega), acc ++ [y2], ?_, upd_same, z.2⟩⟩
      rw [List.length_append, List.length_singleton]
      omega
    | false => exact iteF (by
        have z : LcWS D acc (Pv (i + 1)) H3 := (r.un : if false = true then _ else _)
        exact ⟨acc, by omega, z.1, z.2⟩)
  · obtain ⟨acc, h1, h2, h3⟩ := p
    exact hq acc H' h1 h2 h3
section
variable {X : Cx} {e tg : Expr} {ifs : List Expr} {g : TG} {tt : TT} {te : TE}
theorem pe_lcW {iter elt : Expr} {scope : Scope} {own : List (Str × Nat)} {pos : Pos} {wi wi' : TI} (vs : List Nat) (hw : IMono wi' wi) (hc : X.calm = true) (hN : X.N.Nodup) (hi : PI X tg iter wi) (ok : BlkOk X.N X.env.scope scope own)
    (hg : ∀ (s : Shared) (H : Hp) (C : Addr) (cl : List (Str × Addr)) (fp : List Addr), PG (X.blk s H scope (compEnvC scope cl C X.env) fp) tg g) (ht : ∀ (s : Shared) (H : Hp) (C : Addr) (cl : List (Str × Addr)) (fp : List Addr), PTs (X.blk s H scope (compEnvC scope cl C X.env) fp) ifs tt)
    (he : ∀ (s : Shared) (H : Hp) (C : Addr) (cl : List (Str × Addr)) (fp : List Addr), PE (X.blk s H scope (compEnvC scope cl C X.env) fp) elt te) (hvs : own.map (·.2) = vs := by rfl) (hs : ∀ x, foldedSetIterable iter X.env x = pure x := by intro _; rfl) :
    PE X (.ListComp elt [⟨tg, iter, ifs, 0⟩] scope pos) (mLcW wi' g tt te vs) :=
  pe_weak (pe_lc hc hN hi ok (fun s H C cl fp => pg_c (hg s H C cl fp)) (fun s H C cl fp => pts_c (ht s H C cl fp)) (fun s H C cl fp => pe_c (he s H C cl fp)) hs) fun _ _ _ q => by
    rw [hvs]
    exact lcW_of hw q
theorem ps_setLcW {i : Nat} {y : Str} {py : Pos} {iter elt : Expr} {scope : Scope} {own : List (Str × Nat)} {pos spos : Pos} {wi wi' : TI} (vs : List Nat) (hw : IMono wi' wi) (hc : X.calm = true) (hN : X.N.Nodup) (hy : X.N[i]? = some y) (hyl : X.env.scope.names.lookup y = some .local)
    (hsw : swapsWith (.ListComp elt [⟨tg, iter, ifs, 0⟩] scope pos) (some (.Name y py)) spos.line X.env = pure true) (hi : PI X tg iter wi) (ok : BlkOk X.N X.env.scope scope own)
    (hg : ∀ (s : Shared) (H : Hp) (C : Addr) (cl : List (Str × Addr)) (fp : List Addr), PG (X.blk s H scope (compEnvC scope cl C X.env) fp) tg g) (ht : ∀ (s : Shared) (H : Hp) (C : Addr) (cl : List (Str × Addr)) (fp : List Addr), PTs (X.blk s H scope (compEnvC scope cl C X.env) fp) ifs tt)
    (he : ∀ (s : Shared) (H : Hp) (C : Addr) (cl : List (Str × Addr)) (fp : List Addr), PE (X.blk s H scope (compEnvC scope cl C X.env) fp) elt te) (hvs : own.map (·.2) = vs := by rfl) (hs : ∀ x, foldedSetIterable iter X.env x = pure x := by intro _; rfl) :
    PS X (.Assign [.Name y py] (.ListComp elt [⟨tg, iter, ifs, 0⟩] scope pos) spos) (tAsg (mLcW wi' g tt te vs) (gName i)) :=
  ps_weak (ps_setLc hc hN hy hyl hsw hi ok (fun s H C cl fp => pg_c (hg s H C cl fp)) (fun s H C cl fp => pts_c (ht s H C cl fp)) (fun s H C cl fp => pe_c (he s H C cl fp)) hs) fun _ _ _ q => by
    rw [hvs]
    exact lcW_of hw q
end
/-! ### its walks: a list, a range -/
theorem rd_lcW {wi : TI} {g : TG} {tt : TT} {te : TE} {vs : List Nat} {σ : L2.St} {H : Hp} {Q : VK} (h : wi σ H fun J H1 => LcWP J g tt te vs σ Q H1) : mLcW wi g tt te vs σ H Q := by
  unfold mLcW
  exact h
section
variable {K : PySem.W.Frag} {g : TG} {tt : TT} {te : TE} {vs : List Nat} {σ : L2.St} {H1 : Hp} {Q : VK}
theorem wl_list {a : Addr} (xs : List V) (hn : xs.length ≤ 100000) (r : ∀ D, H1 D = none → ∃ Pv : Nat → List V → Hp → Prop, Pv 0 [] (upd H1 D (.lst [])) ∧
    (∀ i acc H', i ≤ xs.length → acc.length ≤ i → H' D = some (.lst acc) → Pv i acc H' → SqL K H' a xs) ∧
    (∀ i acc x H', xs[i]? = some x → acc.length ≤ i → H' D = some (.lst acc) → Pv i acc H' → g x (wipe σ vs) H' fun σ2 H2 => wipe σ2 vs = wipe σ vs ∧ tt σ2 H2 fun b H3 => Br b (te σ2 H3 fun y H4 => LcWT D acc (Pv (i + 1)) y H4) (LcWS D acc (Pv (i + 1)) H3)) ∧
    ∀ acc H', acc.length ≤ xs.length → H' D = some (.lst acc) → Pv xs.length acc H' → Q (.ref D) H') :
    LcWP (Itl K a) g tt te vs σ Q H1 := by
  unfold LcWP
  refine ⟨xs.length, _, _, walk_list (K := K) (a := a) (xs := xs), hn, fun D hD => ?_⟩
  obtain ⟨Pv, h0, hG, ht, hq⟩ := r D hD
  refine ⟨Pv, h0, hG, fun i acc x H' H'' hi h1 h2 h3 y => ?_, hq⟩
  obtain ⟨rfl, hx2⟩ := y
  exact ht i acc x _ hx2 h1 h2 h3
/-- for x in range(lo, ..), n turns -/
theorem wl_rng {lo : Int} {n : Nat} (hn : n ≤ 100000) (r : ∀ D, H1 D = none → ∃ Pv : Nat → List V → Hp → Prop, Pv 0 [] (upd H1 D (.lst [])) ∧
    (∀ (i : Nat) acc H', i < n → acc.length ≤ i → H' D = some (.lst acc) → Pv i acc H' → g (.int (lo + (i : Nat))) (wipe σ vs) H' fun σ2 H2 => wipe σ2 vs = wipe σ vs ∧ tt σ2 H2 fun b H3 => Br b (te σ2 H3 fun y H4 => LcWT D acc (Pv (i + 1)) y H4) (LcWS D acc (Pv (i + 1)) H3)) ∧
    ∀ acc H', acc.length ≤ n → H' D = some (.lst acc) → Pv n acc H' → Q (.ref D) H') :
    LcWP (Itr lo n) g tt te vs σ Q H1 := by
  unfold LcWP
  refine ⟨n, _, _, walk_range (lo := lo) (n := n), hn, fun D hD => ?_⟩
  obtain ⟨Pv, h0, ht, hq⟩ := r D hD
  refine ⟨Pv, h0, fun _ _ _ _ _ _ _ => trivial, fun i acc x H' H'' hi h1 h2 h3 y => ?_, hq⟩
  obtain ⟨rfl, rfl⟩ := y
  exact ht i acc _ hi h1 h2 h3
end
/-! ### lists of lists of whole numbers -/
inductive LLs (H : Hp) : List Addr → List (List Int) → Prop
  | nil : LLs H [] []
  | cons {p : Addr} {ps : List Addr} {x : List Int} {r : List (List Int)} (h : H p = some (.lst (x.map V.int))) (t : LLs H ps r) : LLs H (p :: ps) (x :: r)
section
variable {H H' : Hp} {ps : List Addr} {xss : List (List Int)} {p : Addr} {x : List Int}
theorem LLs.mono (h : LLs H ps xss) (s : Same H H') : LLs H' ps xss := by
  induction h with
  | nil => exact .nil
  | cons h _ ih => exact .cons (s _ _ h) ih
/-- where only the addresses told stay as they were -/
theorem LLs.stay (h : LLs H ps xss) (s : ∀ p ∈ ps, H' p = H p) : LLs H' ps xss := by
  induction h with
  | nil => exact .nil
  | cons h _ ih => exact .cons ((s _ List.mem_cons_self).trans h) (ih fun p hp => s p (List.mem_cons_of_mem _ hp))
theorem LLs.snoc (h : LLs H ps xss) (e : H p = some (.lst (x.map V.int))) : LLs H (ps ++ [p]) (xss ++ [x]) := by
  induction h with
  | nil => exact .cons e .nil
  | cons h _ ih => exact .cons h ih
theorem LLs.len (h : LLs H ps xss) : ps.length = xss.length := by
  induction h with
  | nil => rfl
  | cons _ _ ih => rw [List.length_cons, List.length_cons, ih]
theorem LLs.at (h : LLs H ps xss) {i : Nat} (hp : ps[i]? = some p) : ∃ x, xss[i]? = some x ∧ H p = some (.lst (x.map V.int)) := by
  induction h generalizing i with
  | nil => cases hp
  | cons h _ ih =>
    cases i with
    | zero => exact ⟨_, rfl, (Option.some.inj hp) ▸ h⟩
    | succ i => exact ih hp
theorem LLs.mem (h : LLs H ps xss) (hp : p ∈ ps) : ∃ x ∈ xss, H p = some (.lst (x.map V.int)) := by
  obtain ⟨i, hi⟩ := List.getElem?_of_mem hp
  obtain ⟨x, h1, h2⟩ := h.at hi
  exact ⟨x, List.mem_of_getElem? h1, h2⟩
theorem LLs.take (h : LLs H ps xss) (n : Nat) : LLs H (ps.take n) (xss.take n) := by
  induction h generalizing n with
  | nil => rw [List.take_nil, List.take_nil]; exact .nil
  | cons h _ ih =>
    cases n with
    | zero => exact .nil
    | succ n => exact .cons h (ih n)
theorem LLs.drop (h : LLs H ps xss) (n : Nat) : LLs H (ps.drop n) (xss.drop n) := by
  induction h generalizing n with
  | nil => rw [List.drop_nil, List.drop_nil]; exact .nil
  | cons h t ih =>
    cases n with
    | zero => exact .cons h t
    | succ n => exact ih n
theorem LLs.app {qs : List Addr} {yss : List (List Int)} (h : LLs H ps xss) (k : LLs H qs yss) : LLs H (ps ++ qs) (xss ++ yss) := by
  induction h with
  | nil => exact k
  | cons h _ ih => exact .cons h ih
theorem LLs.dps {K : PySem.W.Frag} (h : LLs H ps xss) : DpAll K H (ps.map V.ref) (xss.map fun l => PyData.list (l.map PyData.int)) := by
  induction h with
  | nil => exact .nil
  | cons h _ ih => exact .cons (dp_ints (sq_of h)) ih
theorem dp_lls {K : PySem.W.Frag} {a : Addr} (ha : SqL K H a (ps.map V.ref)) (h : LLs H ps xss) : Dp K H (.ref a) (.list (xss.map fun l => PyData.list (l.map PyData.int))) := .lst ha h.dps
end
def llD (xss : List (List Int)) : PyData := .list (xss.map fun l => PyData.list (l.map PyData.int))
theorem sh_lls {n : Nat} (xss : List (List Int)) : Sh (n + 2) (llD xss) := sh_lst (sh_map (fun l => sh_lst (sh_ints l)) xss)
theorem eqvLL : ∀ xss yss : List (List Int), PyData.eqvAll (xss.map fun l => PyData.list (l.map PyData.int)) (yss.map fun l => PyData.list (l.map PyData.int)) = decide (xss = yss)
  | [], [] => rfl
  | [], _ :: _ => rfl
  | _ :: _, [] => rfl
  | x :: xs, y :: ys => by
    show ((PyData.eqv (.list (x.map PyData.int)) (.list (y.map PyData.int))) && PyData.eqvAll (xs.map fun l => PyData.list (l.map PyData.int)) (ys.map fun l => PyData.list (l.map PyData.int))) = _
    rw [eqvLL xs ys]
    have e : PyData.eqv (.list (x.map PyData.int)) (.list (y.map PyData.int)) = decide (x = y) := eqvAll_ints x y
    rw [e]
    by_cases h1 : x = y
    · by_cases h2 : xs = ys
      · rw [decide_eq_true h1, decide_eq_true h2, h1, h2]
        exact (decide_eq_true rfl).symm
      · rw [decide_eq_false h2, Bool.and_false]
        exact (decide_eq_false fun z => h2 (List.cons.inj z).2).symm
    · rw [decide_eq_false h1, Bool.false_and]
      exact (decide_eq_false fun z => h1 (List.cons.inj z).1).symm
theorem eqv_llD (xss yss : List (List Int)) : PyData.eqv (llD xss) (llD yss) = decide (xss = yss) := eqvLL xss yss
section
variable {K : PySem.W.Frag} {H : Hp} {Q : VK} {a b : Addr} {ps qs : List Addr} {xss yss : List (List Int)}
theorem rd_eqLL (h1 : SqL K H a (ps.map V.ref)) (l1 : LLs H ps xss) (h2 : SqL K H b (qs.map V.ref)) (l2 : LLs H qs yss) (h : Q (.bl (decide (xss = yss))) H) : mEqD K (.ref a) (.ref b) H Q :=
  rd_eqA (n := 2) (m := 2) (llD xss) (llD yss) (dp_lls h1 l1) (dp_lls h2 l2) (sh_lls _) (sh_lls _) (by rw [eqv_llD]; exact h)
theorem rd_neLL (h1 : SqL K H a (ps.map V.ref)) (l1 : LLs H ps xss) (h2 : SqL K H b (qs.map V.ref)) (l2 : LLs H qs yss) (h : Q (.bl (!decide (xss = yss))) H) : mNeD K (.ref a) (.ref b) H Q :=
  rd_neA (n := 2) (m := 2) (llD xss) (llD yss) (dp_lls h1 l1) (dp_lls h2 l2) (sh_lls _) (sh_lls _) (by rw [eqv_llD]; exact h)
end
/-! ### [list(x) for x in xs], each a copy of its own -/
/-- the new list at D, the copies at qs -/
structure Cpy (H1 : Hp) (D : Addr) (qs : List Addr) (xss : List (List Int)) (H' : Hp) : Prop where
  sm : Same H1 H'
  at' : H' D = some (.lst (qs.map V.ref))
  ls : LLs H' qs xss
  fr : ∀ q ∈ qs, H1 q = none ∧ q ≠ D
  nd : qs.Nodup
theorem Cpy.next {H1 H' H'' : Hp} {D p : Addr} {qs : List Addr} {xss : List (List Int)} {x : List Int} (w : Cpy H1 D qs xss H') (hD : H1 D = none) (np : H' p = none) (s : Same H' H'') (e : H'' p = some (.lst (x.map V.int))) :
    Cpy H1 D (qs ++ [p]) (xss ++ [x]) (upd H'' D (.lst (qs.map V.ref ++ [.ref p]))) := by
  have hpD : p ≠ D := fun z => by
    rw [z, w.at'] at np
    cases np
  have hin : ∀ q ∈ qs, q ≠ p := fun q hq z => by
    obtain ⟨y, _, hy⟩ := w.ls.mem hq
    rw [z, np] at hy
    cases hy
  refine ⟨same_mut (w.sm.trans s) hD, ?_, ?_, fun q hq => ?_, ?_⟩
  · rw [upd_same, List.map_append]
    rfl
  · refine LLs.snoc ((w.ls.mono s).stay fun q hq => upd_ne (w.fr q hq).2) ?_
    rw [upd_ne hpD]
    exact e
  · rcases List.mem_append.mp hq with h | h
    · exact w.fr q h
    · rw [List.mem_singleton.mp h]
      exact ⟨same_none w.sm np, hpD⟩
  · refine List.nodup_append.mpr ⟨w.nd, List.nodup_cons.mpr ⟨fun h => (nomatch h), List.nodup_nil⟩, fun q hq r hr => ?_⟩
    rw [List.mem_singleton.mp hr]
    exact hin q hq
def cpOf (te : TE) (σ : L2.St) (H : Hp) (x : List Int) : Prop := ∀ (H' : Hp) (R : VK), Same H H' → NewO (.lst (x.map V.int)) H' R → te σ H' R
theorem wl_copy {K : PySem.W.Frag} {j : Nat} {te : TE} {σ : L2.St} {H1 : Hp} {Q : VK} {a : Addr} (xs : List V) (xss : List (List Int)) (hx : SqL K H1 a xs) (hl : xs.length = xss.length) (hn : xs.length ≤ 100000)
    (ht : ∀ (i : Nat) (y : V) (x : List Int), xs[i]? = some y → xss[i]? = some x → cpOf te ((wipe σ [j]).set j (some y)) H1 x) (hq : ∀ D qs H', H1 D = none → Cpy H1 D qs xss H' → Q (.ref D) H') :
    LcWP (Itl K a) (gName j) tYes te [j] σ Q H1 := by
  refine wl_list xs hn fun D hD => ⟨fun i acc H' => ∃ qs, acc = qs.map V.ref ∧ Cpy H1 D qs (xss.take i) H', ⟨[], rfl, same_upd hD, upd_same, .nil, fun q hq => (nomatch hq), List.nodup_nil⟩, fun i acc H' _ _ _ p => ?_, fun i acc y H' hi ha h2 p => ?_, fun acc H' ha h2 p => ?_⟩
  · obtain ⟨qs, rfl, p⟩ := p
    exact p.sm.seq hx
  · obtain ⟨qs, rfl, p⟩ := p
    have hi2 : i < xss.length := by
      have := (List.getElem?_eq_some_iff.mp hi).1
      omega
    have hi3 : xss[i]? = some xss[i] := List.getElem?_eq_getElem hi2
    show _ ∧ _
    refine ⟨wipe_set rfl, ?_⟩
    show Br true _ _
    refine br_T (ht i y _ hi hi3 H' _ p.sm fun q H'' nq s eq => ?_)
    refine ⟨s _ _ h2, qs ++ [q], by rw [List.map_append]; rfl, ?_⟩
    rw [take_snoc hi3]
    exact p.next hD nq s eq
  · obtain ⟨qs, rfl, p⟩ := p
    rw [hl, List.take_length] at p
    exact hq D qs H' hD p
/-! ### xs[lo:hi] = ys, the bounds left out or whole numbers -/
section
open PySem.Spec PyProof.Rows
theorem spl_arr (u v : List Value) (a c : Nat) : u.toArray.extract 0 a ++ v.toArray ++ u.toArray.extract c u.toArray.size = (u.take a ++ v ++ u.drop c).toArray := by
  apply Array.toList_inj.mp
  simp [List.take_of_length_le]
theorem setSl_at {prog : Program} {w : World} {A : Around} {E : Value → Shared → Prop} {s : Shared} {l b g : Addr} {us vs : Array Value} {n n2 : Nat} {v1 v2 : Value} {lo hi : Option Int} {Q : Unit → Shared → Prop}
    (hus : s.heap.get? l = some { cls := .type "list", data := .seq us n }) (hvs : s.heap.get? b = some { cls := .type "list", data := .seq vs n2 }) (hlb : l ≠ b)
    (hg : s.heap.IsSliceOf g v1 v2 .none) (p1 : IsPart v1 lo) (p2 : IsPart v2 hi) (hz : us.size + vs.size ≤ sizeLine)
    (k : Q () { s with heap := s.heap.update l (Obj.mapSeq fun xs => xs.extract 0 (PySem.W.kms_lo lo us.size) ++ vs ++ xs.extract (max (PySem.W.kms_lo lo us.size) (PySem.W.kms_hi hi us.size)) xs.size) }) :
    wpAny (model prog w) A (setItem (.ref l) (.ref g) (.ref b)) Q E s := by
  have tl : s.heap.IsList l us := PySem.IsL.isList hus
  have tb : s.heap.IsList b vs := PySem.IsL.isList hvs
  obtain ⟨og, hog, hgc, hgd⟩ := id hg
  have tg : s.TypeIs (.ref g) "slice" := ⟨og, hog, hgc⟩
  have hne : Builtin.List.listSameRef (.ref l) (.ref b) = false := by
    unfold Builtin.List.listSameRef
    exact beq_eq_false_iff_ne.mpr hlb
  have mx : ∀ a c : Nat, (max (a : Int) (c : Int)).toNat = max a c := fun a c => by omega
  generalize ha : PySem.W.kms_lo lo us.size = a at k
  generalize hc : PySem.W.kms_hi hi us.size = c at k
  have hb : sliceBounds lo hi none us.size = ((a : Int), (c : Int), 1) := by
    rw [← ha, ← hc]
    exact PySem.W.kms_bounds lo hi us.size
  have ham : a ≤ us.size := by
    rw [← ha]
    unfold PySem.W.kms_lo
    cases lo with
    | none => exact Nat.zero_le _
    | some x =>
      show (if x < 0 then us.size - (-x).toNat else min x.toNat us.size) ≤ us.size
      split <;> omega
  have hz2 : ((fun xs : Array Value => xs.extract 0 a ++ vs ++ xs.extract (max a c) xs.size) us).size ≤ sizeLine + 1 := by
    show (us.extract 0 a ++ vs ++ us.extract (max a c) us.size).size ≤ _
    rw [Array.size_append, Array.size_append, Array.size_extract, Array.size_extract]
    omega
  unfold setItem
  (try with_reducible refine wpAny_holding ?_)
  refine wpAny_bind (wpAny_sequenceKey tl.typeIs (by decide) ?_)
  refine wpAny_bind (wpAny_callSpecial?_slot (name := Str.ofString "__setitem__") tl.typeIs slot_list_setitem (wpAny_call_entry slot_list_setitem tl.typeIs entry_list_setitem ?_ (args_list_setitem _ _ _)))
  show wpAny _ _ (Builtin.List.listSubscript? (.ref g) >>= _) _ _ s
  refine wpAny_bind ?_
  unfold Builtin.List.listSubscript?
  refine wpAny_bind (wpAny_specialOf tg slice_no_index ?_)
  rw [if_pos (show (none : Option Value).isNone = true from rfl)]
  refine wpAny_pure ?_
  show wpAny _ _ (typeOf (.ref g) >>= _) _ _ s
  refine wpAny_bind (wpAny_typeOf tg ?_)
  rw [if_neg (by decide), listSliceParts_eq]
  refine wpAny_bind (wpAny_bind (wpAny_field hog hgd (x := .none) rfl (wpAny_bind (wpAny_listPart .none ?_))))
  rw [if_neg (show ¬ (rawPart none == rawInt 0) = true from Bool.false_ne_true)]
  refine wpAny_bind (wpAny_field hog hgd (x := v1) rfl (wpAny_bind (wpAny_listPart p1 ?_)))
  refine wpAny_bind (wpAny_field hog hgd (x := v2) rfl (wpAny_bind (wpAny_listPart p2 (wpAny_pure ?_))))
  refine PySem.W.KFB.if_not hne ?_
  refine wpAny_bind (m := Builtin.List.listAllItems (.ref b) "must assign iterable to extended slice") ?_
  unfold Builtin.List.listAllItems
  refine wpAny_bind (wpAny_typeOf tb.typeIs ?_)
  refine PySem.W.KFB.if_so (by decide) ?_
  unfold Builtin.List.listItems
  refine wpAny_bind (wpAny_seqItems hvs rfl (wpAny_pure ?_))
  refine wpAny_bind (wpAny_bind (wpAny_seqItems hus rfl (wpAny_pure ?_)))
  refine wpAny_bind (wpAny_of_eq ((sliceIndices_raw lo hi none us.size (by simp)).trans (congrArg (pure : Int × Int × Int → Sem (Int × Int × Int)) hb)) ?_)
  show wpAny _ _ (if ((1 : Int) == 1) = true then _ else _) _ _ s
  rw [if_pos (by decide)]
  refine wpAny_bind (wpAny_rule ?_)
  refine PySem.W.KFB.if_not (notLongL hz) ?_
  try refine wpAny_bind (wpAny_pure ?_)
  show wpAny _ _ (updateSeq l (fun xs => xs.extract 0 ((a : Int)).toNat ++ vs ++ xs.extract (max (a : Int) (c : Int)).toNat xs.size) >>= _) _ _ s
  rw [mx, Int.toNat_natCast]
  refine wpAny_bind (wpAny_updateSeq (hz := Nat.le_trans (Nat.le_add_right _ _) hz) (_hz' := hz2) hus rfl ?_)
  refine wpAny_bind (wpAny_letGo ?_)
  first
    | exact wpAny_pure ⟨.none, rfl, wpAny_pure k⟩
    | exact wpAny_bind (wpAny_pure (wpAny_pure ⟨.none, rfl, wpAny_pure k⟩))
/-- what becomes of a list -/
def splV (xs ys : List V) (lo hi : Option Int) : List V := xs.take (PySem.W.kms_lo lo xs.length) ++ ys ++ xs.drop (max (PySem.W.kms_lo lo xs.length) (PySem.W.kms_hi hi xs.length))
@[irreducible] def mSetSl (o : V) (lo hi : Option Int) (v : V) (H : Hp) (Q : Hp → Prop) : Prop := ∃ l b xs ys, o = .ref l ∧ v = .ref b ∧ H l = some (.lst xs) ∧ H b = some (.lst ys) ∧ l ≠ b ∧ xs.length + ys.length ≤ 1000000 ∧ Q (upd H l (.lst (splV xs ys lo hi)))
theorem rd_setSl {l b : Addr} {xs ys : List V} {lo hi : Option Int} {H : Hp} {Q : Hp → Prop} (h1 : H l = some (.lst xs)) (h2 : H b = some (.lst ys)) (h3 : l ≠ b) (hz : xs.length + ys.length ≤ 1000000) (q : Q (upd H l (.lst (splV xs ys lo hi)))) : mSetSl (.ref l) lo hi (.ref b) H Q := by
  unfold mSetSl
  exact ⟨l, b, xs, ys, rfl, rfl, h1, h2, h3, hz, q⟩
def gSl (to : TE) (tl th : TO) : TG := fun v σ H Q => to σ H fun o H1 => tl σ H1 fun lo H2 => th σ H2 fun hi H3 => mSetSl o lo hi v H3 fun H4 => Q σ H4
theorem pg_sl {X : Cx} {o : Expr} {lo hi : Option Expr} {to : TE} {tl th : TO} {pos p2 : Pos} (ho : PE X o to) (hl : PO X lo tl) (hu : PO X hi th)
    (ha : ∀ v, assign (.Subscript o (.Slice lo hi none p2) pos) X.env v = (do
      let a ← holding [v] (eval o X.env)
      let b ← holding [v, a] (eval (.Slice lo hi none p2) X.env)
      standAt pos
      holding [v, a, b] (setItem a b v)
      release [b, v, a] []) := by intro _; rfl) : PG X (.Subscript o (.Slice lo hi none p2) pos) (gSl to tl th) := by
  refine ⟨fun pins s σ H v u Q I r h => ?_⟩
  rw [ha]
  refine wpAny_bind (wpAny_holding (thn (ho.run pins s σ H _ I h) fun ov s1 ⟨x, H1, I1, r1, q1⟩ => ?_))
  refine wpAny_bind (wpAny_holding (wpAny_Slice (thn (hl.run pins s1 σ H1 _ I1 q1) fun vl s2 ⟨lo', H2, I2, pl, q2⟩ => thn (hu.run pins s2 σ H2 _ I2 q2) fun vu s3 ⟨hi', H3, I3, pu, q3⟩ => ?_)))
  rw [evalPart_none]
  refine wpAny_pure ?_
  unfold mSetSl at q3
  obtain ⟨l, b, xs, ys, rfl, rfl, h1, h2, h3, hz, q⟩ := q3
  have I4 : Inv X pins σ H3 { s3 with heap := s3.heap.push { cls := .type "slice", data := .fields #[vl, vu, .none] } } := I3.kept (t' := s3.toks) fun b ob q => Heap.get?_push_of_some _ q
  cases r1
  cases r
  obtain ⟨z, its, n, rv, hl1, e1⟩ := I4.lstM h1
  obtain ⟨z2, its2, n2, rv2, hl2, e2⟩ := I4.lstM h2
  have hn1 : its.toArray.size = xs.length := by rw [List.size_toArray]; exact rv.length.symm
  have hn2 : its2.toArray.size = ys.length := by rw [List.size_toArray]; exact rv2.length.symm
  refine wpAny_bind (wpAny_standAt (wpAny_bind (wpAny_holding ?_)))
  refine setSl_at e1 e2 h3 (Heap.IsSliceOf.new ..) pl pu (by rw [hn1, hn2]; exact sz hz) ?_
  rw [hn1]
  refine wpAny_release ⟨σ, _, I4.lset (its' := its.take (PySem.W.kms_lo lo' xs.length) ++ its2 ++ its.drop (max (PySem.W.kms_lo lo' xs.length) (PySem.W.kms_hi hi' xs.length))) (t' := s3.toks) h1 e1 ?_ (Vals.append (Vals.append (rv.take _) rv2) (rv.drop _)) ?_, q⟩
  · exact spl_arr its its2 _ _
  · have e3 := List.length_take_le (PySem.W.kms_lo lo' xs.length) xs
    refine sz ?_
    rw [List.length_append, List.length_append, List.length_take, List.length_drop]
    omega
end
theorem splV_all (xs ys : List V) : splV xs ys none none = ys := by
  show xs.take 0 ++ ys ++ xs.drop (max 0 xs.length) = ys
  rw [Nat.zero_max, List.drop_length, List.take_zero, List.append_nil, List.nil_append]
theorem splV_to (xs ys : List V) {k : Int} (h : 0 ≤ k) : splV xs ys none (some k) = ys ++ xs.drop k.toNat := by
  have e : PySem.W.kms_hi (some k) xs.length = min k.toNat xs.length := by
    show (if k < 0 then _ else _) = _
    rw [if_neg (by omega)]
  show xs.take 0 ++ ys ++ xs.drop (max 0 (PySem.W.kms_hi (some k) xs.length)) = _
  rw [e, Nat.zero_max, List.take_zero, List.nil_append]
  by_cases h2 : k.toNat ≤ xs.length
  · rw [Nat.min_eq_left h2]
  · rw [Nat.min_eq_right (by omega), List.drop_length, List.drop_of_length_le (by omega)]
/-- objects that came with the last step join what stays -/
theorem Own.adopt2 {S B0 B H : Hp} {as : List Addr} {l : List (Addr × HO)} (w : Own S B0 as B l H) (ps : List Addr) (hp : ∀ p ∈ ps, S p = none ∧ H p ≠ none ∧ p ∉ l.map Prod.fst) : ∃ B', Same B B' ∧ (∀ p ∈ ps, B' p = H p) ∧ Own S B0 as B' l H := by
  have sb : Same B (fun b => if b ∈ ps then H b else B b) := fun b o h => by
    show (if b ∈ ps then H b else B b) = some o
    split
    · exact w.c.imm _ _ h
    · exact h
  refine ⟨fun b => if b ∈ ps then H b else B b, sb, fun p h => if_pos h, ⟨w.c.cell, w.c.nd, fun b u h => ?_, fun a u h => ?_⟩, w.kept, w.own, w.grow.trans sb, fun b h k => ?_, w.there⟩
  · have h2 : (if b ∈ ps then H b else B b) = some u := h
    split at h2
    · exact h2
    · exact w.c.imm _ _ h2
  · show (if a ∈ ps then H a else B a) = none
    rw [if_neg (fun z => (hp a z).2.2 (mem_fst h))]
    exact w.c.dis a u h
  · by_cases hb : b ∈ ps
    · exact (hp b hb).1
    · have k2 : (if b ∈ ps then H b else B b) ≠ none := k
      rw [if_neg hb] at k2
      exact w.new b h k2
/-- a list of copies: it is a cell, the copies stay -/
theorem Own.cpy {S B0 B H H' : Hp} {as : List Addr} {l : List (Addr × HO)} {D : Addr} {qs : List Addr} {xss : List (List Int)} (w : Own S B0 as B l H) (hD : H D = none) (c : Cpy H D qs xss H') :
    ∃ B', Same B B' ∧ LLs B' qs xss ∧ Own S B0 as B' ((D, .lst (qs.map V.ref)) :: l) H' := by
  have w1 := w.add hD c.sm c.at'
  obtain ⟨B', s, e, w2⟩ := w1.adopt2 qs fun p hp => by
    refine ⟨(w.frS (c.fr p hp).1).1, ?_, fun h => ?_⟩
    · obtain ⟨x, _, hx⟩ := c.ls.mem hp
      rw [hx]
      exact fun z => (nomatch z)
    · rcases List.mem_cons.mp h with h | h
      · exact (c.fr p hp).2 h
      · obtain ⟨o, h⟩ := fst_mem h
        exact w.notin (c.fr p hp).1 h
  exact ⟨B', s, c.ls.stay e, w2⟩
/-- a list of copies, all of it stays -/
theorem Own.cpyR {S B0 B H H' : Hp} {as : List Addr} {l : List (Addr × HO)} {D : Addr} {qs : List Addr} {xss : List (List Int)} (w : Own S B0 as B l H) (hD : H D = none) (c : Cpy H D qs xss H') :
    ∃ B', Same B B' ∧ LLs B' qs xss ∧ B' D = some (.lst (qs.map V.ref)) ∧ Own S B0 as B' l H' := by
  obtain ⟨B', s, h, w2⟩ := w.cpy hD c
  obtain ⟨B2, s2, e2, w3⟩ := w2.ice (w.frS hD).1
  exact ⟨B2, s.trans s2, h.mono s2, e2, w3⟩
/-- [e for x in xs], each element a value, the heap grown at most -/
theorem wl_vals {K : PySem.W.Frag} {j : Nat} {te : TE} {σ : L2.St} {H1 : Hp} {Q : VK} {a : Addr} (xs : List V) (f : Nat → V) (hx : SqL K H1 a xs) (hn : xs.length ≤ 100000)
    (ht : ∀ (i : Nat) (y : V), xs[i]? = some y → ∀ (H' : Hp) (R : VK), Same H1 H' → (∀ H'', Same H' H'' → R (f i) H'') → te ((wipe σ [j]).set j (some y)) H' R) (hq : NewO (.lst ((List.range xs.length).map f)) H1 Q) :
    LcWP (Itl K a) (gName j) tYes te [j] σ Q H1 := by
  refine wl_list xs hn fun D hD => ⟨fun i acc H' => acc = (List.range i).map f ∧ Same H1 H', ⟨rfl, same_upd hD⟩, fun i acc H' _ _ _ p => p.2.seq hx, fun i acc y H' hi ha h2 p => ?_, fun acc H' ha h2 p => ?_⟩
  · obtain ⟨rfl, p⟩ := p
    show _ ∧ _
    refine ⟨wipe_set rfl, ?_⟩
    show Br true _ _
    refine br_T (ht i y hi H' _ p fun H'' s => ⟨s _ _ h2, ?_, same_mut (p.trans s) hD⟩)
    rw [List.range_succ, List.map_append]
    rfl
  · obtain ⟨rfl, p⟩ := p
    exact hq D H' hD p h2
section
variable {X : Cx} {K : PySem.W.Frag}
theorem call_listK (h : X.K = K) : CallR X (.type "list") (mListOf K) := h ▸ call_listM
theorem sl_listK (h : X.K = K) : SlR X (mSlL K) := h ▸ sl_listM
theorem call_tupOfK (h : X.K = K) : CallR X (.type "tuple") (mTupOf K) := h ▸ call_tupOfM
end
theorem snocI (ns : List Int) (n : Int) : ns.map V.int ++ [V.int n] = (ns ++ [n]).map V.int := by
  rw [List.map_append]
  rfl
theorem snocR (ns : List Addr) (n : Addr) : ns.map V.ref ++ [V.ref n] = (ns ++ [n]).map V.ref := by
  rw [List.map_append]
  rfl
/-- a name is set: the frame as it stands then -/
theorem frG {i : Nat} {v : V} {σ σ' : L2.St} {H : Hp} {D : L2.St → Hp → Prop} (e : σ.set i (some v) = σ') (h : D σ' H) : gName i v σ H D := by
  subst e
  exact h
/-! ### lists of new tuples -/
inductive TLs (H : Hp) : List Addr → List (List V) → Prop
  | nil : TLs H [] []
  | cons {p : Addr} {ps : List Addr} {x : List V} {r : List (List V)} (h : H p = some (.tup x)) (t : TLs H ps r) : TLs H (p :: ps) (x :: r)
section
variable {H H' : Hp} {ps : List Addr} {xs : List (List V)} {p : Addr} {x : List V}
theorem TLs.mono (h : TLs H ps xs) (s : Same H H') : TLs H' ps xs := by
  induction h with
  | nil => exact .nil
  | cons h _ ih => exact .cons (s _ _ h) ih
theorem TLs.stay (h : TLs H ps xs) (s : ∀ p ∈ ps, H' p = H p) : TLs H' ps xs := by
  induction h with
  | nil => exact .nil
  | cons h _ ih => exact .cons ((s _ List.mem_cons_self).trans h) (ih fun p hp => s p (List.mem_cons_of_mem _ hp))
theorem TLs.snoc (h : TLs H ps xs) (e : H p = some (.tup x)) : TLs H (ps ++ [p]) (xs ++ [x]) := by
  induction h with
  | nil => exact .cons e .nil
  | cons h _ ih => exact .cons h ih
theorem TLs.len (h : TLs H ps xs) : ps.length = xs.length := by
  induction h with
  | nil => rfl
  | cons _ _ ih => rw [List.length_cons, List.length_cons, ih]
theorem TLs.mem (h : TLs H ps xs) (hp : p ∈ ps) : ∃ x ∈ xs, H p = some (.tup x) := by
  induction h with
  | nil => cases hp
  | cons h _ ih =>
    rcases List.mem_cons.mp hp with e | z
    · rw [e]
      exact ⟨_, .head _, h⟩
    · obtain ⟨y, h1, h2⟩ := ih z
      exact ⟨y, .tail _ h1, h2⟩
theorem TLs.at (h : TLs H ps xs) {i : Nat} (hp : ps[i]? = some p) : ∃ x, xs[i]? = some x ∧ H p = some (.tup x) := by
  induction h generalizing i with
  | nil => cases hp
  | cons h _ ih =>
    cases i with
    | zero => exact ⟨_, rfl, (Option.some.inj hp) ▸ h⟩
    | succ i => exact ih hp
theorem TLs.app {qs : List Addr} {ys : List (List V)} (h : TLs H ps xs) (k : TLs H qs ys) : TLs H (ps ++ qs) (xs ++ ys) := by
  induction h with
  | nil => exact k
  | cons h _ ih => exact .cons h ih
end
structure NT (H1 : Hp) (D : Addr) (ps : List Addr) (xs : List (List V)) (H' : Hp) : Prop where
  sm : Same H1 H'
  at' : H' D = some (.lst (ps.map V.ref))
  ls : TLs H' ps xs
  fr : ∀ p ∈ ps, H1 p = none
theorem NT.start {H1 : Hp} {D : Addr} (hD : H1 D = none) : NT H1 D [] [] (upd H1 D (.lst [])) := ⟨same_upd hD, upd_same, .nil, fun p hp => (nomatch hp)⟩
theorem NT.next {H1 H' H2 : Hp} {D t : Addr} {ps : List Addr} {xs : List (List V)} {x : List V} (w : NT H1 D ps xs H') (hD : H1 D = none) (nt : H' t = none) (s : Same H' H2) (e : H2 t = some (.tup x)) :
    NT H1 D (ps ++ [t]) (xs ++ [x]) (upd H2 D (.lst (ps.map V.ref ++ [.ref t]))) := by
  have hD2 := s _ _ w.at'
  have htD : ∀ {q : Addr} {y : List V}, H2 q = some (.tup y) → q ≠ D := fun {q y} h z => by
    rw [z, hD2] at h
    cases h
  refine ⟨same_mut (w.sm.trans s) hD, ?_, ?_, fun y hy => ?_⟩
  · rw [upd_same, List.map_append]
    rfl
  · refine TLs.snoc ((w.ls.mono s).stay fun y hy => upd_ne ?_) ?_
    · obtain ⟨z, _, h⟩ := w.ls.mem hy
      exact htD (s _ _ h)
    · rw [upd_ne (htD e)]
      exact e
  · rcases List.mem_append.mp hy with h | h
    · exact w.fr y h
    · rw [List.mem_singleton.mp h]
      exact same_none w.sm nt
theorem NT.back {H0 H1 H' : Hp} {D : Addr} {ps : List Addr} {xs : List (List V)} (w : NT H1 D ps xs H') (s : Same H0 H1) : NT H0 D ps xs H' := ⟨s.trans w.sm, w.at', w.ls, fun p hp => same_none s (w.fr p hp)⟩
/-- all of a list of new tuples stays -/
theorem Own.nt {S B0 B H H' : Hp} {as : List Addr} {l : List (Addr × HO)} {D : Addr} {ps : List Addr} {xs : List (List V)} (w : Own S B0 as B l H) (hD : H D = none) (c : NT H D ps xs H') :
    ∃ B', Same B B' ∧ B' D = some (.lst (ps.map V.ref)) ∧ TLs B' ps xs ∧ Own S B0 as B' l H' := by
  obtain ⟨B', s, e, w2⟩ := (w.more c.sm).adopt2 (D :: ps) fun p hp => by
    have hn : H p = none ∧ H' p ≠ none := by
      rcases List.mem_cons.mp hp with h | h
      · rw [h]
        exact ⟨hD, by rw [c.at']; exact fun z => (nomatch z)⟩
      · obtain ⟨x, _, hx⟩ := c.ls.mem h
        exact ⟨c.fr p h, by rw [hx]; exact fun z => (nomatch z)⟩
    refine ⟨(w.frS hn.1).1, hn.2, fun h => ?_⟩
    obtain ⟨o, h⟩ := fst_mem h
    exact w.notin hn.1 h
  exact ⟨B', s, (e D (.head _)).trans c.at', c.ls.stay fun p hp => e p (.tail _ hp), w2⟩
/-- [(..) for x in xs]: the i-th tuple is f i -/
theorem wl_tups {K : PySem.W.Frag} {j : Nat} {te : TE} {σ : L2.St} {H1 : Hp} {Q : VK} {a : Addr} (xs : List V) (f : Nat → List V) (hx : SqL K H1 a xs) (hn : xs.length ≤ 100000)
    (ht : ∀ (i : Nat) (y : V), xs[i]? = some y → ∀ (H' : Hp) (R : VK), Same H1 H' → NewO (.tup (f i)) H' R → te ((wipe σ [j]).set j (some y)) H' R) (hq : ∀ D ps H', H1 D = none → NT H1 D ps ((List.range xs.length).map f) H' → Q (.ref D) H') :
    LcWP (Itl K a) (gName j) tYes te [j] σ Q H1 := by
  refine wl_list xs hn fun D hD => ⟨fun i acc H' => ∃ ps, acc = ps.map V.ref ∧ NT H1 D ps ((List.range i).map f) H', ⟨[], rfl, NT.start hD⟩, fun i acc H' _ _ _ p => ?_, fun i acc y H' hi ha h2 p => ?_, fun acc H' ha h2 p => ?_⟩
  · obtain ⟨ps, rfl, p⟩ := p
    exact p.sm.seq hx
  · obtain ⟨ps, rfl, p⟩ := p
    show _ ∧ _
    refine ⟨wipe_set rfl, ?_⟩
    show Br true _ _
    refine br_T (ht i y hi H' _ p.sm fun t H'' nt s e => ⟨s _ _ h2, ps ++ [t], by rw [List.map_append]; rfl, ?_⟩)
    rw [List.range_succ, List.map_append]
    exact p.next hD nt s e
  · obtain ⟨ps, rfl, p⟩ := p
    exact hq D ps H' hD p
/-! ### a comprehension over a dict, which is locked meanwhile -/
@[irreducible] def mLcD (i : Nat) (g : TG) (tt : TT) (te : TE) (vs : List Nat) : TE := tLockE (mLcW (iKeys fun σ H Q => ∃ v, σ[i]? = some (some v) ∧ Q v H) g tt te vs)
theorem pe_lcD {X : Cx} {tg it elt : Expr} {ifs : List Expr} {scope : Scope} {own : List (Str × Nat)} {g : TG} {tt : TT} {te : TE} {i : Nat} {pos : Pos} (vs : List Nat) (hc : X.calm = true) (hN : X.N.Nodup) (ha : PE X it (fun σ H Q => ∃ v, σ[i]? = some (some v) ∧ Q v H)) (ok : BlkOk X.N X.env.scope scope own)
    (hg : ∀ (s : Shared) (H : Hp) (C : Addr) (cl : List (Str × Addr)) (fp : List Addr), PG (X.blk s H scope (compEnvC scope cl C X.env) fp) tg g) (ht : ∀ (s : Shared) (H : Hp) (C : Addr) (cl : List (Str × Addr)) (fp : List Addr), PTs (X.blk s H scope (compEnvC scope cl C X.env) fp) ifs tt)
    (he : ∀ (s : Shared) (H : Hp) (C : Addr) (cl : List (Str × Addr)) (fp : List Addr), PE (X.blk s H scope (compEnvC scope cl C X.env) fp) elt te) (hvs : own.map (·.2) = vs := by rfl) (hs : ∀ x, foldedSetIterable it X.env x = pure x := by intro _; rfl) :
    PE X (.ListComp elt [⟨tg, it, ifs, 0⟩] scope pos) (mLcD i g tt te vs) :=
  pe_weak (pe_lock (pe_lcW vs im_keys hc hN (pi_keys (pe_c ha)) ok hg ht he hvs hs)) fun σ H Q q => by
    unfold mLcD at q
    exact q
/-- what the turns see: the dict to be read, all else that was there -/
structure DSee (d : Addr) (kvs : List (Key × V)) (H H' : Hp) : Prop where
  rd : Rd H' d (.dK kvs)
  but : ∀ b o, b ≠ d → H b = some o → H' b = some o
theorem DSee.more {d : Addr} {kvs : List (Key × V)} {H H' H2 : Hp} (w : DSee d kvs H H') (s : Same H' H2) : DSee d kvs H H2 := ⟨by
  rcases w.rd with h | ⟨o, h⟩
  · exact .inl (s _ _ h)
  · exact .inr ⟨o, s _ _ h⟩, fun b o hb h => s _ _ (w.but b o hb h)⟩
theorem rd_lcDT {i j : Nat} {tt : TT} {te : TE} {σ : L2.St} {H : Hp} {Q : VK} (d : Addr) (kvs : List (Key × V)) (ns : List Int) (keep : Int → Bool) (f : Int → List V) (h1 : σ[i]? = some (some (.ref d))) (h2 : H d = some (.dK kvs)) (h3 : kvs.map Prod.fst = ns.map Sum.inl) (h4 : ns.length ≤ 100000)
    (ht : ∀ n, n ∈ ns → ∀ (H' : Hp) (R : Bool → Hp → Prop), DSee d kvs H H' → (∀ H'', Same H' H'' → R (keep n) H'') → tt ((wipe σ [j]).set j (some (.int n))) H' R)
    (he : ∀ n, n ∈ ns → keep n = true → ∀ (H' : Hp) (R : VK), DSee d kvs H H' → NewO (.tup (f n)) H' R → te ((wipe σ [j]).set j (some (.int n))) H' R)
    (hq : ∀ D ps H', H D = none → NT H D ps ((ns.filter keep).map f) H' → Q (.ref D) H') : mLcD i (gName j) tt te [j] σ H Q := by
  unfold mLcD
  have hkl : kvs.length = ns.length := by
    have e := congrArg List.length h3
    rw [List.length_map, List.length_map] at e
    exact e
  refine ⟨d, .dK kvs, h2, trivial, fun od => ?_⟩
  unfold mLcW
  refine ⟨.ref d, h1, d, od, rfl, .inl ⟨kvs, upd_same, ?_⟩⟩
  have nd : ∀ {p : Addr}, (upd H d (.frz od (.dK kvs))) p = none → p ≠ d := fun z e => by
    rw [e, upd_same] at z
    cases z
  have see : ∀ {H'}, Same (upd H d (.frz od (.dK kvs))) H' → DSee d kvs H H' := fun s => ⟨.inr ⟨od, s _ _ upd_same⟩, fun b o hb h => s _ _ (by rw [upd_ne hb]; exact h)⟩
  unfold LcWP
  refine ⟨kvs.length, _, _, walk_keys (d := d) (o := od) (kvs := kvs), by omega, fun D hD => ⟨fun k acc H' => ∃ ps, acc = ps.map V.ref ∧ NT (upd H d (.frz od (.dK kvs))) D ps (((ns.take k).filter keep).map f) H', ⟨[], rfl, NT.start hD⟩, fun k acc H' _ _ _ p => ?_, fun k acc y H' H'' hk ha h5 p w => ?_, fun acc H' ha h5 p => ?_⟩⟩
  · obtain ⟨ps, rfl, p⟩ := p
    exact p.sm _ _ upd_same
  · obtain ⟨ps, rfl, p⟩ := p
    obtain ⟨rfl, ky, vy, hkv, rfl⟩ := w
    have hk2 : k < ns.length := by omega
    have hn : ns[k]? = some ns[k] := List.getElem?_eq_getElem hk2
    have ek : ky = Sum.inl ns[k] := by
      have z : (kvs.map Prod.fst)[k]? = (ns.map (Sum.inl (β := Str)))[k]? := by rw [h3]
      rw [List.getElem?_map, List.getElem?_map, hkv, hn] at z
      exact Option.some.inj z
    subst ek
    have hin : ns[k] ∈ ns := List.getElem_mem hk2
    show _ ∧ _
    refine ⟨wipe_set rfl, ?_⟩
    refine ht _ hin _ _ (see p.sm) fun H2 s2 => ?_
    have st : ns.take (k + 1) = ns.take k ++ [ns[k]] := take_snoc hn
    cases hb : keep ns[k] with
    | true =>
      refine br_T (he _ hin hb H2 _ (see (p.sm.trans s2)) fun t H3 nt s3 e3 => ⟨s3 _ _ (s2 _ _ h5), ps ++ [t], by rw [List.map_append]; rfl, ?_⟩)
      have p2 : NT (upd H d (.frz od (.dK kvs))) D ps (((ns.take k).filter keep).map f) H2 := ⟨p.sm.trans s2, s2 _ _ p.at', p.ls.mono s2, p.fr⟩
      have e4 : ((ns.take (k + 1)).filter keep).map f = ((ns.take k).filter keep).map f ++ [f ns[k]] := by
        rw [st, List.filter_append, List.map_append, List.filter_cons, if_pos hb]
        rfl
      rw [e4]
      exact p2.next hD nt s3 e3
    | false =>
      refine br_F ⟨s2 _ _ h5, ps, rfl, ?_⟩
      have e4 : ((ns.take (k + 1)).filter keep).map f = ((ns.take k).filter keep).map f := by
        rw [st, List.filter_append, List.filter_cons, if_neg (by rw [hb]; decide), List.filter_nil, List.append_nil]
      rw [e4]
      exact ⟨p.sm.trans s2, s2 _ _ p.at', p.ls.mono s2, p.fr⟩
  · obtain ⟨ps, rfl, p⟩ := p
    rw [hkl, List.take_length] at p
    have hDd : D ≠ d := nd hD
    have hps : ∀ q ∈ ps, q ≠ d := fun q hq => nd (p.fr q hq)
    refine ⟨p.sm _ _ upd_same, hq D ps _ (by rw [upd_ne hDd] at hD; exact hD) ⟨fun b o hb => ?_, ?_, ?_, fun q hq => ?_⟩⟩
    · by_cases hbd : b = d
      · subst hbd
        rw [upd_same]
        rw [h2] at hb
        exact hb
      · rw [upd_ne hbd]
        exact p.sm _ _ (by rw [upd_ne hbd]; exact hb)
    · rw [upd_ne hDd]
      exact p.at'
    · exact p.ls.stay fun q hq => upd_ne (hps q hq)
    · have := p.fr q hq
      rw [upd_ne (hps q hq)] at this
      exact this
/-- dict(ps), ps a list of pairs -/
@[irreducible] def mDictP (K : PySem.W.Frag) : List V → Hp → VK → Prop := fun xs H Q => ∃ (a : Addr) (ps : List Addr) (kvs : List (Key × V)), xs = [.ref a] ∧ SqL K H a (ps.map V.ref) ∧ Paired (fun p kv => SqT K H p [kV kv.1, kv.2]) ps kvs ∧ NewO (.dK (mergeK [] kvs)) H Q
theorem call_dictPM {X : Cx} (hc : X.calm = true) : CallR X (.type "dict") (mDictP X.K) := fun pins s σ H xs us Q I r q => call_dictP hc pins s σ H xs us Q I r (by
  unfold mDictP at q
  obtain ⟨a, ps, kvs, e, h1, h2, h3⟩ := q
  exact ⟨a, ps, kvs, e, h1, h2, h3.go⟩)
theorem paired_tls {K : PySem.W.Frag} {H : Hp} : ∀ {ps : List Addr} {kvs : List (Key × V)}, TLs H ps (kvs.map fun kv => [kV kv.1, kv.2]) → Paired (fun p kv => SqT K H p [kV kv.1, kv.2]) ps kvs
  | _, [], h => by
    cases h
    exact .nil
  | _, kv :: r, h => by
    cases h with
    | cons h t => exact .cons (st_of h) (paired_tls t)
theorem putK_app : ∀ {kvs more : List (Key × V)} {k : Key} {v : V}, k ∉ kvs.map Prod.fst → putK kvs k v = kvs ++ [(k, v)] := fun {kvs more k v} h => putK_new _ (by
  induction kvs with
  | nil => rfl
  | cons x r ih =>
    rw [List.map_cons] at h
    rw [valV_neg (fun e => h (e ▸ .head _))]
    exact ih fun z => h (.tail _ z))
theorem mergeK_app : ∀ (kvs more : List (Key × V)), ((kvs ++ more).map Prod.fst).Nodup → mergeK kvs more = kvs ++ more
  | kvs, [], _ => by rw [List.append_nil]; rfl
  | kvs, (k, v) :: r, nd => by
    have h : k ∉ kvs.map Prod.fst := fun z => by
      rw [List.map_append] at nd
      exact (List.nodup_append.mp nd).2.2 k z k (.head _) rfl
    show mergeK (putK kvs k v) r = _
    rw [putK_app (more := []) h]
    have e : kvs ++ (k, v) :: r = (kvs ++ [(k, v)]) ++ r := by rw [List.append_assoc]; rfl
    rw [e] at nd ⊢
    exact mergeK_app _ r nd
theorem rd_dictP {K : PySem.W.Frag} {H : Hp} {Q : VK} {a : Addr} {ps : List Addr} {kvs : List (Key × V)} (h1 : SqL K H a (ps.map V.ref)) (h2 : TLs H ps (kvs.map fun kv => [kV kv.1, kv.2])) (nd : (kvs.map Prod.fst).Nodup) (q : NewO (.dK kvs) H Q) : mDictP K [.ref a] H Q := by
  unfold mDictP
  refine ⟨a, ps, kvs, rfl, h1, paired_tls h2, ?_⟩
  rw [mergeK_app [] kvs nd]
  exact q
/-! ### o.m(e, ..) that may raise, within a try -/
def mMethT (C : Addr) (m : Str) (sp : Sp) (E : L2.St → XK) (ta : TE) (t : TA) : TE := fun σ H Q => ta σ H fun x H1 => mIns C m x H1 (t σ H1 fun vs H2 => sp (x :: vs) H2 Q (E σ))
section
open PySem.Spec PyProof.Rows
variable {X : Cx} {CX : CXT} {k : Nat} {C g : Addr} {fd : FuncData} {ps : List Str} {sp : Sp} {E : L2.St → XK} {m : Str} {e o : Expr} {es : List Expr} {ta : TE} {t : TA} {apos cpos : Pos} {pl : Sem Bool}
theorem pe_methT (ho : PE X o ta) (c : Cls X.K C) (hm : Meth X.K C m g) (F : FnOk X.prog X.w X.K X.mg X.base CX k g fd ps sp) (hr : Room k X.A) (hb : Binds X.K fd ps []) (hx : ∀ σ, PassesAt CX X σ (E σ)) (ha : PA X (e :: es) t)
    (hst : starEach (e :: es) X.env = (false, eval e X.env) :: starEach es X.env := by rfl) (hpl : (backTo cpos (starEach es X.env)).any (·.1) = false := by rfl)
    (ht : eval (.Call (.Attribute o m apos) (e :: es) [] cpos) X.env = (do
      let v ← eval o X.env
      standAt apos.atName
      let (a, b) ← holding [v] (getMethod v m pl)
      callWith cpos a b (backTo cpos (starEach (e :: es) X.env)) (backToKw cpos (keywordEach [] X.env))) := by rfl) : PE X (.Call (.Attribute o m apos) (e :: es) [] cpos) (mMethT C m sp E ta t) := by
  refine ⟨fun pins s σ H Q I z => ?_⟩
  refine PySem.W.methodCall_KW (pl := pl) (thn ((pe_c ho).run pins s σ H _ I ⟨_, z, fun v H' y => y⟩) fun u s1 ⟨v, H1, I1, rv, y⟩ => ?_) ht
  unfold mIns at y
  obtain ⟨a, dx, fs, rfl, ea, l, y⟩ := y
  obtain rfl : u = Value.ref a := rv
  refine getmeth_ok I1 ea c hm l ?_
  refine PySem.W.callWith_K (first := [.ref a]) (h₀ := X.base) I.ok.mod.kin hm.kp (thn (ha.run cpos pins s1 σ H1 _ I1 y) fun us s2 ⟨ws, H2, I2, r, y2⟩ => ⟨I2.kIn, ?_⟩) hst hpl
  exact run_fnS (us := .ref a :: us) (vs := .ref a :: ws) F hr hb (hx σ) I2 (.cons rfl r) y2
end
theorem Own.addR {S B0 B H H' : Hp} {as : List Addr} {l : List (Addr × HO)} {p : Addr} {o : HO} (w : Own S B0 as B l H) (n : H p = none) (s : Same H H') (e : H' p = some o) : Own S B0 as B (l ++ [(p, o)]) H' :=
  (w.add n s e).perm List.perm_append_comm
theorem Own.loose {S B0 B H H2 H3 : Hp} {as : List Addr} {l : List (Addr × HO)} (w : Own S B0 as B l H) (s : Same H H2) (ps : List Addr) (hp : ∀ p ∈ ps, H p = none) (k : ∀ b o, b ∉ ps → H2 b = some o → H3 b = some o) : Own S B0 as B l H3 := by
  have old : ∀ {b o}, H b = some o → H3 b = some o := fun {b o} h => k b o (fun z => by rw [hp b z] at h; cases h) (s _ _ h)
  refine ⟨⟨fun a u h => old (w.c.cell a u h), w.c.nd, fun b u h => old (w.c.imm b u h), w.c.dis⟩, fun b u hb h => old (w.kept b u hb h), w.own, w.grow, w.new, fun a h e => ?_⟩
  have h2 := w.there a h
  cases e2 : H a with
  | none => exact h2 e2
  | some u =>
    rw [old e2] at e
    cases e
theorem Own.dropR {S B0 B H : Hp} {as : List Addr} {l : List (Addr × HO)} {c : Addr × HO} (w : Own S B0 as B (l ++ [c]) H) : Own S B0 as B l H :=
  w.sub (fun _ h => List.mem_append_left _ h) (by
    have nd := w.c.nd
    rw [List.map_append] at nd
    exact (List.nodup_append.mp nd).1)
theorem LLs.nil_of {H : Hp} {xss : List (List Int)} (h : LLs H [] xss) : xss = [] := by
  cases h
  rfl
theorem LLs.nil_of' {H : Hp} {ps : List Addr} (h : LLs H ps []) : ps = [] := by
  cases h
  rfl
theorem LLs.un {H : Hp} {p : Addr} {ps : List Addr} {xss : List (List Int)} (h : LLs H (p :: ps) xss) : ∃ x r, xss = x :: r ∧ H p = some (.lst (x.map V.int)) ∧ LLs H ps r := by
  cases h with
  | cons h t => exact ⟨_, _, rfl, h, t⟩
theorem LLs.un' {H : Hp} {ps : List Addr} {x : List Int} {r : List (List Int)} (h : LLs H ps (x :: r)) : ∃ p ps', ps = p :: ps' ∧ H p = some (.lst (x.map V.int)) ∧ LLs H ps' r := by
  cases h with
  | cons h t => exact ⟨_, _, rfl, h, t⟩
theorem LLs.setAt {H : Hp} {ps : List Addr} {xss : List (List Int)} {p : Addr} {x : List Int} (h : LLs H ps xss) (e : H p = some (.lst (x.map V.int))) (i : Nat) : LLs H (ps.set i p) (xss.set i x) := by
  induction h generalizing i with
  | nil => exact .nil
  | cons h t ih =>
    cases i with
    | zero => exact .cons e t
    | succ i => exact .cons h (ih i)
theorem LLs.erase {H : Hp} {ps : List Addr} {xss : List (List Int)} (h : LLs H ps xss) (i : Nat) : LLs H (ps.eraseIdx i) (xss.eraseIdx i) := by
  induction h generalizing i with
  | nil => exact .nil
  | cons h t ih =>
    cases i with
    | zero => exact t
    | succ i => exact .cons h (ih i)
theorem LLs.get' {H : Hp} {ps : List Addr} {xss : List (List Int)} (h : LLs H ps xss) {i : Int} (h0 : 0 ≤ i) (h1 : i < (ps.length : Int)) : ∃ (p : Addr) (x : List Int), x ∈ xss ∧ ps[i.toNat]? = some p ∧ atI (ps.map V.ref) i = some (.ref p) ∧ H p = some (.lst (x.map V.int)) := by
  have h2 : i.toNat < ps.length := by omega
  have e := List.getElem?_eq_getElem h2
  obtain ⟨x, hm, hx⟩ := h.at e
  refine ⟨_, x, List.mem_of_getElem? hm, e, at_of (j := i.toNat) (by omega) ?_, hx⟩
  rw [List.getElem?_map, e]
  rfl
/-! ### min and max of one list of whole numbers -/
@[irreducible] def mMinL (K : PySem.W.Frag) : List V → Hp → VK → Prop := fun xs H Q => ∃ (a : Addr) (ns : List Int), xs = [.ref a] ∧ SqL K H a (ns.map V.int) ∧ 0 < ns.length ∧ ∀ m, m ∈ ns → (∀ y ∈ ns, m ≤ y) → Q (.int m) H
@[irreducible] def mMaxL (K : PySem.W.Frag) : List V → Hp → VK → Prop := fun xs H Q => ∃ (a : Addr) (ns : List Int), xs = [.ref a] ∧ SqL K H a (ns.map V.int) ∧ 0 < ns.length ∧ ∀ m, m ∈ ns → (∀ y ∈ ns, y ≤ m) → Q (.int m) H
theorem rd_minL {K : PySem.W.Frag} {H : Hp} {Q : VK} {a : Addr} {ns : List Int} (h : SqL K H a (ns.map V.int)) (hn : 0 < ns.length) (q : ∀ m, m ∈ ns → (∀ y ∈ ns, m ≤ y) → Q (.int m) H) : mMinL K [.ref a] H Q := by
  unfold mMinL
  exact ⟨a, ns, rfl, h, hn, q⟩
theorem rd_maxL {K : PySem.W.Frag} {H : Hp} {Q : VK} {a : Addr} {ns : List Int} (h : SqL K H a (ns.map V.int)) (hn : 0 < ns.length) (q : ∀ m, m ∈ ns → (∀ y ∈ ns, y ≤ m) → Q (.int m) H) : mMaxL K [.ref a] H Q := by
  unfold mMaxL
  exact ⟨a, ns, rfl, h, hn, q⟩
theorem call_minLM {X : Cx} (hc : X.calm = true) : CallR X (.builtin "min") (mMinL X.K) := fun pins s σ H xs us Q I r q => cr_min hc pins s σ H xs us Q I r (by
  unfold mMinL at q
  exact q)
theorem call_maxLM {X : Cx} (hc : X.calm = true) : CallR X (.builtin "max") (mMaxL X.K) := fun pins s σ H xs us Q I r q => cr_max hc pins s σ H xs us Q I r (by
  unfold mMaxL at q
  exact q)
/-! ### d.pop(k), k there -/
@[irreducible] def mDPop (x y : V) (H : Hp) (Q : VK) : Prop := ∃ a kvs k v, x = .ref a ∧ y = kV k ∧ H a = some (.dK kvs) ∧ valV kvs k = some v ∧ Q v (upd H a (.dK (dropK kvs k)))
theorem rd_dpop {a : Addr} {kvs : List (Key × V)} {n : Int} {v : V} {H : Hp} {Q : VK} (h : H a = some (.dK kvs)) (e : valV kvs (.inl n) = some v) (q : Q v (upd H a (.dK (dropK kvs (.inl n))))) : mDPop (.ref a) (.int n) H Q := by
  unfold mDPop
  exact ⟨a, kvs, .inl n, v, rfl, rfl, h, e, q⟩
def mDPopE (td ty : TE) : TE := fun σ H Q => td σ H fun x H1 => ∃ a kvs, x = .ref a ∧ H1 a = some (.dK kvs) ∧ ty σ H1 fun y H2 => mDPop x y H2 Q
theorem pe_dpopM {X : Cx} {o e : Expr} {td ty : TE} {apos cpos : Pos} (ho : PE X o td) (he : PE X e ty) (hbase : attributeBase o "pop" X.env (eval o X.env) = eval o X.env := by rfl)
    (hfew : ((backTo cpos (starEach [e] X.env)).all (fun x => !x.1) && (backToKw cpos (keywordEach [] X.env)).all (fun x => x.1.isSome) && decide (([e] : List Expr).length + ([] : List Keyword).length + (if ([] : List Keyword).isEmpty then 0 else 1) < 30)) = true := by rfl)
    (hline : (apos.endLine == cpos.line) = true := by rfl) (htr : backTo cpos (starEach [e] X.env) = [(false, eval e X.env)] := by rfl) : PE X (.Call (.Attribute o "pop" apos) [e] [] cpos) (mDPopE td ty) :=
  pe_weak (pe_dpop1 (pe_c ho) (pe_c he) ⟨hbase, hfew, hline, htr⟩) fun σ H Q q => ⟨_, q, fun x H1 r => by
    obtain ⟨a, kvs, rfl, h, r⟩ := r
    refine ⟨a, rfl, .inl ⟨kvs, .inl h⟩, _, r, fun y H2 r => ?_⟩
    unfold mDPop at r
    obtain ⟨a2, kvs2, k, v, e1, e2, h2, e3, r⟩ := r
    cases e1
    exact ⟨kvs2, k, v, h2, e2, e3, r⟩⟩
/-! ### more walks of a comprehension -/
section
variable {K : PySem.W.Frag} {tt : TT} {te : TE} {σ : L2.St} {H1 : Hp} {Q : VK} {j : Nat}
/-- [new list for x in range(lo, ..)] -/
theorem wl_newR {lo : Int} {n : Nat} (f : Nat → List Int) (hn : n ≤ 100000) (ht : ∀ i : Nat, i < n → ∀ (H' : Hp) (R : VK), Same H1 H' → NewO (.lst ((f i).map V.int)) H' R → te ((wipe σ [j]).set j (some (.int (lo + (i : Nat))))) H' R)
    (hq : ∀ D qs H', H1 D = none → Cpy H1 D qs ((List.range n).map f) H' → Q (.ref D) H') : LcWP (Itr lo n) (gName j) tYes te [j] σ Q H1 := by
  refine wl_rng hn fun D hD => ⟨fun i acc H' => ∃ qs, acc = qs.map V.ref ∧ Cpy H1 D qs ((List.range i).map f) H', ⟨[], rfl, same_upd hD, upd_same, .nil, fun q hq => (nomatch hq), List.nodup_nil⟩, fun i acc H' hi ha h2 p => ?_, fun acc H' ha h2 p => ?_⟩
  · obtain ⟨qs, rfl, p⟩ := p
    show _ ∧ _
    refine ⟨wipe_set rfl, ?_⟩
    show Br true _ _
    refine br_T (ht i hi H' _ p.sm fun q H'' nq s eq => ⟨s _ _ h2, qs ++ [q], by rw [List.map_append]; rfl, ?_⟩)
    rw [List.range_succ, List.map_append]
    exact p.next hD nq s eq
  · obtain ⟨qs, rfl, p⟩ := p
    exact hq D qs H' hD p
/-- [x for x in cs if t], whole numbers -/
theorem wl_filtI {a : Addr} (cs : List Int) (keep : Int → Bool) (hx : SqL K H1 a (cs.map V.int)) (hn : cs.length ≤ 100000) (ht : ∀ n, n ∈ cs → ∀ (H' : Hp) (R : Bool → Hp → Prop), Same H1 H' → (∀ H'', Same H' H'' → R (keep n) H'') → tt ((wipe σ [j]).set j (some (.int n))) H' R)
    (he : ∀ n, n ∈ cs → ∀ (H' : Hp) (R : VK), R (.int n) H' → te ((wipe σ [j]).set j (some (.int n))) H' R) (hq : NewO (.lst ((cs.filter keep).map V.int)) H1 Q) : LcWP (Itl K a) (gName j) tt te [j] σ Q H1 := by
  refine wl_list (cs.map V.int) (by rw [List.length_map]; exact hn) fun D hD => ⟨fun i acc H' => acc = ((cs.take i).filter keep).map V.int ∧ Same H1 H', ⟨rfl, same_upd hD⟩, fun i acc H' _ _ _ p => p.2.seq hx, fun i acc y H' hi ha h2 p => ?_, fun acc H' ha h2 p => ?_⟩
  · obtain ⟨rfl, p⟩ := p
    rw [List.getElem?_map] at hi
    obtain ⟨n, hn2, rfl⟩ := Option.map_eq_some_iff.mp hi
    have hin := List.mem_of_getElem? hn2
    show _ ∧ _
    refine ⟨wipe_set rfl, ht n hin H' _ p fun H2 s2 => ?_⟩
    cases hb : keep n with
    | true =>
      refine br_T (he n hin H2 _ ⟨s2 _ _ h2, ?_, same_mut (p.trans s2) hD⟩)
      rw [take_snoc hn2, List.filter_append, List.map_append, List.filter_cons, if_pos hb]
      rfl
    | false =>
      refine br_F ⟨s2 _ _ h2, ?_, p.trans s2⟩
      rw [take_snoc hn2, List.filter_append, List.filter_cons, if_neg (by rw [hb]; decide), List.filter_nil, List.append_nil]
  · obtain ⟨rfl, p⟩ := p
    rw [List.length_map, List.take_length] at h2
    exact hq D H' hD p h2
end
/-- all numbers below n stand in a list: it is as long -/
theorem below_len : ∀ (n : Nat) (cs : List Int), (∀ m : Nat, m < n → (m : Int) ∈ cs) → n ≤ cs.length
  | 0, _, _ => Nat.zero_le _
  | n + 1, cs, h => by
    have h1 : (n : Int) ∈ cs := h n (Nat.lt_succ_self n)
    have h2 := below_len n (cs.erase (n : Int)) fun m hm => (List.mem_erase_of_ne (by omega)).mpr (h m (by omega))
    have h3 := List.length_erase_of_mem h1
    have h4 : 0 < cs.length := List.length_pos_of_mem h1
    omega
/-! ### an if whose test is told by what it comes to -/
@[irreducible] def mIfC (c : TT) (t u : TS) : TS := fun D σ H => ∃ R : Bool → Hp → Prop, c σ H R ∧ ∀ b H1, R b H1 → Br b (t D σ H1) (u D σ H1)
theorem rd_ifC {c : TT} {t u : TS} {D : Ends} {σ : L2.St} {H : Hp} (R : Bool → Hp → Prop) (h : c σ H R) (k : ∀ b H1, R b H1 → Br b (t D σ H1) (u D σ H1)) : mIfC c t u D σ H := by
  unfold mIfC
  exact ⟨R, h, k⟩
theorem ps_ifC {X : Cx} {c : Expr} {bs us : List Stmt} {pos : Pos} {tt : TT} {t u : TS} (hc : PT X c tt) (ha : PSs X bs t) (hb : PSs X us u) : PS X (.If c bs us pos) (mIfC tt t u) := ps_weak (ps_if (pt_c hc) ha hb) fun D σ H q => by
  unfold mIfC at q
  obtain ⟨R, h, k⟩ := q
  exact ⟨R, h, fun b H1 r => (k b H1 r).un⟩
/-! ### an if whose test is told by what it comes to, and whose ends are joined -/
@[irreducible] def mIfCJ (c : TT) (t u : TS) : TS := fun D σ H => ∃ (R : Bool → Hp → Prop) (P : L2.St → Hp → Prop), c σ H R ∧ (∀ H1, R true H1 → t { D with nx := P } σ H1) ∧ (∀ H1, R false H1 → u { D with nx := P } σ H1) ∧ ∀ σ' H', P σ' H' → D.nx σ' H'
theorem rd_ifCJ {c : TT} {t u : TS} {D : Ends} {σ : L2.St} {H : Hp} (R : Bool → Hp → Prop) (P : L2.St → Hp → Prop) (h : c σ H R) (h1 : ∀ H1, R true H1 → t { D with nx := P } σ H1) (h2 : ∀ H1, R false H1 → u { D with nx := P } σ H1) (k : ∀ σ' H', P σ' H' → D.nx σ' H') : mIfCJ c t u D σ H := by
  unfold mIfCJ
  exact ⟨R, P, h, h1, h2, k⟩
theorem ps_ifCJ {X : Cx} {c : Expr} {bs us : List Stmt} {pos : Pos} {tt : TT} {t u : TS} (hc : PT X c tt) (ha : PSs X bs t) (hb : PSs X us u) : PS X (.If c bs us pos) (mIfCJ tt t u) := ps_weak (ps_if (pt_c hc) (pss_c ha) (pss_c hb)) fun D σ H q => by
  unfold mIfCJ at q
  obtain ⟨R, P, h, h1, h2, k⟩ := q
  refine ⟨R, h, fun b H1 r => ?_⟩
  cases b with
  | true => exact iteT ⟨P, h1 H1 r, k⟩
  | false => exact iteF ⟨P, h2 H1 r, k⟩
end My
namespace My
open PySem L2
/-! ### C(e, ..) that may raise, within a try -/
def tMakeS (C : Addr) (sp : Sp) (E : L2.St → XK) (t : TA) : TE := fun σ H Q => t σ H fun vs H1 => ∀ x dx, H1 x = none → H1 dx = none → dx ≠ x → sp (.ref x :: vs) (upd (upd H1 dx (.own x)) x (.ins C dx [])) (fun v H2 => v = .non ∧ Q (.ref x) H2) (E σ)
section
open PySem.Spec PyProof.Rows
variable {X : Cx} {CX : CXT} {k : Nat} {C f : Addr} {fd : FuncData} {ps : List Str} {sp : Sp} {E : L2.St → XK} {x : Str} {e : Expr} {es : List Expr} {t : TA} {p pos : Pos}
theorem run_makeS {pins : List (Addr × Obj)} {σ : L2.St} {H : Hp} {s : Shared} {Q : VK} {us : List Value} {vs : List V} (M : Mk X.K C f) (F : FnOk X.prog X.w X.K X.mg X.base CX k f fd ps sp) (hr : Room (k + 1) X.A) (hb : Binds X.K fd ps [])
    (hx : PassesAt CX X σ (E σ)) (I : Inv X pins σ H s) (r : Vals vs us)
    (h : ∀ x dx, H x = none → H dx = none → dx ≠ x → sp (.ref x :: vs) (upd (upd H dx (.own x)) x (.ins C dx [])) (fun v H2 => v = .non ∧ Q (.ref x) H2) (E σ)) :
    wpAny (model X.prog X.w) X.A (call (.ref C) us) (EP X pins σ Q) X.xe s := by
  have hq := h (s.heap.objs.size + 1) s.heap.objs.size (I.hok.fresh (Nat.le_succ _)) (I.hok.fresh (Nat.le_refl _)) (Nat.ne_of_lt (Nat.lt_succ_self _))
  have I2 := Inv.made (C := C) I
  have r2 : Vals (V.ref (s.heap.objs.size + 1) :: vs) (Value.ref (s.heap.objs.size + 1) :: us) := .cons rfl r
  have hl : (Value.ref (s.heap.objs.size + 1) :: us ++ []).length = ps.length := by
    have e := r2.length
    rw [F.len _ _ _ _ hq] at e
    rw [List.append_nil]
    exact e.symm
  have b := hb _ (Value.ref (s.heap.objs.size + 1) :: us) I2.kIn hl
  rw [List.append_nil] at b
  refine wpAny_call (make_map (f := f) I.kIn M.makes M.init (beq_iff_eq.mp M.fn) (codeAny_mono (F.run _ X.stack _ _ ⟨Value.ref (s.heap.objs.size + 1) :: us, []⟩ (Value.ref (s.heap.objs.size + 1) :: us) _ _ (E σ) (hr.make C us [])
    (I2.env0.make C us []) b r2 hq) fun r s' hq' => ?_))
  cases r with
  | error e => exact hx pins _ _ e s' I2 hq'
  | ok fl =>
    cases fl with
    | ret u =>
      obtain ⟨v, H', I3, rv, ev, q3⟩ := I2.after hq'
      subst ev
      exact ⟨rv, ⟨V.ref (s.heap.objs.size + 1), H', I3, rfl, q3⟩⟩
    | next => exact False.elim hq'
    | brk => exact False.elim hq'
    | cont => exact False.elim hq'
theorem pe_makeS (M : Mk X.K C f) (F : FnOk X.prog X.w X.K X.mg X.base CX k f fd ps sp) (hr : Room (k + 1) X.A) (hg : Gl X x) (hm : X.mg x = some (.ref C)) (hb : Binds X.K fd ps []) (hx : ∀ σ, PassesAt CX X σ (E σ))
    (ha : PA X (e :: es) t) (hdb : (x == ("__debug__" : Str)) = false := by decide) (he : starEach (e :: es) X.env = (false, eval e X.env) :: starEach es X.env := by rfl) (hpl : (backTo pos (starEach es X.env)).any (·.1) = false := by rfl) :
    PE X (.Call (.Name x p) (e :: es) [] pos) (tMakeS C sp E t) := by
  refine ⟨fun pins s σ H Q I h => ?_⟩
  refine wpAny_Call_Name_kw (ld_glob I hg hm ?_ hdb)
  refine PySem.W.callWith_K (h₀ := X.base) I.ok.mod.kin M.kp (thn (ha.run pos pins s σ H _ I h) fun us s1 ⟨vs, H1, I1, r, q⟩ => ⟨I1.kIn, ?_⟩) he hpl
  exact run_makeS M F hr hb (hx σ) I1 r q
end
/-! ### an expression told by what it comes to -/
@[irreducible] def mSay (te : TE) : TE := cTE te
theorem pe_say {X : Cx} {e : Expr} {te : TE} (h : PE X e te) : PE X e (mSay te) := by
  unfold mSay
  exact pe_c h
theorem rd_say {te : TE} {σ : L2.St} {H : Hp} {Q : VK} (P : VK) (h : te σ H P) (k : ∀ v H', P v H' → Q v H') : mSay te σ H Q := by
  unfold mSay
  exact ⟨P, h, k⟩
/-! ### the places of a list of truths that are true -/
def trues (ws : List Bool) : List Nat := (List.range ws.length).filter fun i => ws.getD i false
abbrev natI (as : List Nat) : List Int := as.map fun i : Nat => (i : Int)
theorem wl_enumB {K : PySem.W.Frag} {i1 i2 : Nat} {tt : TT} {te : TE} {σ : L2.St} {H1 : Hp} {Q : VK} {a : Addr} (ws : List Bool) (hx : SqL K H1 a (ws.map V.bl)) (hn : ws.length ≤ 100000) (h12 : i1 ≠ i2)
    (ht : ∀ (i : Nat) (b : Bool), ws[i]? = some b → ∀ (H' : Hp) (R : Bool → Hp → Prop), Same H1 H' → (∀ H'', Same H' H'' → R b H'') → tt (((wipe σ [i1, i2]).set i1 (some (.int (i : Nat)))).set i2 (some (.bl b))) H' R)
    (he : ∀ (i : Nat) (b : Bool), ws[i]? = some b → ∀ (H' : Hp) (R : VK), R (.int (i : Nat)) H' → te (((wipe σ [i1, i2]).set i1 (some (.int (i : Nat)))).set i2 (some (.bl b))) H' R)
    (hq : NewO (.lst ((natI (trues ws)).map V.int)) H1 Q) : LcWP (Ite K a) (gTup K 2 (gCons (gName i1) (gCons (gName i2) gNil))) tt te [i1, i2] σ Q H1 := by
  unfold LcWP
  refine ⟨(ws.map V.bl).length, _, _, walk_enum (K := K) (a := a) (xs := ws.map V.bl), by rw [List.length_map]; exact hn, fun D hD => ?_⟩
  refine ⟨fun i acc H' => acc = (natI ((List.range i).filter fun k => ws.getD k false)).map V.int ∧ Same H1 H', ⟨rfl, same_upd hD⟩, fun i acc H' _ _ _ p => p.2.seq hx, fun i acc x H' H'' hi ha h2 p y => ?_, fun acc H' ha h2 p => ?_⟩
  · obtain ⟨rfl, p⟩ := p
    obtain ⟨T, u, v, rfl, hT, rfl, e1, e2⟩ := y
    cases e1
    have e2 : (ws.map V.bl)[i]? = some v := e2
    rw [List.getElem?_map] at e2
    obtain ⟨b, hb, rfl⟩ := Option.map_eq_some_iff.mp e2
    have eb : ws.getD i false = b := by
      rw [List.getD_eq_getElem?_getD, hb]
      rfl
    have hDT : D ≠ T := fun e => by
      rw [e, hT] at h2
      cases h2
    refine ⟨T, [.int (i : Nat), .bl b], rfl, st_of upd_same, rfl, .int (i : Nat), [.bl b], rfl, .bl b, [], rfl, rfl, wipe2 h12, ?_⟩
    have s1 : Same H' (upd H' T (.tup [.int (i : Nat), .bl b])) := same_upd hT
    refine ht i b hb _ _ (p.trans s1) fun H2 s2 => ?_
    cases b with
    | true =>
      refine br_T (he i true hb H2 _ ⟨s2 _ _ (s1 _ _ h2), ?_, same_mut ((p.trans s1).trans s2) hD⟩)
      rw [List.range_succ, List.filter_append, List.filter_cons, if_pos eb]
      simp
    | false =>
      refine br_F ⟨s2 _ _ (s1 _ _ h2), ?_, (p.trans s1).trans s2⟩
      rw [List.range_succ, List.filter_append, List.filter_cons, if_neg (by rw [eb]; decide), List.filter_nil, List.append_nil]
  · obtain ⟨rfl, p⟩ := p
    rw [List.length_map] at h2
    exact hq D H' hD p h2
theorem nodup_lt : ∀ (n : Nat) (as : List Nat), as.Nodup → (∀ a ∈ as, a < n) → as.length ≤ n
  | 0, [], _, _ => Nat.le_refl _
  | 0, a :: _, _, h => absurd (h a (.head _)) (Nat.not_lt_zero _)
  | n + 1, as, nd, h => by
    have h2 := nodup_lt n (as.erase n) (nd.erase n) fun a ha => by
      have h3 := (nd.mem_erase_iff).mp ha
      have h4 := h a h3.2
      have h5 := h3.1
      omega
    by_cases hm : n ∈ as
    · rw [List.length_erase_of_mem hm] at h2
      omega
    · rw [List.erase_of_not_mem hm] at h2
      omega
theorem trues_nd (ws : List Bool) : (trues ws).Nodup := List.nodup_range.filter _
theorem trues_lt {ws : List Bool} {i : Nat} (h : i ∈ trues ws) : i < ws.length := List.mem_range.mp (List.mem_filter.mp h).1
theorem trues_at {ws : List Bool} {i : Nat} : i ∈ trues ws ↔ i < ws.length ∧ ws.getD i false = true := by
  unfold trues
  rw [List.mem_filter, List.mem_range]
theorem trues_len (ws : List Bool) : (trues ws).length ≤ ws.length := nodup_lt _ _ (trues_nd ws) fun a h => trues_lt h
theorem range_map_getD {α β : Type} (l : List α) (d : α) (f : α → β) : (List.range l.length).map (fun i => f (l.getD i d)) = l.map f := by
  apply List.ext_getElem?
  intro i
  rw [List.getElem?_map, List.getElem?_map]
  by_cases h : i < l.length
  · rw [List.getElem?_range h, List.getElem?_eq_getElem h]
    show some (f (l.getD i d)) = some (f l[i])
    rw [List.getD_eq_getElem?_getD, List.getElem?_eq_getElem h]
    rfl
  · rw [List.getElem?_eq_none (by rw [List.length_range]; omega), List.getElem?_eq_none (by omega)]
    rfl
theorem at_get {xs : List V} {k : Nat} {v : V} (h : xs[k]? = some v) : atI xs (k : Int) = some v := at_of (j := k) (by omega) h
theorem at_bl {ws : List Bool} {k : Nat} (h : k < ws.length) : atI (ws.map V.bl) (k : Int) = some (V.bl (ws.getD k false)) := by
  refine at_get ?_
  rw [List.getElem?_map, List.getElem?_eq_getElem h, List.getD_eq_getElem?_getD, List.getElem?_eq_getElem h]
  rfl
theorem wl_rngF {j : Nat} {tt : TT} {te : TE} {σ : L2.St} {H1 : Hp} {Q : VK} {n : Nat} (keep : Nat → Bool) (hn : n ≤ 100000) (ht : ∀ i : Nat, i < n → ∀ (H' : Hp) (R : Bool → Hp → Prop), Same H1 H' → (∀ H'', Same H' H'' → R (keep i) H'') → tt ((wipe σ [j]).set j (some (.int (i : Nat)))) H' R)
    (he : ∀ i : Nat, i < n → ∀ (H' : Hp) (R : VK), R (.int (i : Nat)) H' → te ((wipe σ [j]).set j (some (.int (i : Nat)))) H' R) (hq : NewO (.lst ((natI ((List.range n).filter keep)).map V.int)) H1 Q) : LcWP (Itr 0 n) (gName j) tt te [j] σ Q H1 := by
  refine wl_rng hn fun D hD => ⟨fun i acc H' => acc = (natI ((List.range i).filter keep)).map V.int ∧ Same H1 H', ⟨rfl, same_upd hD⟩, fun i acc H' hi ha h2 p => ?_, fun acc H' ha h2 p => ?_⟩
  · obtain ⟨rfl, p⟩ := p
    rw [Int.zero_add]
    show _ ∧ _
    refine ⟨wipe_set rfl, ht i hi H' _ p fun H2 s2 => ?_⟩
    cases hb : keep i with
    | true =>
      refine br_T (he i hi H2 _ ⟨s2 _ _ h2, ?_, same_mut (p.trans s2) hD⟩)
      rw [List.range_succ, List.filter_append, List.filter_cons, if_pos hb]
      simp
    | false =>
      refine br_F ⟨s2 _ _ h2, ?_, p.trans s2⟩
      rw [List.range_succ, List.filter_append, List.filter_cons, if_neg (by rw [hb]; decide), List.filter_nil, List.append_nil]
  · obtain ⟨rfl, p⟩ := p
    exact hq D H' hD p h2
theorem rd_isiNB {K : PySem.W.Frag} {H : Hp} {Q : VK} (h : Q (.bl false) H) : mIsi K [.non, .ty "bool"] H Q := by
  unfold mIsi
  exact ⟨_, _, _, _, false, rfl, ClsV.ty _, TyX.base TyOf.non, by rfl, h⟩
theorem sum_set : ∀ (l : List Int) (i : Nat) (x : Int), i < l.length → (l.set i x).sum = l.sum - l.getD i 0 + x
  | [], i, x, h => absurd h (Nat.not_lt_zero _)
  | a :: l, 0, x, _ => by
    rw [List.set_cons_zero, List.sum_cons, List.sum_cons]
    show x + l.sum = a + l.sum - a + x
    omega
  | a :: l, i + 1, x, h => by
    have h2 := sum_set l i x (Nat.lt_of_succ_lt_succ h)
    rw [List.set_cons_succ, List.sum_cons, List.sum_cons, h2]
    show a + (l.sum - l.getD i 0 + x) = a + l.sum - l.getD i 0 + x
    omega
theorem rng1_ok {n : Nat} {A : Prop} (h : n ≤ 100000) (hA : A) : -(2 ^ 62) ≤ (n : Int) ∧ (n : Int) < 2 ^ 62 ∧ A := by
  have big : (2 : Int) ^ 62 = 4611686018427387904 := by decide
  rw [big]
  exact ⟨by omega, by omega, hA⟩
theorem rng2_ok {i j : Int} {A : Prop} (h : -100000 ≤ i ∧ i ≤ 100000 ∧ -100000 ≤ j ∧ j ≤ 100000) (hA : A) : (-(2 ^ 62) ≤ i ∧ i < 2 ^ 62 ∧ -(2 ^ 62) ≤ j ∧ j < 2 ^ 62) ∧ A := by
  have big : (2 : Int) ^ 62 = 4611686018427387904 := by decide
  rw [big]
  exact ⟨⟨by omega, by omega, by omega, by omega⟩, hA⟩
theorem map_getD_range {α : Type} (l : List α) (d : α) : (List.range l.length).map (fun i => l.getD i d) = l := (range_map_getD l d id).trans (List.map_id l)
/-- what is owned, in another order (is: the places) -/
theorem Own.reorder {S B0 B H : Hp} {as : List Addr} {l : List (Addr × HO)} (w : Own S B0 as B l H) (is : List Nat) (hn : l.length = is.length := by rfl) (h : is.Perm (List.range is.length) := by decide +kernel) : Own S B0 as B (is.map fun i => l.getD i (0, .lst [])) H := by
  refine w.perm ((h.map _).trans ?_)
  rw [← hn, map_getD_range]
theorem Own.pre {S B0 B H : Hp} {as : List Addr} {l l2 : List (Addr × HO)} (w : Own S B0 as B (l ++ l2) H) : Own S B0 as B l H := w.sub (fun _ hc => List.mem_append_left _ hc) (by
  have nd := w.c.nd
  rw [List.map_append] at nd
  exact (List.nodup_append.mp nd).1)
/-- some of what is owned (is: their places; rest: the others') -/
theorem Own.pick {S B0 B H : Hp} {as : List Addr} {l : List (Addr × HO)} (w : Own S B0 as B l H) (is rest : List Nat) (hn : l.length = (is ++ rest).length := by rfl) (h : (is ++ rest).Perm (List.range (is ++ rest).length) := by decide +kernel) : Own S B0 as B (is.map fun i => l.getD i (0, .lst [])) H := by
  have w2 := w.reorder _ hn h
  rw [List.map_append] at w2
  exact w2.pre
/-! ### for x in range(lo, hi, c) -/
@[irreducible] def mForR3 (ta : TA) (j : Nat) (tb : TS) : TS := fun D σ H => ta σ H fun ws H1 => ∃ (lo hi c : Int) (n : Nat) (Pv : Nat → L2.St → Hp → Prop), ws = [.int lo, .int hi, .int c] ∧ RgC lo hi c n ∧ Pv 0 σ H1 ∧
  (∀ i σ' H', i < n → Pv i σ' H' → tb { D with nx := Pv (i + 1), ct := Pv (i + 1), bk := D.nx } (σ'.set j (some (.int (lo + (i : Nat) * c)))) H') ∧ ∀ σ' H', Pv n σ' H' → D.nx σ' H'
theorem rd_forR3 {ta : TA} {j : Nat} {tb : TS} {D : Ends} {σ : L2.St} {H : Hp} (h : ta σ H fun ws H1 => ∃ (lo hi c : Int) (n : Nat) (Pv : Nat → L2.St → Hp → Prop), ws = [.int lo, .int hi, .int c] ∧ RgC lo hi c n ∧ Pv 0 σ H1 ∧
  (∀ i σ' H', i < n → Pv i σ' H' → tb { D with nx := Pv (i + 1), ct := Pv (i + 1), bk := D.nx } (σ'.set j (some (.int (lo + (i : Nat) * c)))) H') ∧ ∀ σ' H', Pv n σ' H' → D.nx σ' H') : mForR3 ta j tb D σ H := by
  unfold mForR3
  exact h
theorem ps_forR3 {X : Cx} {ta : TA} {pos : Pos} {j : Nat} {x : Str} {a b c : Expr} {body : List Stmt} {tb : TS} {p p2 xpos : Pos} (hp : PassesOwn (model X.prog X.w) X.A X.env X.xe) (hc : X.calm = true) (hg : Gl X "range") (hm : X.mg "range" = none) (ha : PA X [a, b, c] ta) (hgt : PG X (.Name x xpos) (gName j)) (hb : PSs X body tb)
    (hs : starEach [a, b, c] X.env = (false, eval a X.env) :: starEach [b, c] X.env := by rfl) (hpl : (backTo p2 (starEach [b, c] X.env)).any (·.1) = false := by rfl) (hs2 : ∀ y, foldedSetIterable (.Call (.Name "range" p) [a, b, c] [] p2) X.env y = pure y := by intro _; rfl) :
    PS X (.For (.Name x xpos) (.Call (.Name "range" p) [a, b, c] [] p2) body [] pos) (mForR3 ta j tb) :=
  ps_weak (ps_for hp hc (pi_range3 hg hm (pa_c ha) hs hpl) hgt hb hs2) fun D σ H q => by
    unfold mForR3 at q
    refine ⟨_, q, fun ws H1 r => ?_⟩
    obtain ⟨lo, hi, c, n, Pv, rfl, h1, h0, hs, hd⟩ := r
    refine ⟨lo, hi, c, n, rfl, h1, ?_⟩
    refine for_it (walk_rangeC (lo := lo) (c := c) (n := n)) Pv h0 (fun _ _ _ _ _ => trivial) (fun i x σ' H' H'' hi p y => ?_) hd
    obtain ⟨rfl, rfl⟩ := y
    exact hs i σ' _ hi p
end My
namespace My
open PySem L2
/-! ### sorted(d), a dict of whole numbers, any number of them -/
section
open PySem.Spec PyProof.Rows
variable {X : Cx}
theorem call_sortDB (hcl : X.calm = true) : CallR X (.builtin "sorted") (fun xs H Q => ∃ (a : Addr) (kvs : List (Key × V)) (ns : List Int), xs = [.ref a] ∧ H a = some (.dK kvs) ∧ kvs.map Prod.fst = ns.map Sum.inl ∧ ∀ (ys : List Int) (p : Addr), ys.Perm ns → ys.Pairwise (· ≤ ·) → H p = none → Q (.ref p) (upd H p (.lst (ys.map V.int)))) := by
  intro pins st σ H xs vals Q inv rv q
  obtain ⟨a, kvs, ns, rfl, hd, hkn, q⟩ := q
  obtain ⟨u, rfl, ru⟩ := vals1 rv
  cases ru
  obtain ⟨hzl, hlo, ents, hrel, hdd⟩ := dk_rd inv.hok (.inl hd)
  obtain ⟨ep, hat⟩ := hdd.dictAt
  have hek : ents.map (·.1) = ns.map Sum.inl := hrel.keys.symm.trans hkn
  have hen : ents.length = ns.length := by
    have := congrArg List.length hek
    rwa [List.length_map, List.length_map] at this
  have hkn2 : kvs.length = ns.length := by
    have := congrArg List.length hkn
    rwa [List.length_map, List.length_map] at this
  have hsz : ents.length ≤ sizeLine := by omega
  refine (Calls.call_function_entry kind_sorted plain_sorted entry_sorted (args_sorted1 _) ?_)
  unfold Builtin.«sorted»
  refine (wpAny_bind (m := checkCount "sorted" 1 1 _) (wpAny_pure ?_))
  refine (wpAny_bind (PySem.W.kdu_collect (A := X.A.in1) (PySem.W.kdl_dict (knd := mixKind X.prog X.w) (kvs := ents) (ep := ep) hlo) (inv.ok.hd hcl) hat hsz fun h2 tk acc kp hacc => ?_))
  have hal : acc.toList.length = ns.length := by rw [Array.length_toList, hacc.1, hen]
  have hints : IntsAre acc.toList ns := ints_each hal fun j v ej => by
    obtain ⟨k, x, g1, g2⟩ := hacc.2 j v (by rw [← Array.getElem?_toList]; exact ej)
    have g3 : (ents.map (·.1))[j]? = some k := by rw [List.getElem?_map, g1]; rfl
    rw [hek, List.getElem?_map] at g3
    cases g4 : ns[j]? with
    | none => rw [g4] at g3; cases g3
    | some y =>
      rw [g4] at g3
      have g5 : Sum.inl y = k := Option.some.inj g3
      subst g5
      rcases keyIs_shape (show keyIs (Sum.inl y) v = true from g2) with ⟨i, t, ek, ev⟩ | ⟨z, t, ek, ev⟩
      · cases ek
        exact ⟨y, t, rfl, ev⟩
      · cases ek
  have inv2 : Inv X pins σ H { st with heap := h2, toks := tk } := inv.kept kp
  have hal2 : acc.toList.length ≤ sizeLine := by omega
  refine (wpAny_bind (wpAny_newList ?_ hal2))
  have hnew : (h2.push (seqObj "list" acc.toList.toArray 0)).get? h2.objs.size = some (seqObj "list" acc.toList.toArray 0) := Heap.get?_push_size _ rfl
  show wpAny _ _ _ _ _ { st with heap := h2.push (seqObj "list" acc.toList.toArray 0), toks := tk }
  refine (wpAny_bind (wpAny_holding (wpAny_call_entry slot_list_sort ⟨_, hnew, rfl⟩ entry_list_sort
    (SrtO.list_sort_ord (s := { st with heap := h2.push (seqObj "list" acc.toList.toArray 0), toks := tk }) SrtO.swo_int hnew hal2 (fun g2 => SrtO.ints_sortable hints g2) fun out g1 g2 => ⟨_, rfl, ?_⟩) (args_list_sort _))))
  obtain ⟨k1, k2, k3⟩ := SrtO.ints_out hints g1 g2
  obtain ⟨e2, he2⟩ := sortedHeap_at (vs := acc.toList) (out := out.toArray) hnew
  have hyl : ((out.map SrtO.iv).map V.int).length ≤ sizeLine := by
    rw [List.length_map, k2.length_eq]
    omega
  refine wpAny_pure ⟨_, rfl, .ref h2.objs.size, upd H h2.objs.size (.lst ((out.map SrtO.iv).map V.int)), inv2.laid (t' := tk) (fun b u eb => ?_) (Nat.le_refl _)
    (show ObjOk X.prog X.w _ _ _ (.lst ((out.map SrtO.iv).map V.int)) from ⟨hyl, out, e2, vals_of_ints k1, he2⟩), rfl, q _ _ k2 k3 (inv2.hok.fresh (Nat.le_refl _))⟩
  have hbl : b < h2.objs.size := Heap.lt_size eb
  rw [sortedHeap_old (Nat.ne_of_lt hbl) (by rw [Heap.size_push]; exact Nat.lt_succ_of_lt hbl)]
  exact Heap.get?_push_of_some _ eb
end
@[irreducible] def mSortDB : List V → Hp → VK → Prop := fun xs H Q => ∃ (a : Addr) (kvs : List (Key × V)) (ns : List Int), xs = [.ref a] ∧ H a = some (.dK kvs) ∧ kvs.map Prod.fst = ns.map Sum.inl ∧ ∀ ys : List Int, ys.Perm ns → ys.Pairwise (· ≤ ·) → NewO (.lst (ys.map V.int)) H Q
theorem rd_sortDB {H : Hp} {Q : VK} {a : Addr} {kvs : List (Key × V)} {ns : List Int} (h : H a = some (.dK kvs)) (hk : kvs.map Prod.fst = ns.map Sum.inl) (q : ∀ ys : List Int, ys.Perm ns → ys.Pairwise (· ≤ ·) → NewO (.lst (ys.map V.int)) H Q) : mSortDB [.ref a] H Q := by
  unfold mSortDB
  exact ⟨a, kvs, ns, rfl, h, hk, q⟩
theorem call_sortDBM {X : Cx} (hc : X.calm = true) : CallR X (.builtin "sorted") mSortDB := fun pins s σ H xs us Q I r q => call_sortDB hc pins s σ H xs us Q I r (by
  unfold mSortDB at q
  obtain ⟨a, kvs, ns, e, h, hk, q⟩ := q
  exact ⟨a, kvs, ns, e, h, hk, fun ys p hp ho => (q ys hp ho).go p⟩)
/-! ### dict(d): a copy -/
@[irreducible] def mDictD : List V → Hp → VK → Prop := fun xs H Q => ∃ (a : Addr) (kvs : List (Key × V)), xs = [.ref a] ∧ H a = some (.dK kvs) ∧ ∀ p, H p = none → Q (.ref p) (upd H p (.dK kvs))
theorem rd_dictD {H : Hp} {Q : VK} {a : Addr} {kvs : List (Key × V)} (h : H a = some (.dK kvs)) (q : ∀ p, H p = none → Q (.ref p) (upd H p (.dK kvs))) : mDictD [.ref a] H Q := by
  unfold mDictD
  exact ⟨a, kvs, rfl, h, q⟩
theorem call_dictDM {X : Cx} : CallR X (.type "dict") mDictD := fun pins s σ H xs us Q I r q => call_dictD pins s σ H xs us Q I r (by
  unfold mDictD at q
  obtain ⟨a, kvs, e, h, q⟩ := q
  exact ⟨a, kvs, e, .inl h, q⟩)
end My
namespace My
open PySem L2
theorem hu1_of {A : Around} {k : Nat} (hr : Room k A) : A.units < cLine := Nat.lt_of_succ_lt (hu_of hr)
/-! ### {k: v for ..}, the keys tuples -/
section
open PySem.Spec PyProof.Rows
variable {X : Cx}
theorem storeT {pins : List (Addr × Obj)} {σ : L2.St} {H : Hp} {s : Shared} {E : Value → Shared → Prop} {D b : Addr} {kvs : List (List Key × V)} {k : List Key} {v : V} {r : Value} {Q : Unit → Shared → Prop}
    (hu : X.A.units < cLine) (I : Inv X pins σ H s) (hD : H D = some (.dT kvs)) (hb : H b = some (.tup (k.map kV))) (few : kvs.length < sizeLine) (rv : RelV v r)
    (fin : ∀ s', Inv X pins σ (upd H D (.dT (putK kvs k v))) s' → Q () s') : wpAny (model X.prog X.w) X.A (dictSet D (.ref b) r) Q E s := by
  obtain ⟨z, lo, xs, rel, dd⟩ := dt_of I.hok hD
  have few2 : xs.length ≤ sizeLine := (Paired.length rel) ▸ z
  have grown := length_putK kvs k v
  refine wpAny_dictSet_heap (hsz := few2) hu (key_of I.hok hb) dd fun h2 dd2 sb => fin _ ?_
  obtain ⟨o2, es2, ep2, g1, g2, g3, g4, _, g5⟩ := dd2
  have there : ∃ o, h2.get? D = some o := ⟨o2, g1⟩
  have mine : ∀ (c : Addr) (ys : List V), H c = some (.tup ys) → upd H D (.dT (putK kvs k v)) c = some (.tup ys) := fun c ys hh => by
    have hne : c ≠ D := fun e => by
      rw [e, hD] at hh
      cases hh
    rw [upd_ne hne]
    exact hh
  exact d_write I (by rw [hD]; exact True.intro) sb there ⟨by omega, lo, _, (rel.put k hb rv).keeps mine, o2, es2, ep2, g1, g2, g3, g4, g5⟩
def tDcT (wi : TI) (g : TG) (tt : TT) (tk tv : TE) (vs : List Nat) : TE := fun σ H Q => wi σ H fun J Ha => ∀ D, Ha D = none → ∃ W : Nat → Nat → Hp → Prop,
  (∃ m, W 0 m (upd Ha D (.dT []))) ∧ ∀ i m Hb, W i m Hb → (J.stop i Hb ∧ Q (.ref D) Hb) ∨ (J.go i Hb ∧ ∃ Nx : Hp → Prop, (∀ Hc, Nx Hc → ∃ m2, m2 < m ∧ W (i + 1) m2 Hc) ∧
    ∀ x Hc, J.yld i Hb x Hc → g x (wipe σ vs) Hc fun σ2 Hd => wipe σ2 vs = wipe σ vs ∧ tt σ2 Hd fun kept He => if kept = true then
      tk σ2 He fun y Hf => tv σ2 Hf fun z Hg => ∃ (kvs : List (List Key × V)) (k : List Key) (b : Addr), y = .ref b ∧ Hg b = some (.tup (k.map kV)) ∧ Hg D = some (.dT kvs) ∧ kvs.length < sizeLine ∧ Nx (upd Hg D (.dT (putK kvs k z))) else Nx He)
theorem pe_dcT {kx vx tg iter : Expr} {ifs : List Expr} {scope : Scope} {own : List (Str × Nat)} {pos : Pos} {wi : TI} {g : TG} {tt : TT} {tk tv : TE} (hu : X.A.units < cLine) (hc : X.calm = true) (hN : X.N.Nodup) (hi : PI X tg iter wi) (ok : BlkOk X.N X.env.scope scope own)
    (pgs : ∀ (sh : Shared) (Hx : Hp) (C : Addr) (cl : List (Str × Addr)) (fp : List Addr), PG (X.blk sh Hx scope (compEnvC scope cl C X.env) fp) tg g)
    (pts : ∀ (sh : Shared) (Hx : Hp) (C : Addr) (cl : List (Str × Addr)) (fp : List Addr), PTs (X.blk sh Hx scope (compEnvC scope cl C X.env) fp) ifs tt)
    (pks : ∀ (sh : Shared) (Hx : Hp) (C : Addr) (cl : List (Str × Addr)) (fp : List Addr), PE (X.blk sh Hx scope (compEnvC scope cl C X.env) fp) kx tk)
    (pvs : ∀ (sh : Shared) (Hx : Hp) (C : Addr) (cl : List (Str × Addr)) (fp : List Addr), PE (X.blk sh Hx scope (compEnvC scope cl C X.env) fp) vx tv)
    (folded : ∀ x, foldedSetIterable iter X.env x = pure x := by intro _; rfl) : PE X (.DictComp kx vx [⟨tg, iter, ifs, 0⟩] scope pos) (tDcT wi g tt tk tv (own.map (·.2))) := by
  refine ⟨fun pins s σ H Q I h => ?_⟩
  rw [arm_eval_DictComp]
  have cells : ∀ y ∈ scope.names, y.2 = .free → ∃ c, X.env.cells.lookup y.1 = some c := fun y hy e => (ok.free y hy e).elim (fun k => I.ok.has _ (.inl k)) (fun k => I.ok.has _ (.inr k))
  refine wpAny_comprehension_free rfl folded (closure_ok cells) ok.kind (fun y hy e => by rw [ok.uniq y hy, e]) (thn (hi.run pins s σ H _ I h) fun xv s1 hx => thn hx fun itv s2 started => ?_)
  obtain ⟨it, fp, tn, J, Ha, rfl, I2, T, at0, ours, turns⟩ := started
  refine wpAny_newObj_type (newEnv_comp ?_)
  -- the new dict's place
  obtain ⟨D, hD⟩ : ∃ D, D = s2.heap.objs.size := ⟨_, rfl⟩
  obtain ⟨W, ⟨m0, w0⟩, turn⟩ := turns D (I2.hok.fresh (Nat.le_of_eq hD.symm))
  have Inew : Inv X pins σ (upd Ha D (.dT [])) { s2 with heap := s2.heap.push { cls := .type "dict", data := .dict #[] } } := by
    subst hD
    exact I2.laid (t' := s2.toks) (fun b o e => Heap.get?_push_of_some _ e) (Nat.le_refl _) (dt_empty s2.heap I2.big)
  obtain ⟨s3, hs3⟩ : ∃ s3 : Shared, s3 = { s2 with heap := s2.heap.push { cls := .type "dict", data := .dict #[] } } := ⟨_, rfl⟩
  rw [← hs3] at Inew ⊢
  rw [← hD]
  have s3h : s3.heap = s2.heap.push { cls := .type "dict", data := .dict #[] } := congrArg Shared.heap hs3
  have inHeap : ∀ b ∈ fp, b < s2.heap.objs.size := fun b hb => (T.obj _ _ at0 b hb).elim fun o e => Heap.lt_size e.1
  have ours3 : ∀ b ∈ fp, FpOk X pins (upd Ha D (.dT [])) b ∧ b < s3.heap.objs.size := fun b hb => by
    have lt := inHeap b hb
    have ne : b ≠ D := fun e => by
      rw [e, hD] at lt
      exact Nat.lt_irrefl _ lt
    refine ⟨⟨(upd_ne ne).trans (ours b hb).1, (ours b hb).2⟩, ?_⟩
    rw [s3h, Heap.size_push]
    exact Nat.lt_succ_of_lt lt
  have at3 : tn 0 s3.heap := T.keep _ _ _ at0 fun b _ o e => by
    rw [s3h]
    exact Heap.get?_push_of_some _ e
  obtain ⟨H3, hH3⟩ : ∃ H3, H3 = upd Ha D (.dT []) := ⟨_, rfl⟩
  rw [← hH3] at Inew ours3 w0
  have Iblk := block_start Inew ok hN ours3
  obtain ⟨C, hC⟩ : ∃ C, C = s3.heap.objs.size := ⟨_, rfl⟩
  have pg := pgs s3 H3 C (cellsFrom (C + 1) scope.names (cloFrom X.env.cells scope.names [])) fp
  have pt := pts s3 H3 C (cellsFrom (C + 1) scope.names (cloFrom X.env.cells scope.names [])) fp
  have pk := pks s3 H3 C (cellsFrom (C + 1) scope.names (cloFrom X.env.cells scope.names [])) fp
  have pv := pvs s3 H3 C (cellsFrom (C + 1) scope.names (cloFrom X.env.cells scope.names [])) fp
  obtain ⟨ce, hce⟩ : ∃ ce, ce = compEnvC scope (cellsFrom (C + 1) scope.names (cloFrom X.env.cells scope.names [])) C X.env := ⟨_, rfl⟩
  obtain ⟨s4, hs4⟩ : ∃ s4 : Shared, s4 = { s3 with heap := pushCells (s3.heap.push { cls := .type "dict", data := .dict #[] }) scope.names } := ⟨_, rfl⟩
  suffices goal : codeAny (model X.prog X.w) X.A (.compLoop (.DictComp kx vx [⟨tg, iter, ifs, 0⟩] scope pos) 0 (.ref it) (.ref D) ce) (compPost (model X.prog X.w) X.A X.xe none (EP X pins σ Q) (.ref D) C) s4 by
    have at4 : tn 0 s4.heap := T.keep _ _ _ at3 fun b _ o e => by
      rw [hs4]
      exact pushCells_keeps _ _ _ _ (Heap.get?_push_of_some _ e)
    have start := codeAny_compStart_dict goal (T.self X.A 0 _ _ _ at4 goal)
    rw [hce, hC, hs4] at start
    exact start
  have at4 : tn 0 s4.heap := T.keep _ _ _ at3 fun b _ o e => by
    rw [hs4]
    exact pushCells_keeps _ _ _ _ (Heap.get?_push_of_some _ e)
  rw [← hC] at Iblk
  rw [← hce] at Iblk pg pt pk pv
  rw [← hs4] at Iblk
  have atC : ce.locals = C := by rw [hce]; rfl
  have free3 : ∀ b ∈ fp, H3 b = none := fun b hb => (ours3 b hb).1.1
  have stays : ∀ {σx : L2.St} {Hx : Hp} {sx : Shared}, Inv (X.blk s3 H3 scope ce fp) [] σx Hx sx → (∀ b ∈ fp, Hx b = none) → ∀ b ∈ fp, FpOk (X.blk s3 H3 scope ce fp) [] Hx b :=
    fun {σx Hx sx} Ix hn b hb => ⟨hn b hb, (Ix.ok.exf b hb).1, Ix.ok.exfs b hb, .inl hb, fun x c e => (Ix.ok.exf b hb).2 x c e, fun p hp => by
      have : p ∈ ([] : List (Addr × Obj)) ++ [] := hp
      cases this⟩
  refine compLoop_anyD (fun n sx => ∃ i Hx, Inv (X.blk s3 H3 scope ce fp) [] (wipe σ (own.map (·.2))) Hx sx ∧ tn i sx.heap ∧ (∀ b ∈ fp, Hx b = none) ∧ W i n Hx) ?_ m0 ⟨0, H3, Iblk, at4, free3, w0⟩
  intro n s5 hyp
  obtain ⟨i, H5, I5, at5, free5, w5⟩ := hyp
  rcases turn i n H5 w5 with ⟨ends, won⟩ | ⟨goes, Nx, less, step⟩
  · refine thnF (T.done (X.blk s3 H3 scope ce fp) rfl rfl rfl hc i [] s5 _ H5 (fun _ _ => False) I5 (stays I5 free5) at5 ends) fun r s6 over => ?_
    obtain ⟨rfl, I6⟩ := over
    have Iout : Inv X pins σ H5 s6 := Inew.call' (ch := fp) I6.os I6.base I6.hok I6.bare fun b hb => by
      have z := (ours3 b hb).1.2
      exact ⟨z.2.2.1, z.1, z.2.2.2.1, z.2.2.2.2⟩
    have freeC : H5 C = none := atC ▸ I6.free
    obtain ⟨m, ns, _⟩ := I6.loc
    have ns : s6.heap.Ns C m := atC ▸ ns
    refine ⟨m, ns, fun h2 sb => ?_⟩
    obtain ⟨f0, f1, f2, f3, f4, f5⟩ := Inew.fpOk (Nat.le_of_eq hC.symm) freeC
    exact ⟨.ref D, H5, Iout.turned (t' := s6.toks) (fun b o hb e => (sb.2 b hb).trans e) f0 f1 f3 f4 f5, rfl, won⟩
  · refine thnF (T.item (X.blk s3 H3 scope ce fp) rfl rfl rfl hc i [] s5 _ H5 (fun _ _ => False) I5 (stays I5 free5) at5 goes) fun r s6 got => ?_
    obtain ⟨u, rfl, h6⟩ := got
    refine thnF h6 fun _ s7 came => ?_
    obtain ⟨x, H7, I7, r7, y7, at7, free7⟩ := came
    refine thnF (pg.run _ s7 _ H7 x u _ (I7.pinned (stays I7 free7) (T.obj _ _ at7)) r7 (step x H7 y7)) fun _ s8 set8 => ?_
    obtain ⟨σ8, H8, I8, same8, q8⟩ := set8
    refine thnF (pt.run _ s8 σ8 H8 _ I8 q8) fun kept s9 told => ?_
    obtain ⟨H9, I9, q9⟩ := told
    have close : ∀ {sx : Shared} {Hx : Hp}, Inv (X.blk s3 H3 scope ce fp) ([] ++ pinsAt fp s7.heap) σ8 Hx sx → Nx Hx → ∃ m, m < n ∧ ∃ i Hy, Inv (X.blk s3 H3 scope ce fp) [] (wipe σ (own.map (·.2))) Hy sx ∧ tn i sx.heap ∧ (∀ b ∈ fp, Hy b = none) ∧ W i m Hy := fun {sx Hx} Ix nx => by
      obtain ⟨m2, lt2, w2⟩ := less Hx nx
      have pin : ∀ b ∈ fp, ∀ o, s7.heap.get? b = some o → sx.heap.get? b = some o ∧ Hx b = none := fun b hb o e => by
        have z := Ix.pin (b, o) (List.mem_append_right _ (List.mem_append_right _ (mem_pinsAt hb e)))
        exact ⟨z.1, z.2.1⟩
      have len8 : (wipe σ (own.map (·.2))).length = σ8.length := by
        rw [← same8, wipe_length]
      refine ⟨m2, lt2, i + 1, Hx, (Ix.unpinned (pins := [])).weak len8 (fun j v e => ?_), T.keep _ _ _ at7 (fun b hb o e => (pin b hb o e).1), (fun b hb => ?_), w2⟩
      · rw [← same8] at e
        exact (wipe_some e).1
      · obtain ⟨o, e, _⟩ := T.obj _ _ at7 b hb
        exact (pin b hb o e).2
    cases kept with
    | false => exact close I9 q9
    | true =>
      refine thnF (pk.run _ s9 σ8 H9 _ I9 q9) fun z1 s10 key => ?_
      obtain ⟨yk, H10, I10, r10, q10⟩ := key
      refine thnF (pv.run _ s10 σ8 H10 _ I10 q10) fun z2 s11 val => ?_
      obtain ⟨yv, H11, I11, r11, kvs, k, b, rfl, hb11, hD11, few11, nx⟩ := val
      cases (show z1 = Value.ref b from r10)
      exact storeT (X := X.blk s3 H3 scope ce fp) hu I11 hD11 hb11 few11 r11 fun s12 I12 => close I12 nx
end
/-! ### a dict whose keys are pairs of whole numbers, its values whole numbers -/
abbrev PK := (Int × Int) × Int
def kT (p : Int × Int) : List Key := [.inl p.1, .inl p.2]
def kvT (e : PK) : List Key × V := (kT e.1, .int e.2)
def tget (E : List PK) (p : Int × Int) : Option Int := (E.find? fun e => decide (e.1 = p)).map (·.2)
def tput (E : List PK) (p : Int × Int) (v : Int) : List PK := if p ∈ E.map Prod.fst then E.map (fun e => if e.1 = p then (e.1, v) else e) else E ++ [(p, v)]
theorem kT_inj {p q : Int × Int} : kT p = kT q ↔ p = q := by
  constructor
  · intro h
    obtain ⟨a, b⟩ := p
    obtain ⟨c, d⟩ := q
    injection h with h1 h2
    injection h2 with h2 _
    injection h1 with h1
    injection h2 with h2
    have h1 : a = c := h1
    have h2 : b = d := h2
    rw [h1, h2]
  · rintro rfl
    rfl
theorem kT_kV (p : Int × Int) : (kT p).map kV = [.int p.1, .int p.2] := rfl
theorem valV_T (E : List PK) (p : Int × Int) : valV (E.map kvT) (kT p) = (tget E p).map V.int := by
  unfold valV tget
  induction E with
  | nil => rfl
  | cons e r ih =>
    rw [List.map_cons, List.find?_cons, List.find?_cons]
    by_cases h : e.1 = p
    · rw [decide_eq_true h, decide_eq_true (show (kvT e).1 = kT p from kT_inj.mpr h)]
      rfl
    · rw [decide_eq_false h, decide_eq_false (show ¬ (kvT e).1 = kT p from fun z => h (kT_inj.mp z))]
      exact ih
theorem putK_T (E : List PK) (p : Int × Int) (v : Int) : putK (E.map kvT) (kT p) (.int v) = (tput E p v).map kvT := by
  have hany : ((E.map kvT).any fun kv => decide (kv.1 = kT p)) = decide (p ∈ E.map Prod.fst) := by
    induction E with
    | nil => rfl
    | cons e r ih =>
      rw [List.map_cons, List.any_cons, ih]
      have e1 : decide ((kvT e).1 = kT p) = decide (e.1 = p) := decide_eq_decide.mpr kT_inj
      rw [e1, ← Bool.decide_or]
      refine decide_eq_decide.mpr ?_
      rw [List.map_cons, List.mem_cons]
      exact ⟨fun z => z.imp_left Eq.symm, fun z => z.imp_left Eq.symm⟩
  unfold putK tput
  rw [hany]
  by_cases h : p ∈ E.map Prod.fst
  · rw [if_pos (decide_eq_true h), if_pos h, List.map_map, List.map_map]
    refine List.map_congr_left fun e _ => ?_
    show (if (kvT e).1 = kT p then ((kvT e).1, V.int v) else kvT e) = kvT (if e.1 = p then (e.1, v) else e)
    by_cases h2 : e.1 = p
    · rw [if_pos h2, if_pos (show (kvT e).1 = kT p from kT_inj.mpr h2)]
      rfl
    · rw [if_neg h2, if_neg (show ¬ (kvT e).1 = kT p from fun z => h2 (kT_inj.mp z))]
  · rw [if_neg (by rw [decide_eq_false h]; decide), if_neg h, List.map_append]
    rfl
@[irreducible] def mDGetT (x y : V) (H : Hp) (Q : VK) : Prop := ∃ a kvs k b v, x = .ref a ∧ y = .ref b ∧ Rd H a (.dT kvs) ∧ H b = some (.tup (k.map kV)) ∧ valV kvs k = some v ∧ Q v H
@[irreducible] def mDPutT (x y v : V) (H : Hp) (k : Hp → Prop) : Prop := ∃ a kvs key b, x = .ref a ∧ y = .ref b ∧ H a = some (.dT kvs) ∧ H b = some (.tup (key.map kV)) ∧ kvs.length < 1000000 ∧ k (upd H a (.dT (putK kvs key v)))
@[irreducible] def mDGet2T (x y z : V) (H : Hp) (Q : VK) : Prop := ∃ a kvs k b, x = .ref a ∧ y = .ref b ∧ Rd H a (.dT kvs) ∧ H b = some (.tup (k.map kV)) ∧ Q ((valV kvs k).getD z) H
def mDGetTE (td ty : TE) : TE := fun σ H Q => td σ H fun x H1 => ty σ H1 fun y H2 => mDGetT x y H2 Q
def mSDPutT (td ty tv : TE) : TS := fun D σ H => tv σ H fun v H1 => td σ H1 fun x H2 => ty σ H2 fun y H3 => mDPutT x y v H3 fun H4 => D.nx σ H4
@[irreducible] def mIsDT (x : V) (H : Hp) (A : Prop) : Prop := (∃ a kvs, x = .ref a ∧ Rd H a (.dT kvs)) ∧ A
def mDGet2TE (td ty tz : TE) : TE := fun σ H Q => td σ H fun x H1 => mIsDT x H1 (ty σ H1 fun y H2 => tz σ H2 fun z H3 => mDGet2T x y z H3 Q)
section
variable {a b : Addr} {E : List PK} {p : Int × Int} {v : Int} {H : Hp} {Q : VK}
theorem rd_dgetT (h : Rd H a (.dT (E.map kvT))) (hb : H b = some (.tup [.int p.1, .int p.2])) (e : tget E p = some v) (q : Q (.int v) H) : mDGetT (.ref a) (.ref b) H Q := by
  unfold mDGetT
  exact ⟨a, _, kT p, b, .int v, rfl, rfl, h, hb, by rw [valV_T, e]; rfl, q⟩
theorem rd_dget2T (h : Rd H a (.dT (E.map kvT))) (hb : H b = some (.tup [.int p.1, .int p.2])) (q : Q (.int ((tget E p).getD v)) H) : mDGet2T (.ref a) (.ref b) (.int v) H Q := by
  unfold mDGet2T
  refine ⟨a, _, kT p, b, rfl, rfl, h, hb, ?_⟩
  rw [valV_T]
  cases e : tget E p with
  | none => rw [e] at q; exact q
  | some u => rw [e] at q; exact q
theorem rd_dputT {k : Hp → Prop} (h : H a = some (.dT (E.map kvT))) (hb : H b = some (.tup [.int p.1, .int p.2])) (hz : E.length < 1000000) (q : k (upd H a (.dT ((tput E p v).map kvT)))) : mDPutT (.ref a) (.ref b) (.int v) H k := by
  unfold mDPutT
  refine ⟨a, _, kT p, b, rfl, rfl, h, hb, by rw [List.length_map]; exact hz, ?_⟩
  rw [putK_T]
  exact q
theorem rd_isDT {kvs : List (List Key × V)} {A : Prop} (h : Rd H a (.dT kvs)) (q : A) : mIsDT (.ref a) H A := by
  unfold mIsDT
  exact ⟨⟨a, kvs, rfl, h⟩, q⟩
end
section
variable {X : Cx} {o i e f value : Expr} {td ty tz tv : TE} {pos pos' apos cpos : Pos}
theorem pe_dgetTM (hu : X.A.units + 1 < cLine) (ho : PE X o td) (hi : PE X i ty) (hs : NoSl i := by exact fun _ _ => rfl) : PE X (.Subscript o i pos) (mDGetTE td ty) :=
  pe_weak (pe_dget hu (pe_c ho) (pe_c hi) hs) fun σ H Q q => ⟨_, q, fun x H1 r => ⟨_, r, fun y H2 r => by
    unfold mDGetT at r
    obtain ⟨a, kvs, k, b, v, rfl, rfl, h, hb, hv, r⟩ := r
    exact ⟨a, v, rfl, .inr ⟨kvs, k, b, h, rfl, hb, hv.symm⟩, r⟩⟩⟩
theorem ps_dputTM (hu : X.A.units + 1 < cLine) (ho : PE X o td) (hi : PE X i ty) (hv : PE X value tv) (hs : swapsWith value (some (.Subscript o i pos')) pos.line X.env = pure false := by rfl) : PS X (.Assign [.Subscript o i pos'] value pos) (mSDPutT td ty tv) :=
  ps_weak (ps_dput hu (pe_c ho) (pe_c hi) (pe_c hv) hs) fun D σ H q => ⟨_, q, fun v H1 r => ⟨_, r, fun x H2 r => ⟨_, r, fun y H3 r => by
    unfold mDPutT at r
    obtain ⟨a, kvs, k, b, rfl, rfl, h, hb, hl, r⟩ := r
    exact ⟨a, _, rfl, .inr ⟨kvs, k, b, h, rfl, hb, szl hl, rfl⟩, r⟩⟩⟩⟩
theorem pe_dget2TM (hu : X.A.units + 1 < cLine) (ho : PE X o td) (he : PE X e ty) (hf : PE X f tz) (hbase : attributeBase o "get" X.env (eval o X.env) = eval o X.env := by rfl)
    (hfew : ((backTo cpos (starEach [e, f] X.env)).all (fun x => !x.1) && (backToKw cpos (keywordEach [] X.env)).all (fun x => x.1.isSome)
      && decide ([e, f].length + ([] : List Keyword).length + (if ([] : List Keyword).isEmpty then 0 else 1) < 30)) = true := by rfl)
    (hline : (apos.endLine == cpos.line) = true := by rfl) (htr : backTo cpos (starEach [e, f] X.env) = [(false, eval e X.env), (false, eval f X.env)] := by rfl) : PE X (.Call (.Attribute o "get" apos) [e, f] [] cpos) (mDGet2TE td ty tz) :=
  pe_weak (pe_dget2 hu (pe_c ho) (pe_c he) (pe_c hf) ⟨hbase, hfew, hline, htr⟩) fun σ H Q q => ⟨_, q, fun x H1 r => by
    unfold mIsDT at r
    obtain ⟨⟨a, kvs, rfl, h⟩, r⟩ := r
    exact ⟨a, rfl, .inr ⟨kvs, h⟩, _, r, fun y H2 r => ⟨_, r, fun z H3 r => by
      unfold mDGet2T at r
      obtain ⟨a2, kvs2, k, b, e1, rfl, h2, hb, r⟩ := r
      cases e1
      exact ⟨_, .inr ⟨kvs2, k, b, h2, rfl, hb, rfl⟩, r⟩⟩⟩⟩
end
/-! ### its keys, listed and sorted -/
structure PsAt (H : Hp) (bs : List Addr) (ps : List (Int × Int)) : Prop where
  ln : bs.length = ps.length
  at' : ∀ (i : Nat) (b : Addr) (q : Int × Int), bs[i]? = some b → ps[i]? = some q → H b = some (.tup [.int q.1, .int q.2])
theorem PsAt.mono {H H' : Hp} {bs : List Addr} {ps : List (Int × Int)} (h : PsAt H bs ps) (s : Same H H') : PsAt H' bs ps := ⟨h.ln, fun i b q e1 e2 => s _ _ (h.at' i b q e1 e2)⟩
def prAt (H : Hp) (b : Addr) : Int × Int := match H b with
  | some (.tup [.int i, .int j]) => (i, j)
  | _ => (0, 0)
theorem prAt_of {H : Hp} {b : Addr} {q : Int × Int} (h : H b = some (.tup [.int q.1, .int q.2])) : prAt H b = q := by
  unfold prAt
  rw [h]
theorem PsAt.eq {H : Hp} {bs : List Addr} {ps : List (Int × Int)} (h : PsAt H bs ps) : ps = bs.map (prAt H) := by
  refine List.ext_getElem? fun i => ?_
  rw [List.getElem?_map]
  cases e : bs[i]? with
  | none => exact List.getElem?_eq_none (by rw [← h.ln]; exact List.getElem?_eq_none_iff.mp e)
  | some b =>
    have hi := (List.getElem?_eq_some_iff.mp e).1
    rw [h.ln] at hi
    have e2 := List.getElem?_eq_getElem hi
    rw [e2]
    exact congrArg some (prAt_of (h.at' i b _ e e2)).symm
/-- in the order of pairs -/
def leP (p q : Int × Int) : Prop := p.1 < q.1 ∨ (p.1 = q.1 ∧ p.2 ≤ q.2)
@[irreducible] def mListDT : List V → Hp → VK → Prop := fun xs H Q => ∃ (a : Addr) (E : List PK), xs = [.ref a] ∧ Rd H a (.dT (E.map kvT)) ∧ ∀ bs : List Addr, PsAt H bs (E.map Prod.fst) → NewO (.lst (bs.map V.ref)) H Q
@[irreducible] def mSortDT : List V → Hp → VK → Prop := fun xs H Q => ∃ (a : Addr) (E : List PK), xs = [.ref a] ∧ Rd H a (.dT (E.map kvT)) ∧ ∀ (bs : List Addr) (ps : List (Int × Int)), PsAt H bs ps → ps.Perm (E.map Prod.fst) → ps.Pairwise leP → NewO (.lst (bs.map V.ref)) H Q
@[irreducible] def mSortLP (K : PySem.W.Frag) : List V → Hp → VK → Prop := fun xs H Q => ∃ (a : Addr) (bs0 : List Addr) (ps0 : List (Int × Int)), xs = [.ref a] ∧ SqL K H a (bs0.map V.ref) ∧ PsAt H bs0 ps0 ∧ ∀ (bs : List Addr) (ps : List (Int × Int)), PsAt H bs ps → ps.Perm ps0 → ps.Pairwise leP → NewO (.lst (bs.map V.ref)) H Q
section
variable {K : PySem.W.Frag} {H : Hp} {Q : VK} {a : Addr} {E : List PK}
theorem rd_listDT (h : Rd H a (.dT (E.map kvT))) (q : ∀ bs : List Addr, PsAt H bs (E.map Prod.fst) → NewO (.lst (bs.map V.ref)) H Q) : mListDT [.ref a] H Q := by
  unfold mListDT
  exact ⟨a, E, rfl, h, q⟩
theorem rd_sortDT (h : Rd H a (.dT (E.map kvT))) (q : ∀ (bs : List Addr) (ps : List (Int × Int)), PsAt H bs ps → ps.Perm (E.map Prod.fst) → ps.Pairwise leP → NewO (.lst (bs.map V.ref)) H Q) : mSortDT [.ref a] H Q := by
  unfold mSortDT
  exact ⟨a, E, rfl, h, q⟩
theorem rd_sortLP {bs0 : List Addr} {ps0 : List (Int × Int)} (h : SqL K H a (bs0.map V.ref)) (hp : PsAt H bs0 ps0) (q : ∀ (bs : List Addr) (ps : List (Int × Int)), PsAt H bs ps → ps.Perm ps0 → ps.Pairwise leP → NewO (.lst (bs.map V.ref)) H Q) : mSortLP K [.ref a] H Q := by
  unfold mSortLP
  exact ⟨a, bs0, ps0, rfl, h, hp, q⟩
end
theorem keysP {H : Hp} {bs : List Addr} : ∀ {E : List PK}, IsKeys H (E.map kvT) bs → PsAt H bs (E.map Prod.fst) := by
  unfold IsKeys
  intro E
  induction E generalizing bs with
  | nil =>
    intro h
    cases h
    exact ⟨rfl, fun i b q e => by cases e⟩
  | cons e r ih =>
    intro h
    cases h with
    | cons h1 h2 =>
      have k := ih h2
      refine ⟨congrArg Nat.succ k.ln, fun i b q e1 e2 => ?_⟩
      cases i with
      | zero =>
        cases e1
        cases e2
        exact h1
      | succ i => exact k.at' i b q e1 e2
theorem call_listDTM {X : Cx} (hc : X.calm = true) : CallR X (.type "list") mListDT := fun pins s σ H xs us Q I r q => call_list_dT hc pins s σ H xs us Q I r (by
  unfold mListDT at q
  obtain ⟨a, E, e, h, q⟩ := q
  exact ⟨a, _, e, h, fun p bs hp hk => (q bs (keysP hk)).go p hp⟩)
theorem ref_list : ∀ {xs : List V}, (∀ x ∈ xs, ∃ b : Addr, x = .ref b) → ∃ bs : List Addr, xs = bs.map V.ref
  | [], _ => ⟨[], rfl⟩
  | x :: r, h => by
    obtain ⟨b, rfl⟩ := h x (.head _)
    obtain ⟨bs, rfl⟩ := ref_list fun y hy => h y (.tail _ hy)
    exact ⟨b :: bs, rfl⟩
def prV (H : Hp) (v : V) : Int × Int := match v with
  | .ref b => prAt H b
  | _ => (0, 0)
theorem psAt_sub {H : Hp} {bs0 bs : List Addr} {ps0 : List (Int × Int)} (h : PsAt H bs0 ps0) (hs : ∀ b ∈ bs, b ∈ bs0) : PsAt H bs (bs.map (prAt H)) := by
  refine ⟨by rw [List.length_map], fun i b q e1 e2 => ?_⟩
  rw [List.getElem?_map, e1] at e2
  cases e2
  obtain ⟨j, hj⟩ := List.getElem?_of_mem (hs b (List.mem_of_getElem? e1))
  have hjl := (List.getElem?_eq_some_iff.mp hj).1
  rw [h.ln] at hjl
  have z := h.at' j b _ hj (List.getElem?_eq_getElem hjl)
  rw [prAt_of z]
  exact z
theorem leP_no {p q : Int × Int} (h : SrtO.lexB q p = false) : leP p q := by
  have := SrtO.lexB_no.mp h
  unfold leP
  omega
def unref (v : V) : Addr := match v with
  | .ref b => b
  | _ => 0
theorem refs_perm {bs cs : List Addr} (h : (bs.map V.ref).Perm (cs.map V.ref)) : bs.Perm cs := by
  have k := h.map unref
  rw [List.map_map, List.map_map] at k
  have e : ∀ l : List Addr, l.map (unref ∘ V.ref) = l := fun l => by
    induction l with
    | nil => rfl
    | cons x r ih => rw [List.map_cons, ih]; rfl
  rw [e, e] at k
  exact k
theorem call_sortLPM {X : Cx} : CallR X (.builtin "sorted") (mSortLP X.K) := fun pins s σ H xs us Q I r q => cr_sortedPO pins s σ H xs us Q I r (by
  unfold mSortLP at q
  obtain ⟨a, bs0, ps0, e, hs, hp, q⟩ := q
  refine ⟨a, bs0.map V.ref, prV H, e, hs, fun x hx => ?_, fun ys p srt stb hn => ?_⟩
  · obtain ⟨b, hb, rfl⟩ := List.mem_map.mp hx
    obtain ⟨j, hj⟩ := List.getElem?_of_mem hb
    have hjl := (List.getElem?_eq_some_iff.mp hj).1
    rw [hp.ln] at hjl
    have z := hp.at' j b _ hj (List.getElem?_eq_getElem hjl)
    refine ⟨b, rfl, ?_⟩
    show H b = some (.tup [.int (prAt H b).1, .int (prAt H b).2])
    rw [prAt_of z]
    exact z
  · obtain ⟨bs, rfl⟩ := ref_list (xs := ys) fun x hx => by
      obtain ⟨b, _, rfl⟩ := List.mem_map.mp (stb.perm.mem_iff.mp hx)
      exact ⟨b, rfl⟩
    have pm : bs.Perm bs0 := refs_perm stb.perm
    refine (q bs (bs.map (prAt H)) (psAt_sub hp fun b hb => pm.mem_iff.mp hb) ?_ ?_).go p hn
    · rw [hp.eq]
      exact pm.map _
    · have srt2 := List.pairwise_map.mp srt
      exact List.pairwise_map.mpr (srt2.imp fun {x y} h => leP_no h))
theorem ref_vals : ∀ {xs : List Value}, (∀ x ∈ xs, ∃ b : Addr, x = .ref b) → ∃ bs : List Addr, xs = bs.map Value.ref
  | [], _ => ⟨[], rfl⟩
  | x :: r, h => by
    obtain ⟨b, rfl⟩ := h x (.head _)
    obtain ⟨bs, rfl⟩ := ref_vals fun y hy => h y (.tail _ hy)
    exact ⟨b :: bs, rfl⟩
def vunref (v : Value) : Addr := match v with
  | .ref b => b
  | _ => 0
theorem vrefs_perm {bs cs : List Addr} (h : (bs.map Value.ref).Perm (cs.map Value.ref)) : bs.Perm cs := by
  have k := h.map vunref
  rw [List.map_map, List.map_map] at k
  have e : ∀ l : List Addr, l.map (vunref ∘ Value.ref) = l := fun l => by
    induction l with
    | nil => rfl
    | cons x r ih => rw [List.map_cons, ih]; rfl
  rw [e, e] at k
  exact k
section
open PySem.Spec PyProof.Rows
variable {X : Cx}
theorem call_sortDTM (hcl : X.calm = true) : CallR X (.builtin "sorted") mSortDT := by
  intro pins st σ H xs vals Q inv rv q
  unfold mSortDT at q
  obtain ⟨a, E, rfl, hd, q⟩ := q
  obtain ⟨u, rfl, ru⟩ := vals1 rv
  cases ru
  obtain ⟨z, lo, ks, pr, o, es, ep, ho, hx, hdt, he, hn⟩ := (show ObjOk X.prog X.w H st.heap a (.dT (E.map kvT)) from hd.ok inv.hok)
  have l1 : es.size = ks.length := size_of_entries he
  have l2 : (E.map kvT).length = ks.length := Paired.length pr
  have few : es.size ≤ sizeLine := by omega
  refine (Calls.call_function_entry kind_sorted plain_sorted entry_sorted (args_sorted1 _) ?_)
  unfold Builtin.«sorted»
  refine (wpAny_bind (m := checkCount "sorted" 1 1 _) (wpAny_pure ?_))
  refine (wpAny_bind (PySem.W.kdu_collect (A := X.A.in1) (kdl_raw lo hx hdt) (inv.ok.hd hcl) ho few fun h2 tk acc kp hacc => ?_))
  have hal : acc.toList.length = ks.length := by rw [Array.length_toList, hacc.1, l1]
  have eacc : acc.toList = (ks.map fun y => y.2.1).map Value.ref := by
    refine List.ext_getElem? fun j => ?_
    rw [List.getElem?_map, List.getElem?_map]
    cases hj : acc.toList[j]? with
    | none =>
      have hle := List.getElem?_eq_none_iff.mp hj
      rw [List.getElem?_eq_none (show ks.length ≤ j by omega)]
      all_goals rfl
    | some v =>
      obtain ⟨en, hen, hv⟩ := hacc.2 j v (by rw [← Array.getElem?_toList]; exact hj)
      have qe := entry_at he j
      rw [hen] at qe
      cases hb : ks[j]? with
      | none =>
        rw [hb] at qe
        cases (show some en = none from qe)
      | some b =>
        rw [hb] at qe
        rw [hv, Option.some.inj (show some en = some _ from qe)]
        all_goals rfl
  have keysAt : PsAt H (ks.map fun y => y.2.1) (E.map Prod.fst) := keysP (isKeys_of pr)
  generalize (ks.map fun y => y.2.1) = bs0 at eacc keysAt
  have inv2 : Inv X pins σ H { st with heap := h2, toks := tk } := inv.kept kp
  have hal2 : acc.toList.length ≤ sizeLine := by omega
  refine (wpAny_bind (wpAny_newList ?_ hal2))
  have hnew : (h2.push (seqObj "list" acc.toList.toArray 0)).get? h2.objs.size = some (seqObj "list" acc.toList.toArray 0) := Heap.get?_push_size _ rfl
  show wpAny _ _ _ _ _ { st with heap := h2.push (seqObj "list" acc.toList.toArray 0), toks := tk }
  have pairs : ∀ v ∈ acc.toList, Srt.IsPair (h2.push (seqObj "list" acc.toList.toArray 0)) v (prV H (backV v)).1 (prV H (backV v)).2 := fun v hv => by
    rw [eacc] at hv
    obtain ⟨b, hb, rfl⟩ := List.mem_map.mp hv
    obtain ⟨j, hj⟩ := List.getElem?_of_mem hb
    have hjl := (List.getElem?_eq_some_iff.mp hj).1
    rw [keysAt.ln] at hjl
    have zz := keysAt.at' j b _ hj (List.getElem?_eq_getElem hjl)
    have eb : prV H (backV (Value.ref b)) = (E.map Prod.fst)[j] := prAt_of zz
    rw [eb]
    obtain ⟨_, its2, r2, o2, ho2, hc2, n2, hd2⟩ := inv2.hok _ _ zz
    obtain ⟨u1, u2, rfl, ri, rj⟩ := vals2 r2
    obtain ⟨t1, rfl⟩ := ri
    obtain ⟨t2, rfl⟩ := rj
    exact ⟨b, o2, t1, t2, n2, rfl, Heap.get?_push_of_some _ ho2, hc2, hd2⟩
  refine (wpAny_bind (wpAny_holding (wpAny_call_entry slot_list_sort ⟨_, hnew, rfl⟩ entry_list_sort
    (SrtO.list_sort_ord (s := { st with heap := h2.push (seqObj "list" acc.toList.toArray 0), toks := tk }) (SrtO.swo_lex fun u => prV H (backV u)) hnew hal2 (fun g2 => SrtO.pairs_sortableO (by omega) pairs fun o3 e3 c3 => ?_) fun out g1 g2 => ⟨_, rfl, ?_⟩) (args_list_sort _))))
  · cases (show some o3 = some (seqObj "list" acc.toList.toArray 0) from e3.symm.trans hnew)
    exact absurd (Value.type.inj c3) (by decide)
  obtain ⟨e2, he2⟩ := sortedHeap_at (vs := acc.toList) (out := out.toArray) hnew
  have perm := g2.perm
  rw [eacc] at perm
  obtain ⟨bs, rfl⟩ : ∃ bs : List Addr, out = bs.map Value.ref := ref_vals fun x hx => by
    obtain ⟨b, _, rfl⟩ := List.mem_map.mp (perm.mem_iff.mp hx)
    exact ⟨b, rfl⟩
  have pm : bs.Perm bs0 := vrefs_perm perm
  have hyl : (bs.map V.ref).length ≤ sizeLine := by
    rw [List.length_map, pm.length_eq, keysAt.ln, List.length_map, ← List.length_map (f := kvT)]
    omega
  have good : NewO (.lst (bs.map V.ref)) H Q := by
    refine q bs (bs.map (prAt H)) (psAt_sub keysAt fun b hb => pm.mem_iff.mp hb) ?_ ?_
    · rw [keysAt.eq]
      exact pm.map _
    · exact List.pairwise_map.mpr ((List.pairwise_map.mp g1).imp fun {x y} h => leP_no h)
  refine wpAny_pure ⟨_, rfl, .ref h2.objs.size, upd H h2.objs.size (.lst (bs.map V.ref)), inv2.laid (t' := tk) (fun b u eb => ?_) (Nat.le_refl _)
    (show ObjOk X.prog X.w _ _ _ (.lst (bs.map V.ref)) from ⟨hyl, bs.map Value.ref, e2, vals_refs bs, he2⟩), rfl, good.go _ (inv2.hok.fresh (Nat.le_refl _))⟩
  have hbl : b < h2.objs.size := Heap.lt_size eb
  rw [sortedHeap_old (Nat.ne_of_lt hbl) (by rw [Heap.size_push]; exact Nat.lt_succ_of_lt hbl)]
  exact Heap.get?_push_of_some _ eb
end
/-! ### loops over a tuple, and over a dict whose keys are pairs -/
@[irreducible] def mForT (K : PySem.W.Frag) (tl : TE) (j : Nat) (tb : TS) : TS := fun D σ H => tl σ H fun x H1 => ∃ (a : Addr) (xs : List V) (Pv : Nat → L2.St → Hp → Prop), x = .ref a ∧ SqT K H1 a xs ∧ Pv 0 σ H1 ∧ (∀ i σ' H', i ≤ xs.length → Pv i σ' H' → SqT K H' a xs) ∧
  (∀ i y σ' H', xs[i]? = some y → Pv i σ' H' → tb { D with nx := Pv (i + 1), ct := Pv (i + 1), bk := D.nx } (σ'.set j (some y)) H') ∧ ∀ σ' H', Pv xs.length σ' H' → D.nx σ' H'
theorem rd_forT {K : PySem.W.Frag} {tl : TE} {j : Nat} {tb : TS} {D : Ends} {σ : L2.St} {H : Hp} (h : tl σ H fun x H1 => ∃ (a : Addr) (xs : List V) (Pv : Nat → L2.St → Hp → Prop), x = .ref a ∧ SqT K H1 a xs ∧ Pv 0 σ H1 ∧ (∀ i σ' H', i ≤ xs.length → Pv i σ' H' → SqT K H' a xs) ∧
  (∀ i y σ' H', xs[i]? = some y → Pv i σ' H' → tb { D with nx := Pv (i + 1), ct := Pv (i + 1), bk := D.nx } (σ'.set j (some y)) H') ∧ ∀ σ' H', Pv xs.length σ' H' → D.nx σ' H') : mForT K tl j tb D σ H := by
  unfold mForT
  exact h
/-- the ends of what runs while the thing at d is locked -/
def lkE (d : Addr) (f u : HO) (D : Ends) : Ends := ⟨fun σ' H' => H' d = some f ∧ D.nx σ' (upd H' d u), fun v H' => H' d = some f ∧ D.rt v (upd H' d u), fun σ' H' => H' d = some f ∧ D.bk σ' (upd H' d u), fun σ' H' => H' d = some f ∧ D.ct σ' (upd H' d u)⟩
def ForKT (d : Addr) (od : Obj) (E : List PK) (j : Nat) (tb : TS) (D : Ends) (σ : L2.St) (H1 : Hp) : Prop := ∃ Pv : Nat → L2.St → Hp → Prop, Pv 0 σ H1 ∧ (∀ k σ' H', k ≤ E.length → Pv k σ' H' → H' d = some (.frz od (.dT (E.map kvT)))) ∧
  (∀ k b e σ' H', E[k]? = some e → H' b = some (.tup [.int e.1.1, .int e.1.2]) → Pv k σ' H' → tb { lkE d (.frz od (.dT (E.map kvT))) (.dT (E.map kvT)) D with nx := Pv (k + 1), ct := Pv (k + 1), bk := (lkE d (.frz od (.dT (E.map kvT))) (.dT (E.map kvT)) D).nx } (σ'.set j (some (.ref b))) H') ∧
  ∀ σ' H', Pv E.length σ' H' → D.nx σ' (upd H' d (.dT (E.map kvT)))
@[irreducible] def mForKT (te : TE) (j : Nat) (tb : TS) : TS := fun D σ H => ∃ (d : Addr) (E : List PK), H d = some (.dT (E.map kvT)) ∧ ∀ od, te σ (upd H d (.frz od (.dT (E.map kvT)))) fun x H1 => x = .ref d ∧ H1 d = some (.frz od (.dT (E.map kvT))) ∧ ForKT d od E j tb D σ H1
theorem rd_forKT {te : TE} {j : Nat} {tb : TS} {D : Ends} {σ : L2.St} {H : Hp} (d : Addr) (E : List PK) (hd : H d = some (.dT (E.map kvT))) (h : ∀ od, te σ (upd H d (.frz od (.dT (E.map kvT)))) fun x H1 => x = .ref d ∧ H1 d = some (.frz od (.dT (E.map kvT))) ∧ ForKT d od E j tb D σ H1) : mForKT te j tb D σ H := by
  unfold mForKT
  exact ⟨d, E, hd, h⟩
section
variable {X : Cx} {pos : Pos}
theorem ps_forT {j : Nat} {x : Str} {it : Expr} {body : List Stmt} {tb : TS} {tl : TE} {xpos : Pos} (hp : PassesOwn (model X.prog X.w) X.A X.env X.xe) (hc : X.calm = true) (ha : PE X it tl) (hgt : PG X (.Name x xpos) (gName j)) (hb : PSs X body tb)
    (hs2 : ∀ y, foldedSetIterable it X.env y = pure y := by intro _; rfl) : PS X (.For (.Name x xpos) it body [] pos) (mForT X.K tl j tb) :=
  ps_weak (ps_for hp hc (pi_tup (pe_c ha)) hgt hb hs2) fun D σ H q => by
    unfold mForT at q
    refine ⟨_, q, fun x H1 r => ?_⟩
    obtain ⟨a, xs, Pv, rfl, hx, h0, hl, hs, hd⟩ := r
    refine ⟨a, rfl, ⟨xs, hx⟩, for_it walk_tup Pv h0 hl (fun i y σ' H' H'' hi p yy => ?_) hd⟩
    obtain ⟨rfl, hy⟩ := yy
    exact hs i y σ' _ hy p
theorem ps_forKT {j : Nat} {x : Str} {it : Expr} {body : List Stmt} {tb : TS} {te : TE} {xpos : Pos} (hp : PassesOwn (model X.prog X.w) X.A X.env X.xe) (hc : X.calm = true) (ha : PE X it te) (hgt : PG X (.Name x xpos) (gName j)) (hb : PSs X body tb)
    (hs2 : ∀ y, foldedSetIterable it X.env y = pure y := by intro _; rfl) : PS X (.For (.Name x xpos) it body [] pos) (mForKT te j tb) :=
  ps_weak (ps_lock (ps_for hp hc (pi_keys (pe_c ha)) hgt hb hs2)) fun D σ H q => by
    unfold mForKT at q
    obtain ⟨d, E, hd, q⟩ := q
    refine ⟨d, _, hd, trivial, fun od => ⟨_, q od, fun x H1 r => ?_⟩⟩
    obtain ⟨rfl, h1, Pv, h0, hG, hs, hq⟩ := r
    have lenE : (E.map kvT).length = E.length := List.length_map ..
    refine ⟨d, od, rfl, .inr ⟨_, h1, for_it walk_keysT Pv h0 (fun i σ' H' hi p => hG i σ' H' (by omega) p) (fun i y σ' H' H'' hi p yy => ?_) (fun σ' H' p => ?_)⟩⟩
    · obtain ⟨rfl, k, v, b, e1, rfl, hb2⟩ := yy
      rw [List.getElem?_map] at e1
      obtain ⟨e, he, e2⟩ := Option.map_eq_some_iff.mp e1
      have ek : k = kT e.1 := (congrArg Prod.fst e2).symm
      rw [ek] at hb2
      exact hs i b e σ' _ he hb2 p
    · rw [lenE] at p
      exact ⟨hG _ _ _ (Nat.le_refl _) p, hq σ' H' p⟩
end
/-! ### {(..): v for target in xs} -/
def DcT (D : Addr) (acc : List PK) (P : List PK → Hp → Prop) (y z : V) (H4 : Hp) : Prop := ∃ (p : Int × Int) (v : Int) (b : Addr), y = .ref b ∧ z = .int v ∧ H4 b = some (.tup [.int p.1, .int p.2]) ∧ H4 D = some (.dT (acc.map kvT)) ∧ P (tput acc p v) (upd H4 D (.dT ((tput acc p v).map kvT)))
@[irreducible] def DcWP (J : It) (g : TG) (tk tv : TE) (vs : List Nat) (σ : L2.St) (Q : VK) (H1 : Hp) : Prop := ∃ (n : Nat) (G : Hp → Prop) (Y : Nat → Hp → V → Hp → Prop), Walk J n G Y ∧ n ≤ 100000 ∧ ∀ D, H1 D = none → ∃ Pv : Nat → List PK → Hp → Prop, Pv 0 [] (upd H1 D (.dT [])) ∧
  (∀ i acc H', i ≤ n → acc.length ≤ i → H' D = some (.dT (acc.map kvT)) → Pv i acc H' → G H') ∧
  (∀ i acc x H' H'', i < n → acc.length ≤ i → H' D = some (.dT (acc.map kvT)) → Pv i acc H' → Y i H' x H'' → g x (wipe σ vs) H'' fun σ2 H2 => wipe σ2 vs = wipe σ vs ∧ tk σ2 H2 fun y H3 => tv σ2 H3 fun z H4 => DcT D acc (Pv (i + 1)) y z H4) ∧
  ∀ acc H', acc.length ≤ n → H' D = some (.dT (acc.map kvT)) → Pv n acc H' → Q (.ref D) H'
@[irreducible] def mDcW (wi : TI) (g : TG) (tk tv : TE) (vs : List Nat) : TE := fun σ H Q => wi σ H fun J H1 => DcWP J g tk tv vs σ Q H1
theorem rd_dcW {wi : TI} {g : TG} {tk tv : TE} {vs : List Nat} {σ : L2.St} {H : Hp} {Q : VK} (h : wi σ H fun J H1 => DcWP J g tk tv vs σ Q H1) : mDcW wi g tk tv vs σ H Q := by
  unfold mDcW
  exact h
theorem tput_len (E : List PK) (p : Int × Int) (v : Int) : (tput E p v).length ≤ E.length + 1 := by
  unfold tput
  split
  · rw [List.length_map]
    omega
  · rw [List.length_append]
    exact Nat.le_refl _
theorem dcW_of {g : TG} {tk tv : TE} {wi wi' : TI} {vs : List Nat} {σ : L2.St} {H : Hp} {Q : VK} (hw : IMono wi' wi) (q : mDcW wi' g tk tv vs σ H Q) : tDcT wi (cTG g) tYes (cTE tk) (cTE tv) vs σ H Q := by
  unfold mDcW at q
  refine hw _ _ _ _ (fun J H1 r => ?_) q
  unfold DcWP at r
  obtain ⟨n, G, Y, w, hn, r⟩ := r
  intro D hD
  obtain ⟨Pv, h0, hG, ht, hq⟩ := r D hD
  refine ⟨fun i m H' => m = n - i ∧ i ≤ n ∧ ∃ acc : List PK, acc.length ≤ i ∧ H' D = some (.dT (acc.map kvT)) ∧ Pv i acc H', ⟨n, rfl, Nat.zero_le _, [], Nat.le_refl _, upd_same, h0⟩, fun i m Hb p => ?_⟩
  obtain ⟨rfl, hi, acc, ha, hb, p⟩ := p
  have st := hG i acc Hb hi ha hb p
  by_cases hlt : i < n
  · refine .inr ⟨w.goes i Hb hlt st, fun Hc => i + 1 ≤ n ∧ ∃ acc2 : List PK, acc2.length ≤ i + 1 ∧ Hc D = some (.dT (acc2.map kvT)) ∧ Pv (i + 1) acc2 Hc, fun Hc z => ⟨n - (i + 1), by omega, rfl, z.1, z.2⟩, fun x Hc y => ⟨_, ht i acc x Hb Hc hlt ha hb p (w.yields i Hb x Hc hlt st y), fun σ2 Hd r => ⟨r.1, ?_⟩⟩⟩
    unfold tYes
    dsimp only
    rw [if_pos (rfl : true = true)]
    refine ⟨_, r.2, fun y2 Hf r2 => ⟨_, r2, fun z Hg r3 => ?_⟩⟩
    obtain ⟨pp, v, b, rfl, rfl, hb3, hD3, pn⟩ := r3
    refine ⟨acc.map kvT, kT pp, b, rfl, hb3, hD3, szl (by rw [List.length_map]; omega), ?_⟩
    rw [putK_T]
    have := tput_len acc pp v
    exact ⟨hlt, tput acc pp v, by omega, upd_same, pn⟩
  · have e : i = n := by omega
    subst e
    exact .inl ⟨w.stops Hb st, hq acc Hb ha hb p⟩
theorem pe_dcW {X : Cx} {kx vx tg iter : Expr} {scope : Scope} {own : List (Str × Nat)} {pos : Pos} {wi wi' : TI} {g : TG} {tk tv : TE} (vs : List Nat) (hw : IMono wi' wi) (hu : X.A.units < cLine) (hc : X.calm = true) (hN : X.N.Nodup) (hi : PI X tg iter wi) (ok : BlkOk X.N X.env.scope scope own)
    (pgs : ∀ (sh : Shared) (Hx : Hp) (C : Addr) (cl : List (Str × Addr)) (fp : List Addr), PG (X.blk sh Hx scope (compEnvC scope cl C X.env) fp) tg g)
    (pks : ∀ (sh : Shared) (Hx : Hp) (C : Addr) (cl : List (Str × Addr)) (fp : List Addr), PE (X.blk sh Hx scope (compEnvC scope cl C X.env) fp) kx tk)
    (pvs : ∀ (sh : Shared) (Hx : Hp) (C : Addr) (cl : List (Str × Addr)) (fp : List Addr), PE (X.blk sh Hx scope (compEnvC scope cl C X.env) fp) vx tv)
    (hvs : own.map (·.2) = vs := by rfl) (folded : ∀ x, foldedSetIterable iter X.env x = pure x := by intro _; rfl) : PE X (.DictComp kx vx [⟨tg, iter, [], 0⟩] scope pos) (mDcW wi' g tk tv vs) :=
  pe_weak (pe_dcT hu hc hN hi ok (fun sh Hx C cl fp => pg_c (pgs sh Hx C cl fp)) (fun _ _ _ _ _ => pts_nil) (fun sh Hx C cl fp => pe_c (pks sh Hx C cl fp)) (fun sh Hx C cl fp => pe_c (pvs sh Hx C cl fp)) folded) fun _ _ _ q => by
    rw [hvs]
    exact dcW_of hw q
/-- over a tuple of things that stay, its keys new ones -/
theorem wd_tup {K : PySem.W.Frag} {g : TG} {tk tv : TE} {vs : List Nat} {σ : L2.St} {H1 : Hp} {Q : VK} {a : Addr} {xs : List V} (E : List PK) (nd : (E.map Prod.fst).Nodup) (hn : E.length ≤ 100000) (hl : xs.length = E.length) (hx : SqT K H1 a xs)
    (ht : ∀ (i : Nat) (x : V) (e : PK) (H' : Hp) (Z : V → V → Hp → Prop), xs[i]? = some x → E[i]? = some e → Same H1 H' → (∀ (b : Addr) (H5 : Hp), Same H' H5 → H5 b = some (.tup [.int e.1.1, .int e.1.2]) → Z (.ref b) (.int e.2) H5) →
      g x (wipe σ vs) H' fun σ2 H2 => wipe σ2 vs = wipe σ vs ∧ tk σ2 H2 fun y H3 => tv σ2 H3 fun z H4 => Z y z H4)
    (hq : ∀ D H', H1 D = none → Same H1 H' → H' D = some (.dT (E.map kvT)) → Q (.ref D) H') : DcWP (Itt K a) g tk tv vs σ Q H1 := by
  unfold DcWP
  refine ⟨xs.length, _, _, walk_tup (K := K) (a := a) (xs := xs), by omega, fun D hD => ⟨fun i acc H' => acc = E.take i ∧ Same H1 H', ⟨rfl, same_upd hD⟩, fun i acc H' hi ha hb p => ?_, fun i acc x H' H'' hi ha hb p y => ?_, fun acc H' ha hb p => ?_⟩⟩
  · exact sqt_step hx p.2
  · obtain ⟨rfl, hxi⟩ := y
    obtain ⟨rfl, s⟩ := p
    have hiE : i < E.length := by omega
    refine ht i x E[i] H'' _ hxi (List.getElem?_eq_getElem hiE) s fun b H5 s5 hb5 => ⟨E[i].1, E[i].2, b, rfl, rfl, hb5, s5 _ _ hb, ?_, same_mut (s.trans s5) hD⟩
    have hnew : E[i].1 ∉ (E.take i).map Prod.fst := fun z => by
      obtain ⟨j, hj⟩ := List.getElem?_of_mem z
      rw [List.getElem?_map, List.getElem?_take] at hj
      by_cases hji : j < i
      · rw [if_pos hji, List.getElem?_eq_getElem (by omega)] at hj
        have e1 : E[j].1 = E[i].1 := Option.some.inj hj
        have n1 := (List.pairwise_iff_getElem.mp nd) j i (by rw [List.length_map]; omega) (by rw [List.length_map]; omega) hji
        rw [List.getElem_map, List.getElem_map] at n1
        exact n1 e1
      · rw [if_neg hji] at hj
        cases hj
    unfold tput
    rw [if_neg hnew, List.take_succ, List.getElem?_eq_getElem hiE]
    rfl
  · obtain ⟨rfl, s⟩ := p
    rw [hl, List.take_length] at hb
    exact hq D H' hD s hb
/-- a comprehension over a list, its items new tuples, the target of any form -/
theorem wl_tupsG {K : PySem.W.Frag} {g : TG} {te : TE} {vs : List Nat} {σ : L2.St} {H1 : Hp} {Q : VK} {a : Addr} (xs : List V) (f : Nat → List V) (hx : SqL K H1 a xs) (hn : xs.length ≤ 100000)
    (ht : ∀ (i : Nat) (y : V), xs[i]? = some y → ∀ (H' : Hp) (R : VK) (B : Hp → Prop), Same H1 H' → NewO (.tup (f i)) H' R → g y (wipe σ vs) H' fun σ2 H2 => wipe σ2 vs = wipe σ vs ∧ tYes σ2 H2 fun b H3 => Br b (te σ2 H3 fun y H4 => R y H4) (B H3))
    (hq : ∀ D ps H', H1 D = none → NT H1 D ps ((List.range xs.length).map f) H' → Q (.ref D) H') : LcWP (Itl K a) g tYes te vs σ Q H1 := by
  unfold LcWP
  refine ⟨xs.length, _, _, walk_list (K := K) (a := a) (xs := xs), hn, fun D hD => ⟨fun i acc H' => ∃ ps, acc = ps.map V.ref ∧ NT H1 D ps ((List.range i).map f) H', ⟨[], rfl, NT.start hD⟩, fun i acc H' _ _ _ p => ?_, fun i acc y H' H'' hi ha h2 p yy => ?_, fun acc H' ha h2 p => ?_⟩⟩
  · obtain ⟨ps, rfl, p⟩ := p
    exact p.sm.seq hx
  · obtain ⟨rfl, hy⟩ := yy
    obtain ⟨ps, rfl, p⟩ := p
    refine ht i y hy H'' _ _ p.sm fun t H3 nt s e => ⟨s _ _ h2, ps ++ [t], ?_, ?_⟩
    · rw [List.map_append]
      rfl
    · rw [List.range_succ, List.map_append]
      exact p.next hD nt s e
  · obtain ⟨ps, rfl, p⟩ := p
    exact hq D ps H' hD p
/-! ### all(bs); a list of truth values by a comprehension -/
@[irreducible] def mAll (K : PySem.W.Frag) : List V → Hp → VK → Prop := fun xs H Q => ∃ (a : Addr) (bs : List Bool), xs = [.ref a] ∧ SqL K H a (bs.map V.bl) ∧ Q (.bl (bs.all id)) H
theorem rd_all {K : PySem.W.Frag} {H : Hp} {Q : VK} {a : Addr} {bs : List Bool} (h : SqL K H a (bs.map V.bl)) (q : Q (.bl (bs.all id)) H) : mAll K [.ref a] H Q := by
  unfold mAll
  exact ⟨a, bs, rfl, h, q⟩
theorem call_allM {X : Cx} (hc : X.calm = true) : CallR X (.builtin "all") (mAll X.K) := fun pins s σ H xs us Q I r q => cr_all hc pins s σ H xs us Q I r (by
  unfold mAll at q
  exact q)
theorem wl_boolsL {K : PySem.W.Frag} {j : Nat} {te : TE} {σ : L2.St} {H1 : Hp} {Q : VK} {a : Addr} (ns : List Int) (f : Int → Bool) (hx : SqL K H1 a (ns.map V.int)) (hn : ns.length ≤ 100000)
    (ht : ∀ (n : Int), n ∈ ns → ∀ (H' : Hp) (R : VK), Same H1 H' → R (.bl (f n)) H' → te ((wipe σ [j]).set j (some (.int n))) H' R) (hq : NewO (.lst ((ns.map f).map V.bl)) H1 Q) : LcWP (Itl K a) (gName j) tYes te [j] σ Q H1 := by
  refine wl_list (ns.map V.int) (by rw [List.length_map]; exact hn) fun D hD => ⟨fun i acc H' => acc = ((ns.take i).map f).map V.bl ∧ Same H1 H', ⟨rfl, same_upd hD⟩, fun i acc H' _ _ _ p => sq_step hx p.2, fun i acc y H' hy ha h2 p => ?_, fun acc H' ha h2 p => ?_⟩
  · obtain ⟨rfl, p⟩ := p
    rw [List.getElem?_map] at hy
    obtain ⟨n, hni, rfl⟩ := Option.map_eq_some_iff.mp hy
    show _ ∧ _
    refine ⟨wipe_set rfl, ?_⟩
    show Br true _ _
    refine br_T (ht n (List.mem_of_getElem? hni) H' _ p ⟨h2, ?_, same_mut p hD⟩)
    rw [List.take_succ, hni, List.map_append, List.map_append]
    rfl
  · obtain ⟨rfl, p⟩ := p
    rw [List.length_map, List.take_length] at h2
    exact hq D H' hD p h2
/-! ### not e, by the truth of e -/
def mNotT (K : PySem.W.Frag) (ta : TE) : TE := fun σ H Q => ta σ H fun x H1 => mTru K x H1 fun k H2 => Q (.bl (!k)) H2
theorem pe_notTM {X : Cx} {a : Expr} {ta : TE} {pos : Pos} (ha : PE X a ta) : PE X (.UnaryOp .Not a pos) (mNotT X.K ta) :=
  pe_weak (pe_notT (pe_c ha)) fun σ H Q q => ⟨_, q, fun x H1 r => by
    unfold mTru at r
    obtain ⟨k, h, r⟩ := r
    exact ⟨k, h, r⟩⟩
end My
namespace My
open PySem L2
/-! ### for i, target in enumerate(xs), the target of any form -/
@[irreducible] def mForEG (K : PySem.W.Frag) (ta : TA) (i1 : Nat) (g : TG) (tb : TS) : TS := fun D σ H => ta σ H fun ws H1 => ∃ (a : Addr) (xs : List V) (Pv : Nat → L2.St → Hp → Prop), ws = [.ref a] ∧ SqL K H1 a xs ∧ Pv 0 σ H1 ∧ (∀ i σ' H', i ≤ xs.length → Pv i σ' H' → SqL K H' a xs) ∧
  (∀ i x σ' H' H'', xs[i]? = some x → Pv i σ' H' → Same H' H'' → g x (σ'.set i1 (some (.int (i : Nat)))) H'' fun σ2 H2 => ([] : List V) = [] ∧ tb { D with nx := Pv (i + 1), ct := Pv (i + 1), bk := D.nx } σ2 H2) ∧ ∀ σ' H', Pv xs.length σ' H' → D.nx σ' H'
theorem rd_forEG {K : PySem.W.Frag} {ta : TA} {i1 : Nat} {g : TG} {tb : TS} {D : Ends} {σ : L2.St} {H : Hp} (h : ta σ H fun ws H1 => ∃ (a : Addr) (xs : List V) (Pv : Nat → L2.St → Hp → Prop), ws = [.ref a] ∧ SqL K H1 a xs ∧ Pv 0 σ H1 ∧ (∀ i σ' H', i ≤ xs.length → Pv i σ' H' → SqL K H' a xs) ∧
  (∀ i x σ' H' H'', xs[i]? = some x → Pv i σ' H' → Same H' H'' → g x (σ'.set i1 (some (.int (i : Nat)))) H'' fun σ2 H2 => ([] : List V) = [] ∧ tb { D with nx := Pv (i + 1), ct := Pv (i + 1), bk := D.nx } σ2 H2) ∧ ∀ σ' H', Pv xs.length σ' H' → D.nx σ' H') : mForEG K ta i1 g tb D σ H := by
  unfold mForEG
  exact h
theorem ps_forEG {X : Cx} {ta : TA} {pos : Pos} {e : Expr} {kk : Nat} {p p2 tpos : Pos} {i1 : Nat} {g : TG} {body : List Stmt} {tb : TS} {t1 t2 : Expr} (hp : PassesOwn (model X.prog X.w) X.A X.env X.xe) (hc : X.calm = true) (hg : Gl X "enumerate") (hm : X.mg "enumerate" = none) (ha : PA X [e] ta)
    (hgt : PG X (.Tuple [t1, t2] kk tpos) (gTup X.K 2 (gCons (gName i1) (gCons g gNil)))) (hb : PSs X body tb)
    (hs : starEach [e] X.env = [(false, eval e X.env)] := by rfl) (hs2 : ∀ y, foldedSetIterable (.Call (.Name "enumerate" p) [e] [] p2) X.env y = pure y := by intro _; rfl) :
    PS X (.For (.Tuple [t1, t2] kk tpos) (.Call (.Name "enumerate" p) [e] [] p2) body [] pos) (mForEG X.K ta i1 g tb) :=
  ps_weak (ps_for hp hc (pi_enum hg hm (pa_c ha) hs) hgt hb hs2) fun D σ H q => by
    unfold mForEG at q
    refine ⟨_, q, fun ws H1 r => ?_⟩
    obtain ⟨a, xs, Pv, rfl, hx, h0, hq, hs, hd⟩ := r
    refine ⟨a, xs, rfl, hx, ?_⟩
    refine for_it (walk_enum (K := X.K) (a := a) (xs := xs)) Pv h0 hq (fun i x σ' H' H'' hi p y => ?_) hd
    obtain ⟨T, u, v, rfl, hT, rfl, e1, e2⟩ := y
    cases e1
    exact ⟨T, [.int (i : Nat), v], rfl, st_of upd_same, rfl, .int (i : Nat), [v], rfl, v, [], rfl, hs i v σ' H' _ e2 p (same_upd hT)⟩
/-! ### one of many objects -/
theorem flat_at {α β : Type} {xs : List α} {x : α} {i : Nat} (f : α → List β) (h : xs[i]? = some x) : (xs.flatMap f).Perm (f x ++ (xs.eraseIdx i).flatMap f) := by
  induction xs generalizing i with
  | nil => cases h
  | cons y r ih =>
    cases i with
    | zero =>
      cases h
      exact List.Perm.refl _
    | succ i =>
      rw [List.eraseIdx_cons_succ, List.flatMap_cons, List.flatMap_cons]
      refine ((ih h).append_left (f y)).trans ?_
      rw [← List.append_assoc, ← List.append_assoc]
      exact List.Perm.append_right _ List.perm_append_comm
theorem flat_set {α β : Type} {xs : List α} {y : α} {i : Nat} (f : α → List β) (h : i < xs.length) : ((xs.set i y).flatMap f).Perm (f y ++ (xs.eraseIdx i).flatMap f) := by
  have h1 := flat_at (xs := xs.set i y) (i := i) (x := y) f (by rw [List.getElem?_set, if_pos rfl, if_pos h])
  have e : (xs.set i y).eraseIdx i = xs.eraseIdx i := by
    clear h1
    induction xs generalizing i with
    | nil => rfl
    | cons z r ih =>
      cases i with
      | zero => rfl
      | succ i =>
        rw [List.set_cons_succ, List.eraseIdx_cons_succ, List.eraseIdx_cons_succ, ih (Nat.lt_of_succ_lt_succ h)]
  rw [e] at h1
  exact h1
theorem perm_mid {β : Type} (a b c : List β) : (a ++ (b ++ c)).Perm (b ++ (a ++ c)) := by
  rw [← List.append_assoc, ← List.append_assoc]
  exact List.Perm.append_right _ List.perm_append_comm
section
variable {S B0 B H : Hp} {as : List Addr} {α : Type} {L1 L2 : List (Addr × HO)} {xs : List α} {f : α → List (Addr × HO)}
/-- one of them, in front -/
theorem Own.at (w : Own S B0 as B (L1 ++ (xs.flatMap f ++ L2)) H) {i : Nat} {x : α} (h : xs[i]? = some x) : Own S B0 as B (f x ++ (L1 ++ ((xs.eraseIdx i).flatMap f ++ L2))) H := by
  refine w.perm ?_
  refine List.Perm.trans ?_ (perm_mid (xs.flatMap f) L1 L2)
  refine List.Perm.symm ?_
  refine ((flat_at f h).append_right (L1 ++ L2)).trans ?_
  rw [List.append_assoc]
  exact (perm_mid _ _ _).append_left _
/-- and back again, changed -/
theorem Own.back {i : Nat} {y : α} (w : Own S B0 as B (f y ++ (L1 ++ ((xs.eraseIdx i).flatMap f ++ L2))) H) (h : i < xs.length) : Own S B0 as B (L1 ++ ((xs.set i y).flatMap f ++ L2)) H := by
  refine w.perm ?_
  refine (perm_mid L1 ((xs.set i y).flatMap f) L2).trans ?_
  refine ((flat_set f h).append_right (L1 ++ L2)).trans ?_
  rw [List.append_assoc]
  exact (perm_mid _ _ _).append_left _
end
/-! ### [C(..) for _ in range(n)]: many new objects -/
theorem wl_objs {α : Type} {f : α → List (Addr × HO)} {p : α → Addr} {P : α → Prop} {S B0 B : Hp} {as : List Addr} {L : List (Addr × HO)} {j : Nat} {te : TE} {σ : L2.St} {H1 : Hp} {Q : VK} {n : Nat} {lo : Int} (w : Own S B0 as B L H1) (hn : n ≤ 100000)
    (he : ∀ i : Nat, i < n → ∀ (H' : Hp) (L' : List (Addr × HO)) (R : VK), Own S B0 as B L' H' → (∀ (x : α) (H4 : Hp), P x → Own S B0 as B (f x ++ L') H4 → R (.ref (p x)) H4) → te ((wipe σ [j]).set j (some (.int (lo + (i : Nat))))) H' R)
    (hq : ∀ (D : Addr) (xs : List α) (H' : Hp), H1 D = none → xs.length = n → (∀ x ∈ xs, P x) → Own S B0 as B ((D, .lst (xs.map fun x => V.ref (p x))) :: (xs.flatMap f ++ L)) H' → Q (.ref D) H') : LcWP (Itr lo n) (gName j) tYes te [j] σ Q H1 := by
  refine wl_rng hn fun D hD => ⟨fun i acc H' => ∃ xs : List α, acc = (xs.map fun x => V.ref (p x)) ∧ xs.length = i ∧ (∀ x ∈ xs, P x) ∧ Own S B0 as B ((D, .lst acc) :: (xs.flatMap f ++ L)) H', ⟨[], rfl, rfl, fun x hx => (nomatch hx), w.add hD (same_upd hD) upd_same⟩, fun i acc H' hi ha h2 p0 => ?_, fun acc H' ha h2 p0 => ?_⟩
  · obtain ⟨xs, rfl, hl, hP, w2⟩ := p0
    show _ ∧ _
    refine ⟨wipe_set rfl, ?_⟩
    show Br true _ _
    refine br_T (he i hi H' _ _ w2 fun x H4 hx w4 => ?_)
    have w5 := w4.perm (l' := (D, .lst (xs.map fun x => V.ref (p x))) :: (f x ++ (xs.flatMap f ++ L))) (perm_mid [(D, HO.lst (xs.map fun x => V.ref (p x)))] (f x) (xs.flatMap f ++ L))
    refine ⟨w5.mem (.head _), xs ++ [x], by rw [List.map_append]; rfl, by rw [List.length_append, hl]; rfl, fun y hy => ?_, ?_⟩
    · rcases List.mem_append.mp hy with hy | hy
      · exact hP y hy
      · rw [List.mem_singleton.mp hy]
        exact hx
    · have w6 := w5.set 0 rfl (.lst ((xs.map fun x => V.ref (p x)) ++ [.ref (p x)]))
      refine w6.perm (List.Perm.cons _ ?_)
      rw [List.flatMap_append, List.flatMap_cons, List.flatMap_nil, List.append_nil, List.append_assoc]
      exact perm_mid _ _ _
  · obtain ⟨xs, rfl, hl, hP, w2⟩ := p0
    exact hq D xs H' hD hl hP w2
theorem own_new {S B0 B H : Hp} {as : List Addr} {l : List (Addr × HO)} {C p dx : Addr} (w : Own S B0 as B l H) (np : H p = none) (nd : H dx = none) (ne : dx ≠ p) : Own S B0 as B ([(p, .ins C dx [])] ++ l) (upd (upd H dx (.own p)) p (.ins C dx [])) :=
  w.add np ((same_upd (o := .own p) nd).trans (same_upd (by rw [upd_ne (Ne.symm ne)]; exact np))) (upd_same (o := .ins C dx []))
/-! ### sorted(xs), whole numbers, any number of them -/
@[irreducible] def mSortLI (K : PySem.W.Frag) : List V → Hp → VK → Prop := fun xs H Q => ∃ (a : Addr) (ns : List Int), xs = [.ref a] ∧ SqL K H a (ns.map V.int) ∧ ∀ ys : List Int, ys.Perm ns → ys.Pairwise (· ≤ ·) → NewO (.lst (ys.map V.int)) H Q
theorem rd_sortLI {K : PySem.W.Frag} {a : Addr} {ns : List Int} {H : Hp} {Q : VK} (h : SqL K H a (ns.map V.int)) (q : ∀ ys : List Int, ys.Perm ns → ys.Pairwise (· ≤ ·) → NewO (.lst (ys.map V.int)) H Q) : mSortLI K [.ref a] H Q := by
  unfold mSortLI
  exact ⟨a, ns, rfl, h, q⟩
theorem call_sortLIM {X : Cx} : CallR X (.builtin "sorted") (mSortLI X.K) := fun pins s σ H xs us Q I r q => cr_sortedI pins s σ H xs us Q I r (by
  unfold mSortLI at q
  obtain ⟨a, ns, e, h, q⟩ := q
  exact ⟨a, ns, e, h, fun ys p hp ho => (q ys hp ho).go p⟩)
end My

namespace My
open PySem L2
/-! ### the text by places -/
def topS (i : Nat) : Stmt := PySem.Challenge.pw_bearerwise_k42_anchor.main.body.getD i (.Pass ⟨0, 0, 0, 0⟩)
abbrev S_u_wall : Stmt := topS 0
abbrev S_Meter___init__ : Stmt := inClass (topS 2) 0
abbrev S_Meter_add : Stmt := inClass (topS 2) 1
abbrev S_Meter_metered : Stmt := inClass (topS 2) 2
abbrev S_Meter__last_serial : Stmt := inClass (topS 2) 3
abbrev S_Meter_write : Stmt := inClass (topS 2) 4
abbrev S_Meter_last : Stmt := inClass (topS 2) 5
abbrev S_Meter_take : Stmt := inClass (topS 2) 6
abbrev S_Meter_is_settled : Stmt := inClass (topS 2) 7
abbrev S_BearerError___init__ : Stmt := inClass (topS 4) 0
abbrev S_is_between : Stmt := topS 7
abbrev S_is_packet : Stmt := topS 8
abbrev S_window_size : Stmt := topS 10
abbrev S_window : Stmt := topS 12
abbrev S_u_in_order : Stmt := topS 14
abbrev S_UpperSender___init__ : Stmt := inClass (topS 15) 0
abbrev S_UpperSender_may_add : Stmt := inClass (topS 15) 1
abbrev S_UpperSender_add : Stmt := inClass (topS 15) 2
abbrev S_UpperSender_next_count : Stmt := inClass (topS 15) 3
abbrev S_UpperSender_base : Stmt := inClass (topS 15) 4
abbrev S_UpperSender_unconfirmed : Stmt := inClass (topS 15) 5
abbrev S_UpperSender_confirm : Stmt := inClass (topS 15) 6
abbrev S_UpperSender_take_report : Stmt := inClass (topS 15) 7
abbrev S_UpperReceiver___init__ : Stmt := inClass (topS 16) 0
abbrev S_UpperReceiver_first_missing : Stmt := inClass (topS 16) 1
abbrev S_UpperReceiver_take : Stmt := inClass (topS 16) 2
abbrev S_UpperReceiver_take_count : Stmt := inClass (topS 16) 3
abbrev S_UpperReceiver_report : Stmt := inClass (topS 16) 4
abbrev S_UpperReceiver_held : Stmt := inClass (topS 16) 5
abbrev S_Anchor___init__ : Stmt := inClass (topS 21) 0
abbrev S_Anchor_put : Stmt := inClass (topS 21) 1
abbrev S_Anchor_begin_stay : Stmt := inClass (topS 21) 2
abbrev S_Anchor_take_letter : Stmt := inClass (topS 21) 3
abbrev S_Anchor__give_out : Stmt := inClass (topS 21) 4
abbrev S_Anchor_out : Stmt := inClass (topS 21) 5
abbrev S_Anchor_unconfirmed : Stmt := inClass (topS 21) 6
abbrev S_u_law_next : Stmt := topS 23
abbrev S_u_law_packet : Stmt := topS 24
abbrev S_u_law_put : Stmt := topS 25
abbrev S_u_law_kept : Stmt := topS 26
abbrev S_u_law_down : Stmt := topS 27
abbrev S_u_law_begin : Stmt := topS 28
abbrev S_u_law_up : Stmt := topS 29
abbrev S_law : Stmt := topS 30
local macro_rules | `(tactic| walk_at "sc") => `(tactic| exact ⟨rfl, rfl, rfl, by decide +kernel, rfl, by decide +kernel, by decide +kernel⟩)
theorem sc_u_wall : FnScope ["k"] ["k"] (defScope S_u_wall) := by walk_at "sc"
theorem sc_Meter___init__ : FnScope ["self"] ["self"] (defScope S_Meter___init__) := by walk_at "sc"
theorem sc_Meter_add : FnScope ["self", "bearer", "way", "size"] ["self", "bearer", "way", "size"] (defScope S_Meter_add) := by walk_at "sc"
theorem sc_Meter_metered : FnScope ["self", "bearer", "way"] ["self", "bearer", "way"] (defScope S_Meter_metered) := by walk_at "sc"
theorem sc_Meter__last_serial : FnScope ["self"] ["self"] (defScope S_Meter__last_serial) := by walk_at "sc"
theorem sc_Meter_write : FnScope ["self", "sums", "bearer", "way"] ["self"] (defScope S_Meter_write) := by walk_at "sc"
theorem sc_Meter_last : FnScope ["self"] ["self"] (defScope S_Meter_last) := by walk_at "sc"
theorem sc_Meter_take : FnScope ["self", "serial"] ["self", "serial"] (defScope S_Meter_take) := by walk_at "sc"
theorem sc_Meter_is_settled : FnScope ["self"] ["self"] (defScope S_Meter_is_settled) := by walk_at "sc"
theorem sc_BearerError___init__ : FnScope ["self"] ["self"] (defScope S_BearerError___init__) := by walk_at "sc"
theorem sc_is_between : FnScope ["value", "least", "most"] ["value", "least", "most"] (defScope S_is_between) := by walk_at "sc"
theorem sc_is_packet : FnScope ["packet", "most", "one"] ["packet", "most"] (defScope S_is_packet) := by walk_at "sc"
theorem sc_window_size : FnScope ["bits"] ["bits"] (defScope S_window_size) := by walk_at "sc"
theorem sc_window : FnScope ["bits"] ["bits"] (defScope S_window) := by walk_at "sc"
theorem sc_u_in_order : FnScope ["packets", "count"] ["packets"] (defScope S_u_in_order) := by walk_at "sc"
theorem sc_UpperSender___init__ : FnScope ["self", "bits"] ["self", "bits"] (defScope S_UpperSender___init__) := by walk_at "sc"
theorem sc_UpperSender_may_add : FnScope ["self"] ["self"] (defScope S_UpperSender_may_add) := by walk_at "sc"
theorem sc_UpperSender_add : FnScope ["self", "packet", "count"] ["self", "packet"] (defScope S_UpperSender_add) := by walk_at "sc"
theorem sc_UpperSender_next_count : FnScope ["self"] ["self"] (defScope S_UpperSender_next_count) := by walk_at "sc"
theorem sc_UpperSender_base : FnScope ["self"] ["self"] (defScope S_UpperSender_base) := by walk_at "sc"
theorem sc_UpperSender_unconfirmed : FnScope ["self"] ["self"] (defScope S_UpperSender_unconfirmed) := by walk_at "sc"
theorem sc_UpperSender_confirm : FnScope ["self", "count"] ["self", "count"] (defScope S_UpperSender_confirm) := by walk_at "sc"
theorem sc_UpperSender_take_report : FnScope ["self", "first", "later", "count"] ["self", "first", "later"] (defScope S_UpperSender_take_report) := by walk_at "sc"
theorem sc_UpperReceiver___init__ : FnScope ["self", "bits"] ["self", "bits"] (defScope S_UpperReceiver___init__) := by walk_at "sc"
theorem sc_UpperReceiver_first_missing : FnScope ["self"] ["self"] (defScope S_UpperReceiver_first_missing) := by walk_at "sc"
theorem sc_UpperReceiver_take : FnScope ["self", "short", "packet"] ["self", "short", "packet"] (defScope S_UpperReceiver_take) := by walk_at "sc"
theorem sc_UpperReceiver_take_count : FnScope ["self", "count", "packet", "given"] ["self", "count", "packet"] (defScope S_UpperReceiver_take_count) := by walk_at "sc"
theorem sc_UpperReceiver_report : FnScope ["self"] ["self"] (defScope S_UpperReceiver_report) := by walk_at "sc"
theorem sc_UpperReceiver_held : FnScope ["self"] ["self"] (defScope S_UpperReceiver_held) := by walk_at "sc"
theorem sc_Anchor___init__ : FnScope ["self", "bearers", "count_bits", "_"] ["self", "bearers", "count_bits"] (defScope S_Anchor___init__) := by walk_at "sc"
theorem sc_Anchor_put : FnScope ["self", "bearer", "packet", "count"] ["self", "bearer", "packet"] (defScope S_Anchor_put) := by walk_at "sc"
theorem sc_Anchor_begin_stay : FnScope ["self", "told", "letters", "bearer", "first", "later", "count", "packet"] ["self", "told"] (defScope S_Anchor_begin_stay) := by walk_at "sc"
theorem sc_Anchor_take_letter : FnScope ["self", "letter", "stay", "_", "bearer", "count", "packet"] ["self", "letter", "stay"] (defScope S_Anchor_take_letter) := by walk_at "sc"
theorem sc_Anchor__give_out : FnScope ["self", "bearer", "packets", "packet"] ["self", "bearer", "packets"] (defScope S_Anchor__give_out) := by walk_at "sc"
theorem sc_Anchor_out : FnScope ["self", "bearer", "packet"] ["self", "bearer"] (defScope S_Anchor_out) := by walk_at "sc"
theorem sc_Anchor_unconfirmed : FnScope ["self", "bearer"] ["self", "bearer"] (defScope S_Anchor_unconfirmed) := by walk_at "sc"
theorem sc_u_law_next : FnScope ["tape", "many", "rest", "cell"] ["tape", "many"] (defScope S_u_law_next) := by walk_at "sc"
theorem sc_u_law_packet : FnScope ["tape", "most", "size", "first", "step", "k"] ["tape", "most"] (defScope S_u_law_packet) := by walk_at "sc"
theorem sc_u_law_put : FnScope ["anchor", "bearer", "packet", "error"] ["anchor", "bearer", "packet"] (defScope S_u_law_put) := by walk_at "sc"
theorem sc_u_law_kept : FnScope ["kept", "bearer", "count"] ["kept", "bearer"] (defScope S_u_law_kept) := by walk_at "sc"
theorem sc_u_law_down : FnScope ["anchor", "kept", "nexts", "meters", "half", "bearer", "packet", "base", "told", "own"] ["anchor", "kept", "nexts", "meters", "half", "bearer", "packet"] (defScope S_u_law_down) := by walk_at "sc"
theorem sc_u_law_begin : FnScope ["anchor", "kept", "nexts", "tape", "told", "bearer", "base", "first", "later", "own", "count", "due", "row"] ["anchor", "kept", "nexts", "tape"] (defScope S_u_law_begin) := by walk_at "sc"
theorem sc_u_law_up : FnScope ["anchor", "ups", "held", "outs", "meters", "bearer", "count", "stay", "packet", "given", "due"] ["anchor", "ups", "held", "outs", "meters", "bearer", "count", "stay"] (defScope S_u_law_up) := by walk_at "sc"
theorem sc_law : FnScope ["script", "tape", "bearers", "bits", "half", "anchor", "kept", "nexts", "meters", "ups", "held", "outs", "stay", "turn", "kind", "bearer", "good", "count", "own", "way", "k"] ["script"] (defScope S_law) := by walk_at "sc"
/-! ### what the top has written -/
structure Tb (K : PySem.W.Frag) (mg : Str → Option Value) where
 n_all : mg "all" = none
 n_len : mg "len" = none
 n_range : mg "range" = none
 n_abs : mg "abs" = none
 n_int : mg "int" = none
 n_min : mg "min" = none
 n_max : mg "max" = none
 n_isinstance : mg "isinstance" = none
 n_list : mg "list" = none
 n_tuple : mg "tuple" = none
 n_bool : mg "bool" = none
 n_enumerate : mg "enumerate" = none
 n_sorted : mg "sorted" = none
 g_MOST_BYTES : (∃ t, mg "MOST_BYTES" = some (.int 196 t))
 g_DOWN : (∃ t, mg "DOWN" = some (.int 0 t))
 g_UP : (∃ t, mg "UP" = some (.int 1 t))
 C_Meter : Addr
 g_Meter : mg "Meter" = some (.ref C_Meter)
 C_BearerError : Addr
 g_BearerError : mg "BearerError" = some (.ref C_BearerError)
 C_NotValid : Addr
 g_NotValid : mg "NotValid" = some (.ref C_NotValid)
 C_UpperSender : Addr
 g_UpperSender : mg "UpperSender" = some (.ref C_UpperSender)
 C_UpperReceiver : Addr
 g_UpperReceiver : mg "UpperReceiver" = some (.ref C_UpperReceiver)
 C_Anchor : Addr
 g_Anchor : mg "Anchor" = some (.ref C_Anchor)
structure Td0 (K : PySem.W.Frag) (mg : Str → Option Value) (b : Tb K mg) where
 a_u_wall : Addr
 d_u_wall : FuncData
 p_u_wall : DefAt K mg "_wall" "_wall" S_u_wall ["k"] a_u_wall d_u_wall
 a_Meter___init__ : Addr
 d_Meter___init__ : FuncData
 p_Meter___init__ : MethAt K b.C_Meter "__init__" "Meter.__init__" S_Meter___init__ ["self"] a_Meter___init__ d_Meter___init__
 a_Meter_add : Addr
 d_Meter_add : FuncData
 p_Meter_add : MethAt K b.C_Meter "add" "Meter.add" S_Meter_add ["self", "bearer", "way", "size"] a_Meter_add d_Meter_add
 a_Meter_metered : Addr
 d_Meter_metered : FuncData
 p_Meter_metered : MethAt K b.C_Meter "metered" "Meter.metered" S_Meter_metered ["self", "bearer", "way"] a_Meter_metered d_Meter_metered
 a_Meter__last_serial : Addr
 d_Meter__last_serial : FuncData
 p_Meter__last_serial : MethAt K b.C_Meter "_last_serial" "Meter._last_serial" S_Meter__last_serial ["self"] a_Meter__last_serial d_Meter__last_serial
 a_Meter_write : Addr
 d_Meter_write : FuncData
 p_Meter_write : MethAt K b.C_Meter "write" "Meter.write" S_Meter_write ["self"] a_Meter_write d_Meter_write
 a_Meter_last : Addr
 d_Meter_last : FuncData
 p_Meter_last : MethAt K b.C_Meter "last" "Meter.last" S_Meter_last ["self"] a_Meter_last d_Meter_last
 a_Meter_take : Addr
 d_Meter_take : FuncData
 p_Meter_take : MethAt K b.C_Meter "take" "Meter.take" S_Meter_take ["self", "serial"] a_Meter_take d_Meter_take
 a_Meter_is_settled : Addr
 d_Meter_is_settled : FuncData
 p_Meter_is_settled : MethAt K b.C_Meter "is_settled" "Meter.is_settled" S_Meter_is_settled ["self"] a_Meter_is_settled d_Meter_is_settled
 a_BearerError___init__ : Addr
 d_BearerError___init__ : FuncData
 p_BearerError___init__ : DefAt0 K "__init__" "BearerError.__init__" S_BearerError___init__ ["self"] a_BearerError___init__ d_BearerError___init__
 a_is_between : Addr
 d_is_between : FuncData
 p_is_between : DefAt K mg "is_between" "is_between" S_is_between ["value", "least", "most"] a_is_between d_is_between
 a_is_packet : Addr
 d_is_packet : FuncData
 p_is_packet : DefAt K mg "is_packet" "is_packet" S_is_packet ["packet", "most"] a_is_packet d_is_packet
 a_window_size : Addr
 d_window_size : FuncData
 p_window_size : DefAt K mg "window_size" "window_size" S_window_size ["bits"] a_window_size d_window_size
 a_window : Addr
 d_window : FuncData
 p_window : DefAt K mg "window" "window" S_window ["bits"] a_window d_window
 a_u_in_order : Addr
 d_u_in_order : FuncData
 p_u_in_order : DefAt K mg "_in_order" "_in_order" S_u_in_order ["packets"] a_u_in_order d_u_in_order
 a_UpperSender___init__ : Addr
 d_UpperSender___init__ : FuncData
 p_UpperSender___init__ : MethAt K b.C_UpperSender "__init__" "UpperSender.__init__" S_UpperSender___init__ ["self", "bits"] a_UpperSender___init__ d_UpperSender___init__
structure Td1 (K : PySem.W.Frag) (mg : Str → Option Value) (b : Tb K mg) where
 a_UpperSender_may_add : Addr
 d_UpperSender_may_add : FuncData
 p_UpperSender_may_add : MethAt K b.C_UpperSender "may_add" "UpperSender.may_add" S_UpperSender_may_add ["self"] a_UpperSender_may_add d_UpperSender_may_add
 a_UpperSender_add : Addr
 d_UpperSender_add : FuncData
 p_UpperSender_add : MethAt K b.C_UpperSender "add" "UpperSender.add" S_UpperSender_add ["self", "packet"] a_UpperSender_add d_UpperSender_add
 a_UpperSender_next_count : Addr
 d_UpperSender_next_count : FuncData
 p_UpperSender_next_count : MethAt K b.C_UpperSender "next_count" "UpperSender.next_count" S_UpperSender_next_count ["self"] a_UpperSender_next_count d_UpperSender_next_count
 a_UpperSender_base : Addr
 d_UpperSender_base : FuncData
 p_UpperSender_base : MethAt K b.C_UpperSender "base" "UpperSender.base" S_UpperSender_base ["self"] a_UpperSender_base d_UpperSender_base
 a_UpperSender_unconfirmed : Addr
 d_UpperSender_unconfirmed : FuncData
 p_UpperSender_unconfirmed : MethAt K b.C_UpperSender "unconfirmed" "UpperSender.unconfirmed" S_UpperSender_unconfirmed ["self"] a_UpperSender_unconfirmed d_UpperSender_unconfirmed
 a_UpperSender_confirm : Addr
 d_UpperSender_confirm : FuncData
 p_UpperSender_confirm : MethAt K b.C_UpperSender "confirm" "UpperSender.confirm" S_UpperSender_confirm ["self", "count"] a_UpperSender_confirm d_UpperSender_confirm
 a_UpperSender_take_report : Addr
 d_UpperSender_take_report : FuncData
 p_UpperSender_take_report : MethAt K b.C_UpperSender "take_report" "UpperSender.take_report" S_UpperSender_take_report ["self", "first", "later"] a_UpperSender_take_report d_UpperSender_take_report
 a_UpperReceiver___init__ : Addr
 d_UpperReceiver___init__ : FuncData
 p_UpperReceiver___init__ : MethAt K b.C_UpperReceiver "__init__" "UpperReceiver.__init__" S_UpperReceiver___init__ ["self", "bits"] a_UpperReceiver___init__ d_UpperReceiver___init__
 a_UpperReceiver_first_missing : Addr
 d_UpperReceiver_first_missing : FuncData
 p_UpperReceiver_first_missing : MethAt K b.C_UpperReceiver "first_missing" "UpperReceiver.first_missing" S_UpperReceiver_first_missing ["self"] a_UpperReceiver_first_missing d_UpperReceiver_first_missing
 a_UpperReceiver_take : Addr
 d_UpperReceiver_take : FuncData
 p_UpperReceiver_take : MethAt K b.C_UpperReceiver "take" "UpperReceiver.take" S_UpperReceiver_take ["self", "short", "packet"] a_UpperReceiver_take d_UpperReceiver_take
 a_UpperReceiver_take_count : Addr
 d_UpperReceiver_take_count : FuncData
 p_UpperReceiver_take_count : MethAt K b.C_UpperReceiver "take_count" "UpperReceiver.take_count" S_UpperReceiver_take_count ["self", "count", "packet"] a_UpperReceiver_take_count d_UpperReceiver_take_count
 a_UpperReceiver_report : Addr
 d_UpperReceiver_report : FuncData
 p_UpperReceiver_report : MethAt K b.C_UpperReceiver "report" "UpperReceiver.report" S_UpperReceiver_report ["self"] a_UpperReceiver_report d_UpperReceiver_report
 a_UpperReceiver_held : Addr
 d_UpperReceiver_held : FuncData
 p_UpperReceiver_held : MethAt K b.C_UpperReceiver "held" "UpperReceiver.held" S_UpperReceiver_held ["self"] a_UpperReceiver_held d_UpperReceiver_held
 a_Anchor___init__ : Addr
 d_Anchor___init__ : FuncData
 p_Anchor___init__ : MethAt K b.C_Anchor "__init__" "Anchor.__init__" S_Anchor___init__ ["self", "bearers", "count_bits"] a_Anchor___init__ d_Anchor___init__
 a_Anchor_put : Addr
 d_Anchor_put : FuncData
 p_Anchor_put : MethAt K b.C_Anchor "put" "Anchor.put" S_Anchor_put ["self", "bearer", "packet"] a_Anchor_put d_Anchor_put
 a_Anchor_begin_stay : Addr
 d_Anchor_begin_stay : FuncData
 p_Anchor_begin_stay : MethAt K b.C_Anchor "begin_stay" "Anchor.begin_stay" S_Anchor_begin_stay ["self", "told"] a_Anchor_begin_stay d_Anchor_begin_stay
structure Td2 (K : PySem.W.Frag) (mg : Str → Option Value) (b : Tb K mg) where
 a_Anchor_take_letter : Addr
 d_Anchor_take_letter : FuncData
 p_Anchor_take_letter : MethAt K b.C_Anchor "take_letter" "Anchor.take_letter" S_Anchor_take_letter ["self", "letter", "stay"] a_Anchor_take_letter d_Anchor_take_letter
 a_Anchor__give_out : Addr
 d_Anchor__give_out : FuncData
 p_Anchor__give_out : MethAt K b.C_Anchor "_give_out" "Anchor._give_out" S_Anchor__give_out ["self", "bearer", "packets"] a_Anchor__give_out d_Anchor__give_out
 a_Anchor_out : Addr
 d_Anchor_out : FuncData
 p_Anchor_out : MethAt K b.C_Anchor "out" "Anchor.out" S_Anchor_out ["self", "bearer"] a_Anchor_out d_Anchor_out
 a_Anchor_unconfirmed : Addr
 d_Anchor_unconfirmed : FuncData
 p_Anchor_unconfirmed : MethAt K b.C_Anchor "unconfirmed" "Anchor.unconfirmed" S_Anchor_unconfirmed ["self", "bearer"] a_Anchor_unconfirmed d_Anchor_unconfirmed
 a_u_law_next : Addr
 d_u_law_next : FuncData
 p_u_law_next : DefAt K mg "_law_next" "_law_next" S_u_law_next ["tape", "many"] a_u_law_next d_u_law_next
 a_u_law_packet : Addr
 d_u_law_packet : FuncData
 p_u_law_packet : DefAt K mg "_law_packet" "_law_packet" S_u_law_packet ["tape", "most"] a_u_law_packet d_u_law_packet
 a_u_law_put : Addr
 d_u_law_put : FuncData
 p_u_law_put : DefAt K mg "_law_put" "_law_put" S_u_law_put ["anchor", "bearer", "packet"] a_u_law_put d_u_law_put
 a_u_law_kept : Addr
 d_u_law_kept : FuncData
 p_u_law_kept : DefAt K mg "_law_kept" "_law_kept" S_u_law_kept ["kept", "bearer"] a_u_law_kept d_u_law_kept
 a_u_law_down : Addr
 d_u_law_down : FuncData
 p_u_law_down : DefAt K mg "_law_down" "_law_down" S_u_law_down ["anchor", "kept", "nexts", "meters", "half", "bearer", "packet"] a_u_law_down d_u_law_down
 a_u_law_begin : Addr
 d_u_law_begin : FuncData
 p_u_law_begin : DefAt K mg "_law_begin" "_law_begin" S_u_law_begin ["anchor", "kept", "nexts", "tape"] a_u_law_begin d_u_law_begin
 a_u_law_up : Addr
 d_u_law_up : FuncData
 p_u_law_up : DefAt K mg "_law_up" "_law_up" S_u_law_up ["anchor", "ups", "held", "outs", "meters", "bearer", "count", "stay"] a_u_law_up d_u_law_up
 a_law : Addr
 d_law : FuncData
 p_law : DefAt K mg "law" "law" S_law ["script"] a_law d_law
structure Tk0 (K : PySem.W.Frag) (mg : Str → Option Value) (b : Tb K mg) (d0 : Td0 K mg b) (d1 : Td1 K mg b) (d2 : Td2 K mg b) where
 k_Meter : ClsAt K b.C_Meter d0.a_Meter___init__
 f_Meter__sums : NoAttr K b.C_Meter "_sums"
 f_Meter__last : NoAttr K b.C_Meter "_last"
 f_Meter__answered : NoAttr K b.C_Meter "_answered"
 f_Meter__has_more : NoAttr K b.C_Meter "_has_more"
 o_BearerError : OexC K b.C_BearerError
 i_BearerError : PySem.W.findIn K (.ref b.C_BearerError) "__init__" = some (some (.ref d0.a_BearerError___init__))
 t_BearerError : PySem.W.typeIn K (.ref d0.a_BearerError___init__) = some (.type "function")
 e_BearerError : ExcC K b.C_BearerError
 s_BearerError_BearerError : PySem.W.subIn K (.ref b.C_BearerError) (.ref b.C_BearerError) = some true
 s_BearerError_NotValid : PySem.W.subIn K (.ref b.C_BearerError) (.ref b.C_NotValid) = some false
 y_BearerError : PySem.W.typeIn K (.ref b.C_BearerError) = some (.type "type")
 l_BearerError : PySem.W.isClsIn K b.C_BearerError = true
 o_NotValid : OexC K b.C_NotValid
 i_NotValid : PySem.W.findIn K (.ref b.C_NotValid) "__init__" = some (some (.ref d0.a_BearerError___init__))
 t_NotValid : PySem.W.typeIn K (.ref d0.a_BearerError___init__) = some (.type "function")
 e_NotValid : ExcC K b.C_NotValid
 s_NotValid_BearerError : PySem.W.subIn K (.ref b.C_NotValid) (.ref b.C_BearerError) = some true
 s_NotValid_NotValid : PySem.W.subIn K (.ref b.C_NotValid) (.ref b.C_NotValid) = some true
 y_NotValid : PySem.W.typeIn K (.ref b.C_NotValid) = some (.type "type")
 l_NotValid : PySem.W.isClsIn K b.C_NotValid = true
 k_UpperSender : ClsAt K b.C_UpperSender d0.a_UpperSender___init__
 f_UpperSender__bits : NoAttr K b.C_UpperSender "_bits"
 f_UpperSender__next : NoAttr K b.C_UpperSender "_next"
 f_UpperSender__packets : NoAttr K b.C_UpperSender "_packets"
 k_UpperReceiver : ClsAt K b.C_UpperReceiver d1.a_UpperReceiver___init__
 f_UpperReceiver__bits : NoAttr K b.C_UpperReceiver "_bits"
 f_UpperReceiver__first : NoAttr K b.C_UpperReceiver "_first"
 f_UpperReceiver__ahead : NoAttr K b.C_UpperReceiver "_ahead"
 k_Anchor : ClsAt K b.C_Anchor d1.a_Anchor___init__
 f_Anchor_meter : NoAttr K b.C_Anchor "meter"
 f_Anchor__stay : NoAttr K b.C_Anchor "_stay"
 f_Anchor__senders : NoAttr K b.C_Anchor "_senders"
 f_Anchor__receivers : NoAttr K b.C_Anchor "_receivers"
 f_Anchor__out : NoAttr K b.C_Anchor "_out"
structure Tx (P : Program) (w : World) (K : PySem.W.Frag) (mg : Str → Option Value) (base : Heap) where
 b : Tb K mg
 d0 : Td0 K mg b
 d1 : Td1 K mg b
 d2 : Td2 K mg b
 k0 : Tk0 K mg b d0 d1 d2
end My
namespace My
open PySem L2
def oexB (K : PySem.W.Frag) (C : Addr) : Bool := match K.lookup C with
  | some ⟨.type "type", _, .cls cd, sl⟩ => (match cd.mro, sl.toList with
    | .ref C' :: bm, [_, _, _, _, some (.builtin n), _] => C' == C && n == "ValueError.__new__" && !cd.hasDel && cd.hasDict && PySem.HandSPX.refsVE bm
    | _, _ => false)
  | _ => false
theorem oex_of {K : PySem.W.Frag} {C : Addr} (q : oexB K C = true) : ∃ nm q N bs bm sn sub ab col dd k0 k1 k2 k3 k5, K.lookup C = some (excClassObj nm q C N bs bm true sn sub ab col dd k0 k1 k2 k3 k5 "ValueError.__new__") ∧ PySem.HandSPX.refsVE bm = true := by
  unfold oexB at q
  split at q
  · rename_i dd cd sl ho
    split at q
    · rename_i C' bm k0 k1 k2 k3 n k5 hm hs
      simp only [Bool.and_eq_true, beq_iff_eq, Bool.not_eq_true'] at q
      obtain ⟨⟨⟨⟨rfl, rfl⟩, hdel⟩, hdc⟩, hr⟩ := q
      obtain ⟨nm, bs, mro, ns, qn, hd, sn, sub, ab, col, del⟩ := cd
      dsimp only at hm hdel hdc
      subst hm hdel hdc
      obtain ⟨sl⟩ := sl
      dsimp only at hs
      subst hs
      exact ⟨_, _, _, _, _, _, _, _, _, _, _, _, _, _, _, ho, hr⟩
    · cases q
  · cases q
def exB (K : PySem.W.Frag) (C f : Addr) : Bool := oexB K C && (He.eqO (PySem.W.findIn K (.ref C) "__setattr__") (some (some (.builtin "object.__setattr__"))) && (decide (PySem.W.subIn K (.ref C) (.type "BaseException") = some true) && (decide (PySem.W.typeIn K (.ref C) = some (.type "type")) && (PySem.W.keepIn K (.ref C) &&
  (He.eqO (PySem.W.findIn K (.ref C) "__init__") (some (some (.ref f))) && (decide (PySem.W.typeIn K (.ref f) = some (.type "function")) && (He.eqO (PySem.W.findIn K (.ref C) "__getattribute__") (some (some (.builtin "BaseException.__getattribute__"))) && (He.eqO (PySem.W.findIn K (.ref C) "__getattr__") (some none) &&
  (PySem.W.hasDictIn K C && (He.eqO (PySem.W.findIn K (.ref C) "__class__") (some (some (.builtin "object.__class__"))) && (He.eqO (PySem.W.specialIn K (.builtin "object.__class__") "__get__") (some (some (.builtin "getset_descriptor.__get__"))) && (decide (PySem.W.takesIn K (.builtin "object.__class__") = some true) && (decide (PySem.W.mroIn K C (.type "object") = some true) && PySem.W.isClsIn K C)))))))))))))
section
variable {K : PySem.W.Frag} {C f : Addr} (h : exB K C f = true)
include h
theorem exB_all : oexB K C = true ∧ PySem.W.findIn K (.ref C) "__setattr__" = some (some (.builtin "object.__setattr__")) ∧ PySem.W.subIn K (.ref C) (.type "BaseException") = some true ∧ PySem.W.typeIn K (.ref C) = some (.type "type") ∧ PySem.W.keepIn K (.ref C) = true ∧
    PySem.W.findIn K (.ref C) "__init__" = some (some (.ref f)) ∧ PySem.W.typeIn K (.ref f) = some (.type "function") ∧ PySem.W.findIn K (.ref C) "__getattribute__" = some (some (.builtin "BaseException.__getattribute__")) ∧ PySem.W.findIn K (.ref C) "__getattr__" = some none ∧
    PySem.W.hasDictIn K C = true ∧ PySem.W.findIn K (.ref C) "__class__" = some (some (.builtin "object.__class__")) ∧ PySem.W.specialIn K (.builtin "object.__class__") "__get__" = some (some (.builtin "getset_descriptor.__get__")) ∧ PySem.W.takesIn K (.builtin "object.__class__") = some true ∧ PySem.W.mroIn K C (.type "object") = some true ∧ PySem.W.isClsIn K C = true := by
  have q := h
  unfold exB at q
  obtain ⟨h1, q⟩ := He.ba q
  obtain ⟨h2, q⟩ := He.ba q
  obtain ⟨h3, q⟩ := He.ba q
  obtain ⟨h4, q⟩ := He.ba q
  obtain ⟨h5, q⟩ := He.ba q
  obtain ⟨h6, q⟩ := He.ba q
  obtain ⟨h7, q⟩ := He.ba q
  obtain ⟨h8, q⟩ := He.ba q
  obtain ⟨h9, q⟩ := He.ba q
  obtain ⟨h10, q⟩ := He.ba q
  obtain ⟨h11, q⟩ := He.ba q
  obtain ⟨h12, q⟩ := He.ba q
  obtain ⟨h13, q⟩ := He.ba q
  obtain ⟨h14, h15⟩ := He.ba q
  exact ⟨h1, He.eqO_ok h2, of_decide_eq_true h3, of_decide_eq_true h4, h5, He.eqO_ok h6, of_decide_eq_true h7, He.eqO_ok h8, He.eqO_ok h9, h10, He.eqO_ok h11, He.eqO_ok h12, of_decide_eq_true h13, of_decide_eq_true h14, h15⟩
theorem exB_o : OexC K C := by
  obtain ⟨h1, h2, h3, h4, h5, _⟩ := exB_all h
  exact ⟨oex_of h1, h2, h3, h4, h5⟩
theorem exB_i : PySem.W.findIn K (.ref C) "__init__" = some (some (.ref f)) := (exB_all h).2.2.2.2.2.1
theorem exB_t : PySem.W.typeIn K (.ref f) = some (.type "function") := (exB_all h).2.2.2.2.2.2.1
theorem exB_e : ExcC K C := by
  obtain ⟨_, _, h3, _, _, _, _, h8, h9, h10, h11, h12, h13, h14, _⟩ := exB_all h
  exact ⟨h8, h9, h3, h10, h11, h12, h13, h14⟩
theorem exB_y : PySem.W.typeIn K (.ref C) = some (.type "type") := (exB_all h).2.2.2.1
theorem exB_l : PySem.W.isClsIn K C = true := (exB_all h).2.2.2.2.2.2.2.2.2.2.2.2.2.2
end
theorem law_bi {K : PySem.W.Frag} {x q : Str} {st : Stmt} {f : Addr} {d : FuncData} {C : FuncData → Prop} (F : Fun K x q st f d)
  (h : ∀ kV doc pm an cdv ct, C (PySem.W.fnOf x q (defArgs st) (defBody st) (defScope st) .none kV doc pm an cdv ct)) : C d := by
  obtain ⟨oc, od, kV, doc, pm, an, cdv, ct, osl, rfl, lk, hcd⟩ := F.ex
  exact h ..
def lookF (K : PySem.W.Frag) (p : Str × Option Str) : Option (Option Value) := match p.2 with
  | none => PySem.W.nsIn K mainGlobals p.1
  | some m => PySem.W.findIn K (.ref (He.ga K p.1)) m
abbrev FnX : Type := Option (Value × Str × Str × Arguments × FuncBody × Scope × Addr × List (Str × Addr) × Value × Addr × Bool)
def fnX (K : PySem.W.Frag) (d : He.DefD) : FnX := match lookF K d.at_ with
  | some (some (.ref f)) => HandSHeadRun.frNat f fun f => (match K.lookup f with
    | some ⟨oc, _, .func fd, _⟩ => some (oc, fd.name, fd.qualname, fd.params, fd.body, fd.scope, fd.globals, fd.closure, fd.defaults, fd.builtins, PySem.W.codeIn K fd.code d.qual)
    | _ => none)
  | _ => none
def valX (d : He.DefD) : FnX := some (.type "function", d.name, d.qual, d.params, .stmts d.body, d.scope, mainGlobals, [], .none, builtinsNs, true)
theorem fnX_ok {K : PySem.W.Frag} {p : Str × Option Str} {x q : Str} {st : Stmt} (e : fnX K ⟨p, x, q, defArgs st, defBody st, defScope st, [], []⟩ = valX ⟨p, x, q, defArgs st, defBody st, defScope st, [], []⟩) :
    lookF K p = some (some (.ref (He.fAd K p))) ∧ PySem.W.isFn K (.ref (He.fAd K p)) = true ∧ ∃ fd, Fun K x q st (He.fAd K p) fd := by
  unfold fnX at e
  dsimp only at e
  cases hl : lookF K p with
  | none =>
    rw [hl] at e
    cases e
  | some o =>
    rw [hl] at e
    cases o with
    | none => cases e
    | some v =>
      cases v with
      | ref f =>
        dsimp only at e
        rw [HandSHeadRun.frNat_eq] at e
        have ef : He.fAd K p = f := by
          obtain ⟨p1, p2⟩ := p
          cases p2 with
          | none =>
            have hl2 : PySem.W.nsIn K mainGlobals p1 = some (some (.ref f)) := hl
            show He.ga K p1 = f
            unfold He.ga
            rw [hl2]
          | some m =>
            have hl2 : PySem.W.findIn K (.ref (He.ga K p1)) m = some (some (.ref f)) := hl
            show He.ma K (He.ga K p1) m = f
            unfold He.ma
            rw [hl2]
        rw [ef]
        refine ⟨rfl, ?_⟩
        cases q2 : K.lookup f with
        | none =>
          rw [q2] at e
          cases e
        | some o =>
          obtain ⟨oc, od, dt, osl⟩ := o
          rw [q2] at e
          cases dt with
          | func fd =>
            obtain ⟨n1, n2, n3, n4, n5, n6, n7, n8, n9, n10, n11, n12, n13, n14, n15⟩ := fd
            have e2 : (some (oc, n1, n2, n3, n4, n5, n6, n7, n8, n15, PySem.W.codeIn K n13 q) : FnX) = some (.type "function", x, q, defArgs st, .stmts (defBody st), defScope st, mainGlobals, [], .none, builtinsNs, true) := e
            simp only [Option.some.injEq, Prod.mk.injEq] at e2
            obtain ⟨h0, h1, h2, h3, h4, h5, h6, h7, h8, h9, h10⟩ := e2
            subst h0 h1 h2 h3 h4 h5 h6 h7 h8 h9
            refine ⟨?_, _, ⟨_, od, n9, n10, n11, n12, n13, n14, osl, rfl, q2, h10⟩, ?_⟩
            · show (((K.lookup f).map (·.cls)) == some (.type "function")) = true
              rw [q2]
              rfl
            · unfold PySem.W.keepIn
              dsimp only
              rw [q2]
          | _ => cases e
      | _ => cases e
theorem dG {K : PySem.W.Frag} {h : Heap} {mg : Str → Option Value} (X : K.In h) (G : h.Ns mainGlobals mg) {x : Str} (e : lookF K (x, none) = some (some (.ref (He.fAd K (x, none))))) : mg x = some (.ref (He.fAd K (x, none))) := PySem.W.mg_of X G e
theorem dM {K : PySem.W.Frag} {x m : Str} (e : lookF K (x, some m) = some (some (.ref (He.fAd K (x, some m))))) (i : PySem.W.isFn K (.ref (He.fAd K (x, some m))) = true) (k : PySem.W.keepIn K (.ref (He.fAd K (x, some m))) = true) : Meth K (He.ga K x) m (He.fAd K (x, some m)) := ⟨e, i, k⟩
def asL (g : Addr → Option Obj) : Nat → List Addr → List Addr
  | 0, l => l
  | n + 1, l => l ++ asL g n (l.flatMap fun a => match g a with
    | some o => He.refsO o
    | none => [])
/-- the written part: what the module's names reach -/
def frT (g : Addr → Option Obj) : PySem.W.Frag := He.frG g (asL g 4 [mainGlobals])
abbrev AlX : Type := Bool × List FnX × List FnX
def obsX (fa : List He.Fa) (fb : List (PySem.W.Frag → Bool)) (fn fm : List He.DefD) (K : PySem.W.Frag) : AlX := ((fa.all fun f => f.ok K) && (fb.all fun f => f K), fn.map (fnX K), fm.map (fnX K))
def valsX (fn fm : List He.DefD) : AlX := (true, fn.map valX, fm.map valX)
def SaysX (fa : List He.Fa) (fb : List (PySem.W.Frag → Bool)) (fn fm : List He.DefD) (K : PySem.W.Frag) : Prop := obsX fa fb fn fm K = valsX fn fm
def hookX (fa : List He.Fa) (fb : List (PySem.W.Frag → Bool)) (fn fm : List He.DefD) : PySem.W.Hook where
  α := AlX
  obs := fun s => obsX fa fb fn fm (frT s.heap.get?)
  val := fun _ => valsX fn fm
  says := fun _ h => ∃ K : PySem.W.Frag, K.In h ∧ SaysX fa fb fn fm K
  of := fun _ _ e => ⟨_, He.frG_in, e⟩
  keeps := fun _ _ _ ⟨K, hK, c⟩ k => ⟨K, PySem.W.Frag.In.keeps hK k, c⟩
theorem obsX_eq {fa : List He.Fa} {fb : List (PySem.W.Frag → Bool)} {fn fm : List He.DefD} {g : Addr → Option Obj} {s : Shared} (h : ∀ a, g a = s.heap.get? a) : obsX fa fb fn fm (frT g) = (hookX fa fb fn fm).obs s := by
  have e : g = s.heap.get? := funext h
  rw [e] <;> rfl
theorem join2 {α β γ : Type} {o : Option α} {f : α → β} {g : α → γ} {x : β} {y : γ} (h1 : o.map f = some x) (h2 : o.map g = some y) : o.map (fun s => (f s, g s)) = some (x, y) := by
  cases o with
  | none => cases h1
  | some s =>
    cases h1
    cases h2
    rfl
section
variable {fa : List He.Fa} {fb : List (PySem.W.Frag → Bool)} {fn fm : List He.DefD} {K : PySem.W.Frag}
theorem SaysX.fact (c : SaysX fa fb fn fm K) (i : Nat) {f : He.Fa} (h : fa[i]? = some f := by rfl) : f.ok K = true :=
  List.all_eq_true.mp (He.ba (congrArg (fun z : AlX => z.1) c)).1 f (List.mem_of_getElem? h)
theorem SaysX.factB (c : SaysX fa fb fn fm K) (i : Nat) {f : PySem.W.Frag → Bool} (h : fb[i]? = some f := by rfl) : f K = true :=
  List.all_eq_true.mp (He.ba (congrArg (fun z : AlX => z.1) c)).2 f (List.mem_of_getElem? h)
theorem fnX_at {fn : List He.DefD} (e : fn.map (fnX K) = fn.map valX) (i : Nat) {d : He.DefD} (h : fn[i]? = some d) : fnX K d = valX d := by
  have e2 : (fn.map (fnX K))[i]? = (fn.map valX)[i]? := by rw [e]
  rw [List.getElem?_map, List.getElem?_map, h] at e2
  exact Option.some.inj e2
theorem SaysX.dn (c : SaysX fa fb fn fm K) (i : Nat) {p : Str × Option Str} {x q : Str} {st : Stmt} (h : fn[i]? = some ⟨p, x, q, defArgs st, defBody st, defScope st, [], []⟩ := by rfl) :
    lookF K p = some (some (.ref (He.fAd K p))) ∧ PySem.W.isFn K (.ref (He.fAd K p)) = true ∧ ∃ fd, Fun K x q st (He.fAd K p) fd := fnX_ok (fnX_at (congrArg (fun z : AlX => z.2.1) c) i h)
theorem SaysX.dm (c : SaysX fa fb fn fm K) (i : Nat) {p : Str × Option Str} {x q : Str} {st : Stmt} (h : fm[i]? = some ⟨p, x, q, defArgs st, defBody st, defScope st, [], []⟩ := by rfl) :
    lookF K p = some (some (.ref (He.fAd K p))) ∧ PySem.W.isFn K (.ref (He.fAd K p)) = true ∧ ∃ fd, Fun K x q st (He.fAd K p) fd := fnX_ok (fnX_at (congrArg (fun z : AlX => z.2.2) c) i h)
end
def hfa0 : List He.Fa := [.free "all",
  .free "len",
  .free "range",
  .free "abs",
  .free "int",
  .free "min",
  .free "max",
  .free "isinstance",
  .free "list",
  .free "tuple",
  .free "bool",
  .free "enumerate",
  .free "sorted",
  .int "MOST_BYTES" (196),
  .int "DOWN" (0),
  .int "UP" (1),
  .glo "Meter",
  .glo "BearerError",
  .glo "NotValid",
  .glo "UpperSender",
  .glo "UpperReceiver",
  .glo "Anchor",
  .cls "Meter",
  .mkr "Meter",
  .noat "Meter" "_sums",
  .noat "Meter" "_last",
  .noat "Meter" "_answered",
  .noat "Meter" "_has_more",
  .cls "UpperSender",
  .mkr "UpperSender",
  .noat "UpperSender" "_bits",
  .noat "UpperSender" "_next",
  .noat "UpperSender" "_packets",
  .cls "UpperReceiver",
  .mkr "UpperReceiver",
  .noat "UpperReceiver" "_bits",
  .noat "UpperReceiver" "_first",
  .noat "UpperReceiver" "_ahead",
  .cls "Anchor",
  .mkr "Anchor"]
def hfa1 : List He.Fa := [.noat "Anchor" "meter",
  .noat "Anchor" "_stay",
  .noat "Anchor" "_senders",
  .noat "Anchor" "_receivers",
  .noat "Anchor" "_out"]
def hfa : List He.Fa := hfa0 ++ (hfa1)
def hfb0 : List (PySem.W.Frag → Bool) := [fun K => exB K (He.ga K "BearerError") (He.fAd K ("BearerError", some "__init__")),
  fun K => decide (PySem.W.subIn K (.ref (He.ga K "BearerError")) (.ref (He.ga K "BearerError")) = some true),
  fun K => decide (PySem.W.subIn K (.ref (He.ga K "BearerError")) (.ref (He.ga K "NotValid")) = some false),
  fun K => exB K (He.ga K "NotValid") (He.fAd K ("BearerError", some "__init__")),
  fun K => decide (PySem.W.subIn K (.ref (He.ga K "NotValid")) (.ref (He.ga K "BearerError")) = some true),
  fun K => decide (PySem.W.subIn K (.ref (He.ga K "NotValid")) (.ref (He.ga K "NotValid")) = some true)]
def hfb : List (PySem.W.Frag → Bool) := hfb0
def hfn0 : List He.DefD := [⟨("_wall", none), "_wall", "_wall", defArgs S_u_wall, defBody S_u_wall, defScope S_u_wall, [], []⟩,
  ⟨("Meter", some "__init__"), "__init__", "Meter.__init__", defArgs S_Meter___init__, defBody S_Meter___init__, defScope S_Meter___init__, [], []⟩,
  ⟨("Meter", some "add"), "add", "Meter.add", defArgs S_Meter_add, defBody S_Meter_add, defScope S_Meter_add, [], []⟩,
  ⟨("Meter", some "metered"), "metered", "Meter.metered", defArgs S_Meter_metered, defBody S_Meter_metered, defScope S_Meter_metered, [], []⟩,
  ⟨("Meter", some "_last_serial"), "_last_serial", "Meter._last_serial", defArgs S_Meter__last_serial, defBody S_Meter__last_serial, defScope S_Meter__last_serial, [], []⟩,
  ⟨("Meter", some "write"), "write", "Meter.write", defArgs S_Meter_write, defBody S_Meter_write, defScope S_Meter_write, [], []⟩,
  ⟨("Meter", some "last"), "last", "Meter.last", defArgs S_Meter_last, defBody S_Meter_last, defScope S_Meter_last, [], []⟩,
  ⟨("Meter", some "take"), "take", "Meter.take", defArgs S_Meter_take, defBody S_Meter_take, defScope S_Meter_take, [], []⟩,
  ⟨("Meter", some "is_settled"), "is_settled", "Meter.is_settled", defArgs S_Meter_is_settled, defBody S_Meter_is_settled, defScope S_Meter_is_settled, [], []⟩,
  ⟨("BearerError", some "__init__"), "__init__", "BearerError.__init__", defArgs S_BearerError___init__, defBody S_BearerError___init__, defScope S_BearerError___init__, [], []⟩,
  ⟨("is_between", none), "is_between", "is_between", defArgs S_is_between, defBody S_is_between, defScope S_is_between, [], []⟩,
  ⟨("is_packet", none), "is_packet", "is_packet", defArgs S_is_packet, defBody S_is_packet, defScope S_is_packet, [], []⟩,
  ⟨("window_size", none), "window_size", "window_size", defArgs S_window_size, defBody S_window_size, defScope S_window_size, [], []⟩,
  ⟨("window", none), "window", "window", defArgs S_window, defBody S_window, defScope S_window, [], []⟩,
  ⟨("_in_order", none), "_in_order", "_in_order", defArgs S_u_in_order, defBody S_u_in_order, defScope S_u_in_order, [], []⟩,
  ⟨("UpperSender", some "__init__"), "__init__", "UpperSender.__init__", defArgs S_UpperSender___init__, defBody S_UpperSender___init__, defScope S_UpperSender___init__, [], []⟩,
  ⟨("UpperSender", some "may_add"), "may_add", "UpperSender.may_add", defArgs S_UpperSender_may_add, defBody S_UpperSender_may_add, defScope S_UpperSender_may_add, [], []⟩,
  ⟨("UpperSender", some "add"), "add", "UpperSender.add", defArgs S_UpperSender_add, defBody S_UpperSender_add, defScope S_UpperSender_add, [], []⟩,
  ⟨("UpperSender", some "next_count"), "next_count", "UpperSender.next_count", defArgs S_UpperSender_next_count, defBody S_UpperSender_next_count, defScope S_UpperSender_next_count, [], []⟩,
  ⟨("UpperSender", some "base"), "base", "UpperSender.base", defArgs S_UpperSender_base, defBody S_UpperSender_base, defScope S_UpperSender_base, [], []⟩,
  ⟨("UpperSender", some "unconfirmed"), "unconfirmed", "UpperSender.unconfirmed", defArgs S_UpperSender_unconfirmed, defBody S_UpperSender_unconfirmed, defScope S_UpperSender_unconfirmed, [], []⟩,
  ⟨("UpperSender", some "confirm"), "confirm", "UpperSender.confirm", defArgs S_UpperSender_confirm, defBody S_UpperSender_confirm, defScope S_UpperSender_confirm, [], []⟩]
def hfn : List He.DefD := hfn0
def hfma0 : List He.DefD := [⟨("UpperSender", some "take_report"), "take_report", "UpperSender.take_report", defArgs S_UpperSender_take_report, defBody S_UpperSender_take_report, defScope S_UpperSender_take_report, [], []⟩,
  ⟨("UpperReceiver", some "__init__"), "__init__", "UpperReceiver.__init__", defArgs S_UpperReceiver___init__, defBody S_UpperReceiver___init__, defScope S_UpperReceiver___init__, [], []⟩,
  ⟨("UpperReceiver", some "first_missing"), "first_missing", "UpperReceiver.first_missing", defArgs S_UpperReceiver_first_missing, defBody S_UpperReceiver_first_missing, defScope S_UpperReceiver_first_missing, [], []⟩,
  ⟨("UpperReceiver", some "take"), "take", "UpperReceiver.take", defArgs S_UpperReceiver_take, defBody S_UpperReceiver_take, defScope S_UpperReceiver_take, [], []⟩,
  ⟨("UpperReceiver", some "take_count"), "take_count", "UpperReceiver.take_count", defArgs S_UpperReceiver_take_count, defBody S_UpperReceiver_take_count, defScope S_UpperReceiver_take_count, [], []⟩,
  ⟨("UpperReceiver", some "report"), "report", "UpperReceiver.report", defArgs S_UpperReceiver_report, defBody S_UpperReceiver_report, defScope S_UpperReceiver_report, [], []⟩,
  ⟨("UpperReceiver", some "held"), "held", "UpperReceiver.held", defArgs S_UpperReceiver_held, defBody S_UpperReceiver_held, defScope S_UpperReceiver_held, [], []⟩,
  ⟨("Anchor", some "__init__"), "__init__", "Anchor.__init__", defArgs S_Anchor___init__, defBody S_Anchor___init__, defScope S_Anchor___init__, [], []⟩,
  ⟨("Anchor", some "put"), "put", "Anchor.put", defArgs S_Anchor_put, defBody S_Anchor_put, defScope S_Anchor_put, [], []⟩,
  ⟨("Anchor", some "begin_stay"), "begin_stay", "Anchor.begin_stay", defArgs S_Anchor_begin_stay, defBody S_Anchor_begin_stay, defScope S_Anchor_begin_stay, [], []⟩,
  ⟨("Anchor", some "take_letter"), "take_letter", "Anchor.take_letter", defArgs S_Anchor_take_letter, defBody S_Anchor_take_letter, defScope S_Anchor_take_letter, [], []⟩]
def hfma : List He.DefD := hfma0
def hfmb0 : List He.DefD := [⟨("Anchor", some "_give_out"), "_give_out", "Anchor._give_out", defArgs S_Anchor__give_out, defBody S_Anchor__give_out, defScope S_Anchor__give_out, [], []⟩,
  ⟨("Anchor", some "out"), "out", "Anchor.out", defArgs S_Anchor_out, defBody S_Anchor_out, defScope S_Anchor_out, [], []⟩,
  ⟨("Anchor", some "unconfirmed"), "unconfirmed", "Anchor.unconfirmed", defArgs S_Anchor_unconfirmed, defBody S_Anchor_unconfirmed, defScope S_Anchor_unconfirmed, [], []⟩,
  ⟨("_law_next", none), "_law_next", "_law_next", defArgs S_u_law_next, defBody S_u_law_next, defScope S_u_law_next, [], []⟩,
  ⟨("_law_packet", none), "_law_packet", "_law_packet", defArgs S_u_law_packet, defBody S_u_law_packet, defScope S_u_law_packet, [], []⟩,
  ⟨("_law_put", none), "_law_put", "_law_put", defArgs S_u_law_put, defBody S_u_law_put, defScope S_u_law_put, [], []⟩,
  ⟨("_law_kept", none), "_law_kept", "_law_kept", defArgs S_u_law_kept, defBody S_u_law_kept, defScope S_u_law_kept, [], []⟩,
  ⟨("_law_down", none), "_law_down", "_law_down", defArgs S_u_law_down, defBody S_u_law_down, defScope S_u_law_down, [], []⟩,
  ⟨("_law_begin", none), "_law_begin", "_law_begin", defArgs S_u_law_begin, defBody S_u_law_begin, defScope S_u_law_begin, [], []⟩,
  ⟨("_law_up", none), "_law_up", "_law_up", defArgs S_u_law_up, defBody S_u_law_up, defScope S_u_law_up, [], []⟩,
  ⟨("law", none), "law", "law", defArgs S_law, defBody S_law, defScope S_law, [], []⟩]
def hfmb : List He.DefD := hfmb0
def hfm : List He.DefD := hfma ++ hfmb
end My
namespace HeadK
open PySem PySem.W PySem.Calls PyProof.Rows
abbrev R : OpenRow := OpenLaw.row PySem.Challenge.rw_bearerwise_k42_anchor
abbrev qv : Program := view R.prog [30]
def names0 : List PySem.Str := ["_wall",
  "__name__",
  "Meter",
  "BearerError",
  "NotValid",
  "is_between",
  "is_packet",
  "window_size",
  "window",
  "_in_order",
  "UpperSender",
  "UpperReceiver"]
def names1 : List PySem.Str := ["MOST_BYTES",
  "DOWN",
  "UP",
  "Anchor",
  "_law_next",
  "_law_packet",
  "_law_put",
  "_law_kept",
  "_law_down",
  "_law_begin",
  "_law_up"]
def names : List PySem.Str := names0 ++ (names1)
abbrev hk : PySem.W.Hook := My.hookX My.hfa My.hfb My.hfn My.hfm
def ob (s : PySem.W.SharedT) : My.AlX := My.obsX My.hfa My.hfb My.hfn My.hfm (My.frT (HandSHeadRun.getT s))
theorem ob_eq (s : PySem.W.SharedT) : ob s = hk.obs s.abs := My.obsX_eq (HandSHeadRun.getT_eq s)
noncomputable def runs (w : World) (os : OsState) : Option PySem.W.SharedT := HandSHeadRun.endF (HandSHeadRun.stepQ (HandSHeadRun.denQ HandSHeadRun.tabQ) R.prog w) 20000 R.prog w os
theorem run1 (w : World) (os : OsState) : (runs w os).map (fun s => (HandSHeadRun.looksF R.prog (boot_heap w.params) s.abs, HandSHeadRun.seenQ qv names (importedModules R.prog.main.body) (fun s => xlAt qv [] s && recOk R.toRowW.records s) s.abs)) = some (true, openGood qv names) := by
  kernel_rfl
theorem run2 (w : World) (os : OsState) : (runs w os).map (fun s => ((My.hfa.all fun f => f.ok (My.frT (HandSHeadRun.getT s))) && (My.hfb.all fun f => f (My.frT (HandSHeadRun.getT s))))) = some true := by
  kernel_rfl
theorem run3 (w : World) (os : OsState) : (runs w os).map (fun s => My.hfn.map (My.fnX (My.frT (HandSHeadRun.getT s)))) = some (My.hfn.map My.valX) := by
  kernel_rfl
theorem run4 (w : World) (os : OsState) : (runs w os).map (fun s => My.hfma.map (My.fnX (My.frT (HandSHeadRun.getT s)))) = some (My.hfma.map My.valX) := by
  kernel_rfl
theorem run5 (w : World) (os : OsState) : (runs w os).map (fun s => My.hfmb.map (My.fnX (My.frT (HandSHeadRun.getT s)))) = some (My.hfmb.map My.valX) := by
  kernel_rfl
theorem run (w : World) : HandSHeadRun.RunEq R qv hk ob 20000 names w := by
  intro os
  have h := My.join2 (run1 w os) (My.join2 (run2 w os) (My.join2 (run3 w os) (My.join2 (run4 w os) (run5 w os))))
  obtain ⟨s, hs, e⟩ := Option.map_eq_some_iff.mp h
  refine Option.map_eq_some_iff.mpr ⟨s, hs, ?_⟩
  have e1 := congrArg (fun z => z.1.1) e
  have e2 := congrArg (fun z => z.1.2) e
  have e3 := congrArg (fun z => z.2.1) e
  have e4 := congrArg (fun z => z.2.2.1) e
  have e5 := congrArg (fun z => z.2.2.2.1) e
  have e6 := congrArg (fun z => z.2.2.2.2) e
  refine Prod.ext e1 (Prod.ext e2 (Prod.ext e3 (Prod.ext e4 ?_)))
  show (My.hfma ++ My.hfmb).map _ = (My.hfma ++ My.hfmb).map _
  rw [List.map_append, List.map_append]
  exact congr (congrArg _ e5) e6
end HeadK

namespace My
open PySem L2
/-! ### the walk's own steps -/
local macro_rules | `(tactic| walk_at "side") => `(tactic| first
  | exact rfl
  | assumption
  | omega
  | decide
  | exact Nat.le_of_ble_eq_true rfl
  | exact ⟨by omega, by omega⟩
  | exact ⟨by omega, by omega, by omega⟩
  | exact Or.inl ⟨by omega, by omega⟩
  | exact Or.inr ⟨by omega, by omega⟩)
local macro_rules | `(tactic| walk_at "sm") => `(tactic| first
  | assumption
  | exact Same.refl _
  | (apply Own.imm; assumption)
  | (apply Own.same; assumption)
  | (refine Same.trans ?_ (by assumption); walk_at "sm")
  | (apply Same.trans; rotate_left; (apply Own.imm; assumption); walk_at "sm")
  | (apply Same.trans; rotate_left; (apply Own.same; assumption); walk_at "sm"))
local macro_rules | `(tactic| walk_at "mem") => `(tactic| first
  | exact List.Mem.head _
  | (apply List.Mem.tail; walk_at "mem"))
local macro_rules | `(tactic| walk_at "nn") => `(tactic| first
  | assumption
  | (refine same_none (?_ : Same _ _) (by assumption); walk_at "sm"))
local macro_rules | `(tactic| walk_at "hp") => `(tactic| first
  | assumption
  | (apply Own.mem; assumption; walk_at "mem")
  | (apply hp_step; assumption; walk_at "sm"))
local macro_rules | `(tactic| walk_at "sq") => `(tactic| first
  | assumption
  | (apply sq_of; assumption)
  | (apply st_of; assumption)
  | (apply sq_step; assumption; walk_at "sm")
  | (apply sqt_step; assumption; walk_at "sm")
  | (apply sq_of; walk_at "hp")
  | (apply st_of; walk_at "hp"))
local macro_rules | `(tactic| walk_at "rd") => `(tactic| first
  | refine ⟨_, rfl, ?_⟩
  | refine ⟨_, _, rfl, rfl, ?_⟩
  | refine Or.inl ⟨_, rfl, ?_⟩
  | refine Or.inr ⟨_, rfl, ?_⟩
  | refine ⟨_, _, _, rfl, ?_⟩
  | with_reducible refine br_nonI ?_
  | with_reducible refine br_nonR ?_
  | with_reducible refine br_nonN ?_
  | with_reducible refine br_xnonI ?_
  | with_reducible refine br_xnonR ?_
  | with_reducible refine br_xnonN ?_
  | (refine' And.intro ?h ?_; (case h => walk_at "side"))
  | refine rd_tup ?_
  | refine rd_lst ?_
  | with_reducible refine br_F ?_
  | with_reducible refine br_T ?_
  | with_reducible refine br_nF ?_
  | with_reducible refine br_nT ?_
  | refine ⟨_, rfl, rfl, ?_⟩
  | with_reducible refine rd_yes ?_
  | refine rd_isiIB ?_
  | refine rd_isiII ?_
  | (refine' rd_getF ?h ?r ?_; (case h => walk_at "hp"); (case r => exact rfl))
  | (refine' rd_ins ?h ?r ?_; (case h => walk_at "hp"); (case r => exact rfl))
  | (refine' rd_din ?h ?_; (case h => walk_at "hp"))
  | (refine' rd_dnotin ?h ?_; (case h => walk_at "hp"))
  | refine rd_truB ?_
  | (refine' rd_truL ?h ?_; (case h => walk_at "sq"))
  | (refine' rd_sum ?h ?_; (case h => walk_at "sq"))
  | (refine' rd_lenI ?h ?_; (case h => walk_at "sq"))
  | (refine' rd_len ?h ?_; (case h => walk_at "sq"))
  | refine ⟨_, _, rfl, (show _ = some _ from by walk_at "hp"), ?_⟩)
local macro_rules | `(tactic| walk_at "R") => `(tactic| repeat walk_at "rd")

section
variable {P : Program} {w : World} {K : PySem.W.Frag} {mg : Str → Option Value} {base : Heap}
theorem ok_BearerError___init__ (T : Tx P w K mg base) : FnOk P w K mg base CX0 1 T.d0.a_BearerError___init__ T.d0.d_BearerError___init__ ["self"] spInit0 := by
  refine T.d0.p_BearerError___init__.F.ok sc_BearerError___init__ (fun vs H Q E h => ?_) (fun cdv A outer s H vs Q E hr h => ?_)
  · obtain ⟨a, rfl, _⟩ := h
    rfl
  · obtain ⟨a, rfl, q⟩ := h
    exact ⟨_, pss_one ps_pass, q⟩
theorem Tx.x_BearerError (T : Tx P w K mg base) : PlainExc P w K mg base "BearerError" T.b.C_BearerError T.d0.a_BearerError___init__ T.d0.d_BearerError___init__ := ⟨T.k0.o_BearerError, T.k0.i_BearerError, T.k0.t_BearerError, ok_BearerError___init__ T, T.d0.p_BearerError___init__.b, T.b.g_BearerError⟩
theorem Tx.m_BearerError_BearerError (T : Tx P w K mg base) : PySem.W.exmOne K (.ref T.b.C_BearerError) (.ref T.b.C_BearerError) = some true := PySem.W.exm_ref T.k0.o_BearerError.exC T.k0.e_BearerError.hd T.k0.y_BearerError T.k0.s_BearerError_BearerError
theorem Tx.m_BearerError_NotValid (T : Tx P w K mg base) : PySem.W.exmOne K (.ref T.b.C_BearerError) (.ref T.b.C_NotValid) = some false := PySem.W.exm_ref T.k0.o_NotValid.exC T.k0.e_NotValid.hd T.k0.y_NotValid T.k0.s_BearerError_NotValid
theorem Tx.x_NotValid (T : Tx P w K mg base) : PlainExc P w K mg base "NotValid" T.b.C_NotValid T.d0.a_BearerError___init__ T.d0.d_BearerError___init__ := ⟨T.k0.o_NotValid, T.k0.i_NotValid, T.k0.t_NotValid, ok_BearerError___init__ T, T.d0.p_BearerError___init__.b, T.b.g_NotValid⟩
theorem Tx.m_NotValid_BearerError (T : Tx P w K mg base) : PySem.W.exmOne K (.ref T.b.C_NotValid) (.ref T.b.C_BearerError) = some true := PySem.W.exm_ref T.k0.o_BearerError.exC T.k0.e_BearerError.hd T.k0.y_BearerError T.k0.s_NotValid_BearerError
theorem Tx.m_NotValid_NotValid (T : Tx P w K mg base) : PySem.W.exmOne K (.ref T.b.C_NotValid) (.ref T.b.C_NotValid) = some true := PySem.W.exm_ref T.k0.o_NotValid.exC T.k0.e_NotValid.hd T.k0.y_NotValid T.k0.s_NotValid_NotValid
def sp_window_size (K : PySem.W.Frag) : Sp := fun vs H Q _ => ∃ b : Int, vs = [.int b] ∧ 1 ≤ b ∧ b ≤ 1000 ∧ Q (.int (2 ^ (b - 1).toNat)) H
@[irreducible] def ip_window_size (K : PySem.W.Frag) : Sp := sp_window_size K
theorem op_window_size {K : PySem.W.Frag} : ∀ {vs H Q E}, sp_window_size K vs H Q E → ip_window_size K vs H Q E := fun h => by unfold ip_window_size; exact h
theorem un_window_size {K : PySem.W.Frag} : ∀ {vs H Q E}, ip_window_size K vs H Q E → sp_window_size K vs H Q E := fun h => by unfold ip_window_size at h; exact h
theorem ok_window_size (T : Tx P w K mg base) : FnOk P w K mg base CX0 1 T.d0.a_window_size T.d0.d_window_size ["bits"] (ip_window_size K) := by
 refine T.d0.p_window_size.F.ok sc_window_size (fun vs H Q E h => ?_) (fun cdv A outer s H vs Q E hr h => ?_)
 · obtain ⟨b, rfl, h1, h2, q⟩ := un_window_size h
   rfl
 obtain ⟨b, rfl, h1, h2, q⟩ := un_window_size h
 refine ⟨_, (pss_one (ps_ret (pe_op op_shl1M pe_int (pe_op op_subM (pv 0) pe_int)))), ?_⟩
 walk_at "R"
 exact q
def sp_is_between (K : PySem.W.Frag) : Sp := fun vs H Q _ => ∃ v l m : Int, vs = [.int v, .int l, .int m] ∧ Q (.bl (decide (l ≤ v) && decide (v ≤ m))) H
@[irreducible] def ip_is_between (K : PySem.W.Frag) : Sp := sp_is_between K
theorem op_is_between {K : PySem.W.Frag} : ∀ {vs H Q E}, sp_is_between K vs H Q E → ip_is_between K vs H Q E := fun h => by unfold ip_is_between; exact h
theorem un_is_between {K : PySem.W.Frag} : ∀ {vs H Q E}, ip_is_between K vs H Q E → sp_is_between K vs H Q E := fun h => by unfold ip_is_between at h; exact h
theorem ok_is_between (T : Tx P w K mg base) : FnOk P w K mg base CX0 1 T.d0.a_is_between T.d0.d_is_between ["value", "least", "most"] (ip_is_between K) := by
 refine T.d0.p_is_between.F.ok sc_is_between (fun vs H Q E h => ?_) (fun cdv A outer s H vs Q E hr h => ?_)
 · obtain ⟨v, l, m, rfl, q⟩ := un_is_between h
   rfl
 obtain ⟨v, l, m, rfl, q⟩ := un_is_between h
 refine ⟨_, (pss_one (ps_ret (pe_andM (pe_callB call_isiM (by rfl) T.b.n_isinstance (by decide +kernel) (pa_cons (pv 0) (pa_cons (pe_bltn (v := .ty "int") rfl T.b.n_int (by decide +kernel) rfl) pa_nil))) (pe_andM (pe_not (pe_callB call_isiM (by rfl) T.b.n_isinstance (by decide +kernel) (pa_cons (pv 0) (pa_cons (pe_bltn (v := .ty "bool") rfl T.b.n_bool (by decide +kernel) rfl) pa_nil)))) (pe_andM (pe_cmpR op_geM (pv 0) (pv 1) (nomark _)) (pe_one (pe_cmpR op_leM (pv 0) (pv 2) (nomark _)))))))), ?_⟩
 walk_at "R"
 refine br_by (fun h => ?_) (fun h => ?_)
 · rw [decide_eq_true h] at q
   walk_at "R"
   exact q
 · rw [decide_eq_false h] at q
   walk_at "R"
   exact q
def pkB (ds : List Int) (m : Int) : Bool := (decide (1 ≤ (ds.length : Int)) && decide ((ds.length : Int) ≤ m)) && ds.all fun d => decide (0 ≤ d) && decide (d ≤ 255)
def sp_is_packet (K : PySem.W.Frag) : Sp := fun vs H Q _ => ∃ (a : Addr) (ds : List Int) (m : Int), vs = [.ref a, .int m] ∧ H a = some (.lst (ds.map V.int)) ∧ ds.length ≤ 10000 ∧ ∀ H', Same H H' → Q (.bl (pkB ds m)) H'
@[irreducible] def ip_is_packet (K : PySem.W.Frag) : Sp := sp_is_packet K
theorem op_is_packet {K : PySem.W.Frag} : ∀ {vs H Q E}, sp_is_packet K vs H Q E → ip_is_packet K vs H Q E := fun h => by unfold ip_is_packet; exact h
theorem un_is_packet {K : PySem.W.Frag} : ∀ {vs H Q E}, ip_is_packet K vs H Q E → sp_is_packet K vs H Q E := fun h => by unfold ip_is_packet at h; exact h
theorem ok_is_packet (T : Tx P w K mg base) : FnOk P w K mg base CX0 2 T.d0.a_is_packet T.d0.d_is_packet ["packet", "most"] (ip_is_packet K) := by
 have G_is_between := ok_is_between T
 refine T.d0.p_is_packet.F.ok sc_is_packet (fun vs H Q E h => ?_) (fun cdv A outer s H vs Q E hr h => ?_)
 · obtain ⟨a, ds, m, rfl, hS, hl, q⟩ := un_is_packet h
   rfl
 obtain ⟨a, ds, m, rfl, hS, hl, q⟩ := un_is_packet h
 refine ⟨_, (pss_cons (ps_ifM (PW.pt (pw_orM (pt_not (pt_val (pe_callB call_isiM (by rfl) T.b.n_isinstance (by decide +kernel) (pa_cons (pv 0) (pa_cons (pe_bltn (v := .ty "list") rfl T.b.n_list (by decide +kernel) rfl) pa_nil))))) (pw_or1 (pt_not (pt_val (pe_call G_is_between (hr.mono (by decide)) rfl T.d0.p_is_between.m T.d0.p_is_between.F.kp T.d0.p_is_between.b .nil pass0 (pa_cons (pe_callB call_lenM (by rfl) T.b.n_len PySem.boot_len (pa_cons (pv 0) pa_nil)) (pa_cons pe_int (pa_cons (pv 1) pa_nil))))))))) (pss_one (ps_ret pe_bl)) pss_nil) (pss_one (ps_ret (pe_callB (call_allM rfl) (by rfl) T.b.n_all (by decide +kernel) (pa_cons (pe_lcW (own := [("one", 2)]) (g := (gName 2)) [2] im_list rfl sc_is_packet.nd (pi_list (pe_c (pv 0))) (blkOk_by (own := [("one", 2)]) (N := ["packet", "most", "one"]) (sc := defScope S_is_packet) (by decide +kernel)) (fun _ _ _ _ _ => (pg_name (i := 2) sc_is_packet.nd rfl (Or.inl rfl))) (fun _ _ _ _ _ => pts_nil) (fun _ _ _ _ _ => (pe_call G_is_between (hr.mono (by decide)) rfl T.d0.p_is_between.m T.d0.p_is_between.F.kp T.d0.p_is_between.b .nil pass0 (pa_cons (pv 2) (pa_cons pe_int (pa_cons pe_int pa_nil)))))) pa_nil))))), ?_⟩
 unfold pkB at q
 walk_at "R"
 refine rd_isiLL hS ?_
 walk_at "R"
 refine op_is_between ⟨ds.length, 1, m, rfl, ?_⟩
 cases hb : decide (1 ≤ (ds.length : Int)) && decide ((ds.length : Int) ≤ m) with
 | false =>
   rw [hb, Bool.false_and] at q
   walk_at "R"
   exact q H (Same.refl _)
 | true =>
   rw [hb, Bool.true_and] at q
   walk_at "R"
   refine rd_lcW ?_
   walk_at "R"
   refine ⟨⟨_, sq_of hS⟩, ?_⟩
   refine wl_boolsL ds (fun d => decide (0 ≤ d) && decide (d ≤ 255)) (sq_of hS) (by omega) (fun n _ H' R _ k => ?_) (fun p H1 n1 s1 e1 => ?_)
   · walk_at "R"
     refine op_is_between ⟨n, 0, 255, rfl, ?_⟩
     exact k
   walk_at "R"
   refine rd_all (sq_of e1) ?_
   rw [List.all_map]
   exact q H1 s1
/-! tables by whole numbers -/
def sget {α : Type} (l : List (Int × α)) (n : Int) : Option α := (l.find? fun x => decide (x.1 = n)).map (·.2)
theorem sget_cons {α : Type} (x : Int × α) (l : List (Int × α)) (n : Int) : sget (x :: l) n = if x.1 = n then some x.2 else sget l n := by
  unfold sget
  rw [List.find?_cons]
  by_cases h : x.1 = n
  · rw [decide_eq_true h, if_pos h]
    rfl
  · rw [decide_eq_false h, if_neg h]
theorem sget_keys {α β : Type} {l : List (Int × α)} {r : List (Int × β)} (h : l.map Prod.fst = r.map Prod.fst) {n : Int} {v : α} (hv : sget l n = some v) : ∃ u, sget r n = some u := by
  unfold sget at hv ⊢
  obtain ⟨x, hx, _⟩ := Option.map_eq_some_iff.mp hv
  have h1 := List.mem_of_find?_eq_some hx
  have h2 := List.find?_some hx
  have h3 : x.1 = n := of_decide_eq_true h2
  have h4 : n ∈ r.map Prod.fst := by
    rw [← h, ← h3]
    exact List.mem_map.mpr ⟨x, h1, rfl⟩
  cases e : r.find? fun x => decide (x.1 = n) with
  | some y => exact ⟨_, rfl⟩
  | none =>
    obtain ⟨y, hy, ey⟩ := List.mem_map.mp h4
    exact absurd (decide_eq_true ey) (List.find?_eq_none.mp e y hy)
theorem sget_in {α : Type} {l : List (Int × α)} {n : Int} {v : α} (h : sget l n = some v) : (n, v) ∈ l := by
  unfold sget at h
  obtain ⟨x, hx, rfl⟩ := Option.map_eq_some_iff.mp h
  have h1 := List.mem_of_find?_eq_some hx
  have h2 := List.find?_some hx
  have h3 : x.1 = n := of_decide_eq_true h2
  rw [← h3]
  exact h1
theorem sget_app {α : Type} (l r : List (Int × α)) (n : Int) : sget (l ++ r) n = (sget l n).or (sget r n) := by
  induction l with
  | nil => rfl
  | cons x t ih =>
    rw [List.cons_append, sget_cons, sget_cons, ih]
    split <;> rfl
theorem sget_none {α : Type} {l : List (Int × α)} {n : Int} (h : n ∉ l.map Prod.fst) : sget l n = none := by
  cases e : sget l n with
  | none => rfl
  | some v => exact absurd (List.mem_map.mpr ⟨_, sget_in e, rfl⟩) h
theorem sget_some {α : Type} {l : List (Int × α)} {n : Int} (h : n ∈ l.map Prod.fst) : ∃ v, sget l n = some v := by
  induction l with
  | nil => cases h
  | cons x t ih =>
    rw [sget_cons]
    by_cases e : x.1 = n
    · exact ⟨_, if_pos e⟩
    · rw [if_neg e]
      refine ih ?_
      rcases List.mem_cons.mp h with z | z
      · exact absurd z.symm e
      · exact z
theorem sget_key {α : Type} {l : List (Int × α)} {n : Int} {v : α} (h : sget l n = some v) : n ∈ l.map Prod.fst := List.mem_map.mpr ⟨_, sget_in h, rfl⟩
/-! packets by their counts: a dict of whole numbers to lists of whole numbers -/
abbrev Pk := List (Int × Addr × List Int)
abbrev KX := List (Int × List Int)
def pkK (pk : Pk) : List (Key × V) := pk.map fun x => (.inl x.1, .ref x.2.1)
def pkX (pk : Pk) : KX := pk.map fun x => (x.1, x.2.2)
def PkAt (B : Hp) (pk : Pk) : Prop := ∀ x ∈ pk, B x.2.1 = some (.lst (x.2.2.map V.int))
theorem PkAt.mono {B B' : Hp} {pk : Pk} (h : PkAt B pk) (s : Same B B') : PkAt B' pk := fun x hx => s _ _ (h x hx)
theorem pkK_keys (pk : Pk) : (pkK pk).map Prod.fst = (pk.map Prod.fst).map Sum.inl := by
  unfold pkK
  rw [List.map_map, List.map_map]
  rfl
theorem pkX_keys (pk : Pk) : (pkX pk).map Prod.fst = pk.map Prod.fst := by
  unfold pkX
  rw [List.map_map]
  rfl
theorem pk_val {pk : Pk} (nd : (pk.map Prod.fst).Nodup) {x : Int × Addr × List Int} (h : x ∈ pk) : valV (pkK pk) (.inl x.1) = some (.ref x.2.1) := by
  induction pk with
  | nil => cases h
  | cons y r ih =>
    have nd2 := List.nodup_cons.mp nd
    unfold pkK
    rw [List.map_cons]
    rcases List.mem_cons.mp h with h | h
    · subst h
      exact valV_pos rfl
    · rw [valV_neg (fun e => nd2.1 (by
        have e2 : y.1 = x.1 := Sum.inl.inj e
        rw [e2]
        exact List.mem_map.mpr ⟨x, h, rfl⟩))]
      exact ih nd2.2 h
theorem pk_none {pk : Pk} {n : Int} (h : n ∉ pk.map Prod.fst) : valV (pkK pk) (.inl n) = none := by
  induction pk with
  | nil => rfl
  | cons y r ih =>
    unfold pkK
    rw [List.map_cons]
    rw [List.map_cons] at h
    rw [valV_neg (fun e => h (by
      have e2 : y.1 = n := Sum.inl.inj e
      rw [← e2]
      exact .head _))]
    exact ih fun z => h (.tail _ z)
theorem pk_is (pk : Pk) (n : Int) : (valV (pkK pk) (.inl n)).isSome = decide (n ∈ pk.map Prod.fst) := by
  induction pk with
  | nil => rfl
  | cons y r ih =>
    unfold pkK
    rw [List.map_cons, List.map_cons]
    by_cases e : y.1 = n
    · rw [valV_pos (congrArg Sum.inl e), e]
      exact (decide_eq_true (.head _)).symm
    · rw [valV_neg (fun z => e (Sum.inl.inj z))]
      refine ih.trans ?_
      refine decide_eq_decide.mpr ⟨fun z => .tail _ z, fun z => ?_⟩
      rcases List.mem_cons.mp z with z | z
      · exact absurd z.symm e
      · exact z
theorem pk_put {pk : Pk} {n : Int} {q : Addr} {x : List Int} (h : n ∉ pk.map Prod.fst) : putK (pkK pk) (.inl n) (.ref q) = pkK (pk ++ [(n, q, x)]) := by
  rw [putK_new _ (pk_none h)]
  unfold pkK
  rw [List.map_append]
  rfl
theorem pk_drop (pk : Pk) (n : Int) : dropK (pkK pk) (.inl n) = pkK (pk.filter fun x => !decide (x.1 = n)) := by
  unfold dropK pkK
  rw [List.filter_map]
  congr 1
  refine List.filter_congr fun x _ => ?_
  show decide ((Sum.inl x.1 : Key) ≠ Sum.inl n) = _
  by_cases h : x.1 = n
  · subst h
    simp
  · have e : (Sum.inl x.1 : Key) ≠ Sum.inl n := fun e => h (Sum.inl.inj e)
    simp [h]
theorem PkAt.filter {B : Hp} {pk : Pk} (h : PkAt B pk) (f : Int × Addr × List Int → Bool) : PkAt B (pk.filter f) := fun x hx => h x (List.mem_filter.mp hx).1
theorem PkAt.snoc {B : Hp} {pk : Pk} {n : Int} {q : Addr} {x : List Int} (h : PkAt B pk) (e : B q = some (.lst (x.map V.int))) : PkAt B (pk ++ [(n, q, x)]) := fun y hy => by
  rcases List.mem_append.mp hy with hy | hy
  · exact h y hy
  · rw [List.mem_singleton.mp hy]
    exact e
/-! lists of pairs (count, list), all new -/
inductive IOs (H : Hp) : List Addr → List Addr → KX → Prop
  | nil : IOs H [] [] []
  | cons {t q : Addr} {ts qs : List Addr} {c : Int} {x : List Int} {r : KX} (h : H t = some (.tup [.int c, .ref q])) (h2 : H q = some (.lst (x.map V.int))) (tl : IOs H ts qs r) : IOs H (t :: ts) (q :: qs) ((c, x) :: r)
section
variable {H H' : Hp} {ts qs : List Addr} {k : KX} {t q : Addr} {c : Int} {x : List Int}
theorem IOs.mono (h : IOs H ts qs k) (s : Same H H') : IOs H' ts qs k := by
  induction h with
  | nil => exact .nil
  | cons h h2 _ ih => exact .cons (s _ _ h) (s _ _ h2) ih
theorem IOs.stay (h : IOs H ts qs k) (s : ∀ p, p ∈ ts ∨ p ∈ qs → H' p = H p) : IOs H' ts qs k := by
  induction h with
  | nil => exact .nil
  | cons h h2 _ ih => exact .cons ((s _ (.inl (.head _))).trans h) ((s _ (.inr (.head _))).trans h2) (ih fun p hp => s p (hp.elim (fun z => .inl (.tail _ z)) (fun z => .inr (.tail _ z))))
theorem IOs.snoc (h : IOs H ts qs k) (e : H t = some (.tup [.int c, .ref q])) (e2 : H q = some (.lst (x.map V.int))) : IOs H (ts ++ [t]) (qs ++ [q]) (k ++ [(c, x)]) := by
  induction h with
  | nil => exact .cons e e2 .nil
  | cons h h2 _ ih => exact .cons h h2 ih
theorem IOs.len (h : IOs H ts qs k) : ts.length = k.length ∧ qs.length = k.length := by
  induction h with
  | nil => exact ⟨rfl, rfl⟩
  | cons _ _ _ ih => exact ⟨by rw [List.length_cons, List.length_cons, ih.1], by rw [List.length_cons, List.length_cons, ih.2]⟩
theorem IOs.memt (h : IOs H ts qs k) (ht : t ∈ ts) : ∃ c q, H t = some (.tup [.int c, .ref q]) := by
  induction h with
  | nil => cases ht
  | cons h _ _ ih =>
    rcases List.mem_cons.mp ht with e | z
    · rw [e]
      exact ⟨_, _, h⟩
    · exact ih z
theorem IOs.memq (h : IOs H ts qs k) (hq : q ∈ qs) : ∃ x, x ∈ k.map Prod.snd ∧ H q = some (.lst (x.map V.int)) := by
  induction h with
  | nil => cases hq
  | cons _ h _ ih =>
    rcases List.mem_cons.mp hq with e | z
    · rw [e]
      exact ⟨_, .head _, h⟩
    · obtain ⟨x, hx, h2⟩ := ih z
      exact ⟨x, .tail _ hx, h2⟩
theorem IOs.dps {K : PySem.W.Frag} (h : IOs H ts qs k) : DpAll K H (ts.map V.ref) (k.map fun z => PyData.tuple [.int z.1, .list (z.2.map PyData.int)]) := by
  induction h with
  | nil => exact .nil
  | cons h h2 _ ih => exact .cons (.tup (st_of h) (.cons (.int _) (.cons (dp_ints (sq_of h2)) .nil))) ih
end
def kxD (k : KX) : PyData := .list (k.map fun z => PyData.tuple [.int z.1, .list (z.2.map PyData.int)])
theorem sh_kx {n : Nat} (k : KX) : Sh (n + 3) (kxD k) := sh_lst (sh_map (fun z => sh_tup (sh_cons sh_int (sh_cons (sh_lst (sh_ints z.2)) sh_nil))) k)
theorem eqv_kx_nil (k : KX) : PyData.eqv (kxD k) (.list []) = decide (k = []) := by
  cases k with
  | nil => exact (decide_eq_true rfl).symm
  | cons x r => exact (decide_eq_false fun z => (nomatch z)).symm
structure IO (H1 : Hp) (D : Addr) (ts qs : List Addr) (k : KX) (H' : Hp) : Prop where
  sm : Same H1 H'
  at' : H' D = some (.lst (ts.map V.ref))
  ls : IOs H' ts qs k
  frt : ∀ t ∈ ts, H1 t = none
  frq : ∀ q ∈ qs, H1 q = none ∧ q ≠ D
  nd : qs.Nodup
/-- all of a list of new pairs stays -/
theorem Own.ioR {S B0 B H H' : Hp} {as : List Addr} {l : List (Addr × HO)} {D : Addr} {ts qs : List Addr} {k : KX} (w : Own S B0 as B l H) (hD : H D = none) (c : IO H D ts qs k H') :
    ∃ B', Same B B' ∧ B' D = some (.lst (ts.map V.ref)) ∧ IOs B' ts qs k ∧ Own S B0 as B' l H' := by
  have hn : ∀ p ∈ D :: (ts ++ qs), H p = none ∧ H' p ≠ none := fun p hp => by
    rcases List.mem_cons.mp hp with h | h
    · rw [h]
      exact ⟨hD, by rw [c.at']; exact fun z => (nomatch z)⟩
    · rcases List.mem_append.mp h with h | h
      · obtain ⟨_, _, hx⟩ := c.ls.memt h
        exact ⟨c.frt p h, by rw [hx]; exact fun z => (nomatch z)⟩
      · obtain ⟨_, _, hx⟩ := c.ls.memq h
        exact ⟨(c.frq p h).1, by rw [hx]; exact fun z => (nomatch z)⟩
  obtain ⟨B', s, e, w2⟩ := (w.more c.sm).adopt2 (D :: (ts ++ qs)) fun p hp => by
    refine ⟨(w.frS (hn p hp).1).1, (hn p hp).2, fun h => ?_⟩
    obtain ⟨o, h⟩ := fst_mem h
    exact w.notin (hn p hp).1 h
  exact ⟨B', s, (e D (.head _)).trans c.at', c.ls.stay fun p hp => e p (.tail _ (List.mem_append.mpr hp)), w2⟩
theorem IO.dp {K : PySem.W.Frag} {H1 H' : Hp} {D : Addr} {ts qs : List Addr} {k : KX} (w : IO H1 D ts qs k H') : Dp K H' (.ref D) (kxD k) := .lst (sq_of w.at') w.ls.dps
theorem IO.next {H1 H' H2 H3 : Hp} {D p t : Addr} {ts qs : List Addr} {k : KX} {c : Int} {x : List Int} (w : IO H1 D ts qs k H') (hD : H1 D = none) (np : H' p = none) (s : Same H' H2) (e : H2 p = some (.lst (x.map V.int))) (nt : H2 t = none) (s2 : Same H2 H3) (e2 : H3 t = some (.tup [.int c, .ref p])) :
    IO H1 D (ts ++ [t]) (qs ++ [p]) (k ++ [(c, x)]) (upd H3 D (.lst (ts.map V.ref ++ [.ref t]))) := by
  have hpD : p ≠ D := fun z => by
    rw [z, w.at'] at np
    cases np
  have hD2 := s2 _ _ (s _ _ w.at')
  have htD : t ≠ D := fun z => by
    rw [z, hD2] at e2
    cases e2
  have hin : ∀ q ∈ qs, q ≠ p := fun q hq z => by
    obtain ⟨y, _, hy⟩ := w.ls.memq hq
    rw [z, np] at hy
    cases hy
  refine ⟨same_mut (w.sm.trans (s.trans s2)) hD, ?_, ?_, fun y hy => ?_, fun q hq => ?_, ?_⟩
  · rw [upd_same, List.map_append]
    rfl
  · refine IOs.snoc ((w.ls.mono (s.trans s2)).stay fun y hy => upd_ne ?_) ?_ ?_
    · rcases hy with hy | hy
      · obtain ⟨c', q', h'⟩ := w.ls.memt hy
        exact fun z => by
          rw [z, w.at'] at h'
          cases h'
      · exact (w.frq y hy).2
    · rw [upd_ne htD]
      exact e2
    · rw [upd_ne hpD]
      exact s2 _ _ e
  · rcases List.mem_append.mp hy with h | h
    · exact w.frt y h
    · rw [List.mem_singleton.mp h]
      exact same_none (w.sm.trans s) nt
  · rcases List.mem_append.mp hq with h | h
    · exact w.frq q h
    · rw [List.mem_singleton.mp h]
      exact ⟨same_none w.sm np, hpD⟩
  · refine List.nodup_append.mpr ⟨w.nd, List.nodup_cons.mpr ⟨fun h => (nomatch h), List.nodup_nil⟩, fun q hq r hr => ?_⟩
    rw [List.mem_singleton.mp hr]
    exact hin q hq
/-- the pairs by ascending counts -/
def AscX (k : KX) : Prop := k.Pairwise fun a b => a.1 ≤ b.1
/-- pairs that stand by ascending counts are their own order -/
theorem asc_own {k k2 : KX} (hp : k.Perm k2) (ha : AscX k) (h2 : (k2.map Prod.fst).Pairwise (· < ·)) : k = k2 := by
  have hnd : (k.map Prod.fst).Nodup := (hp.map _).nodup_iff.mpr (h2.imp fun z => Int.ne_of_lt z)
  have ha2 : k.Pairwise fun a b => a.1 < b.1 := by
    have hne := List.pairwise_map.mp hnd
    exact (ha.and hne).imp fun z => by
      have h1 := z.1
      have h2 : ¬ _ = _ := z.2
      omega
  have hb2 : k2.Pairwise fun a b => a.1 < b.1 := List.pairwise_map.mp h2
  refine List.Perm.eq_of_pairwise (le := fun a b => a.1 < b.1) (fun a b _ _ h h' => by omega) ha2 hb2 hp
/-- [(n, a new list) for n in ns] -/
theorem wl_io {K : PySem.W.Frag} {j : Nat} {te : TE} {σ : L2.St} {H1 : Hp} {Q : VK} {a : Addr} (ns : List Int) (P : Int → List Int) (hx : SqL K H1 a (ns.map V.int)) (hn : ns.length ≤ 100000)
    (ht : ∀ n, n ∈ ns → ∀ (H' : Hp) (R : VK), Same H1 H' → (∀ (q : Addr) (H2 : Hp) (t : Addr) (H3 : Hp), H' q = none → Same H' H2 → H2 q = some (.lst ((P n).map V.int)) → H2 t = none → Same H2 H3 → H3 t = some (.tup [.int n, .ref q]) → R (.ref t) H3) → te ((wipe σ [j]).set j (some (.int n))) H' R)
    (hq : ∀ D ts qs H', H1 D = none → IO H1 D ts qs (ns.map fun c => (c, P c)) H' → Q (.ref D) H') : LcWP (Itl K a) (gName j) tYes te [j] σ Q H1 := by
  refine wl_list (ns.map V.int) (by rw [List.length_map]; exact hn) fun D hD => ⟨fun i acc H' => ∃ ts qs, acc = ts.map V.ref ∧ IO H1 D ts qs ((ns.take i).map fun c => (c, P c)) H', ⟨[], [], rfl, same_upd hD, upd_same, .nil, fun t ht => (nomatch ht), fun t ht => (nomatch ht), List.nodup_nil⟩, fun i acc H' _ _ _ p => ?_, fun i acc y H' hi ha h2 p => ?_, fun acc H' ha h2 p => ?_⟩
  · obtain ⟨ts, qs, rfl, p⟩ := p
    exact p.sm.seq hx
  · obtain ⟨ts, qs, rfl, p⟩ := p
    rw [List.getElem?_map] at hi
    obtain ⟨n, hn2, rfl⟩ := Option.map_eq_some_iff.mp hi
    show _ ∧ _
    refine ⟨wipe_set rfl, ?_⟩
    show Br true _ _
    refine br_T (ht n (List.mem_of_getElem? hn2) H' _ p.sm fun q H2 t H3 nq s2 eq nt s3 et => ⟨s3 _ _ (s2 _ _ h2), ts ++ [t], qs ++ [q], by rw [List.map_append]; rfl, ?_⟩)
    rw [take_snoc hn2, List.map_append]
    exact p.next hD nq s2 eq nt s3 et
  · obtain ⟨ts, qs, rfl, p⟩ := p
    rw [List.length_map, List.take_length] at p
    exact hq D ts qs H' hD p
def sp_window (K : PySem.W.Frag) : Sp := fun vs H Q _ => ∃ b : Int, vs = [.int b] ∧ 1 ≤ b ∧ b ≤ 1000 ∧ Q (.int (2 ^ (b - 1).toNat)) H
@[irreducible] def ip_window (K : PySem.W.Frag) : Sp := sp_window K
theorem op_window {K : PySem.W.Frag} : ∀ {vs H Q E}, sp_window K vs H Q E → ip_window K vs H Q E := fun h => by unfold ip_window; exact h
theorem un_window {K : PySem.W.Frag} : ∀ {vs H Q E}, ip_window K vs H Q E → sp_window K vs H Q E := fun h => by unfold ip_window at h; exact h
theorem ok_window (T : Tx P w K mg base) : FnOk P w K mg base CX0 2 T.d0.a_window T.d0.d_window ["bits"] (ip_window K) := by
 have G_window_size := ok_window_size T
 refine T.d0.p_window.F.ok sc_window (fun vs H Q E h => ?_) (fun cdv A outer s H vs Q E hr h => ?_)
 · obtain ⟨b, rfl, h1, h2, q⟩ := un_window h
   rfl
 obtain ⟨b, rfl, h1, h2, q⟩ := un_window h
 refine ⟨_, (pss_one (ps_ret (pe_call G_window_size (hr.mono (by decide)) rfl T.d0.p_window_size.m T.d0.p_window_size.F.kp T.d0.p_window_size.b .nil pass0 (pa_cons (pv 0) pa_nil)))), ?_⟩
 walk_at "R"
 refine op_window_size ⟨_, rfl, h1, h2, ?_⟩
 exact q
def sp_u_in_order (K : PySem.W.Frag) : Sp := fun vs H Q _ => ∃ (d : Addr) (pk : Pk), vs = [.ref d] ∧ H d = some (.dK (pkK pk)) ∧ PkAt H pk ∧ (pk.map Prod.fst).Nodup ∧ pk.length ≤ 1000 ∧
  ∀ k : KX, k.Perm (pkX pk) → AscX k → ∀ (D : Addr) (ts qs : List Addr) (H' : Hp), H D = none → IO H D ts qs k H' → Q (.ref D) H'
theorem sort_kx {pk : Pk} {ys : List Int} (nd : (pk.map Prod.fst).Nodup) (hp : ys.Perm (pk.map Prod.fst)) (ho : ys.Pairwise (· ≤ ·)) : ∃ k : KX, k.Perm (pkX pk) ∧ AscX k ∧ k.map Prod.fst = ys := by
  have e1 : ∀ {pk : Pk} (nd : (pk.map Prod.fst).Nodup), ∀ x ∈ pkX pk, ((pkX pk).lookup x.1).getD [] = x.2 := by
    intro pk
    induction pk with
    | nil => exact fun _ x hx => (nomatch hx)
    | cons y r ih =>
      intro nd x hx
      have nd2 := List.nodup_cons.mp nd
      have hx' : x ∈ (y.1, y.2.2) :: pkX r := hx
      show (((y.1, y.2.2) :: pkX r).lookup x.1).getD [] = _
      rcases List.mem_cons.mp hx' with h | h
      · subst h
        rw [List.lookup_cons, beq_self_eq_true]
        rfl
      · have hne : ¬ x.1 = y.1 := fun e => nd2.1 (by
          rw [← e]
          have hm : x.1 ∈ (pkX r).map Prod.fst := List.mem_map.mpr ⟨x, h, rfl⟩
          rw [pkX_keys] at hm
          exact hm)
        rw [List.lookup_cons, beq_eq_false_iff_ne.mpr hne]
        exact ih nd2.2 x h
  refine ⟨ys.map fun n => (n, ((pkX pk).lookup n).getD []), ?_, ?_, ?_⟩
  · have h2 : ys.Perm ((pkX pk).map Prod.fst) := by rw [pkX_keys]; exact hp
    refine (h2.map _).trans ?_
    rw [List.map_map]
    refine List.Perm.of_eq ?_
    conv => rhs; rw [← List.map_id (pkX pk)]
    exact List.map_congr_left fun x hx => by
      show (x.1, _) = x
      rw [e1 nd x hx]
  · exact List.pairwise_map.mpr ho
  · rw [List.map_map]
    exact List.map_id ys
@[irreducible] def ip_u_in_order (K : PySem.W.Frag) : Sp := sp_u_in_order K
theorem op_u_in_order {K : PySem.W.Frag} : ∀ {vs H Q E}, sp_u_in_order K vs H Q E → ip_u_in_order K vs H Q E := fun h => by unfold ip_u_in_order; exact h
theorem un_u_in_order {K : PySem.W.Frag} : ∀ {vs H Q E}, ip_u_in_order K vs H Q E → sp_u_in_order K vs H Q E := fun h => by unfold ip_u_in_order at h; exact h
theorem ok_u_in_order (T : Tx P w K mg base) : FnOk P w K mg base CX0 1 T.d0.a_u_in_order T.d0.d_u_in_order ["packets"] (ip_u_in_order K) := by
 refine T.d0.p_u_in_order.F.ok sc_u_in_order (fun vs H Q E h => ?_) (fun cdv A outer s H vs Q E hr h => ?_)
 · obtain ⟨d, pk, rfl, hd, hp, nd, hl, q⟩ := un_u_in_order h
   rfl
 obtain ⟨d, pk, rfl, hd, hp, nd, hl, q⟩ := un_u_in_order h
 refine ⟨_, (pss_one (ps_ret (pe_lcW (own := [("count", 1)]) (g := (gName 1)) [1] im_list rfl sc_u_in_order.nd (pi_list (pe_c (pe_callB (call_sortDBM rfl) (by rfl) T.b.n_sorted (by decide +kernel) (pa_cons (pv 0) pa_nil)))) (blkOk_by (own := [("count", 1)]) (N := ["packets", "count"]) (sc := defScope S_u_in_order) (by decide +kernel)) (fun _ _ _ _ _ => (pg_name (i := 1) sc_u_in_order.nd rfl (Or.inl rfl))) (fun _ _ _ _ _ => pts_nil) (fun _ _ _ _ _ => (pe_tupM (pa_cons (pv 1) (pa_cons (pe_callTy (call_listK (K := K) rfl) (by rfl) T.b.n_list (by decide +kernel) (pa_cons (pe_dgetM (hu_of hr) (pv 0) (pv 1)) pa_nil)) pa_nil))))))), ?_⟩
 refine rd_lcW ?_
 walk_at "R"
 refine rd_sortDB hd (pkK_keys pk) (fun ys hpm ho => ?_)
 obtain ⟨k, hk, hk2, rfl⟩ := sort_kx nd hpm ho
 intro p H1 n1 s1 e1
 walk_at "R"
 refine ⟨⟨_, sq_of e1⟩, ?_⟩
 have hkl : k.length = pk.length := by
   have := hk.length_eq
   rw [this]
   exact List.length_map ..
 refine wl_list ((k.map Prod.fst).map V.int) (by rw [List.length_map, List.length_map]; omega) fun D hD => ⟨fun i acc H' => ∃ ts qs, acc = ts.map V.ref ∧ IO H1 D ts qs (k.take i) H', ⟨[], [], rfl, same_upd hD, upd_same, .nil, fun t ht => (nomatch ht), fun t ht => (nomatch ht), List.nodup_nil⟩, fun i acc H' _ _ _ p => ?_, fun i acc y H' hi ha h2 p => ?_, fun acc H' ha h2 p => ?_⟩
 · obtain ⟨ts, qs, rfl, p⟩ := p
   exact sq_of (p.sm _ _ e1)
 · obtain ⟨ts, qs, rfl, p⟩ := p
   rw [List.getElem?_map, List.getElem?_map] at hi
   obtain ⟨n, hn, rfl⟩ := Option.map_eq_some_iff.mp hi
   obtain ⟨⟨n', x⟩, hk3, rfl⟩ := Option.map_eq_some_iff.mp hn
   have hm := hk.mem_iff.mp (List.mem_of_getElem? hk3)
   obtain ⟨z, hz, ez⟩ := List.mem_map.mp hm
   have ez1 : z.1 = n' := congrArg Prod.fst ez
   have ez2 : z.2.2 = x := congrArg Prod.snd ez
   have hz2 := hp z hz
   have hv := pk_val nd hz
   rw [ez1] at hv
   rw [ez2] at hz2
   have s01 := s1.trans p.sm
   show _ ∧ _
   refine ⟨wipe_set rfl, ?_⟩
   walk_at "R"
   refine rd_dget (s01 _ _ hd) hv ?_
   walk_at "R"
   refine rd_list (sq_of (s01 _ _ hz2)) ?_
   intro q' H2 n2 s2 e2
   walk_at "R"
   intro t H3 n3 s3 e3
   refine ⟨s3 _ _ (s2 _ _ h2), ts ++ [t], qs ++ [q'], by rw [List.map_append]; rfl, ?_⟩
   rw [take_snoc hk3]
   exact p.next hD n2 s2 e2 n3 s3 e3
 · obtain ⟨ts, qs, rfl, p⟩ := p
   rw [List.length_map, List.length_map, List.take_length] at p
   exact q k hk hk2 D ts qs H' (same_none s1 hD) ⟨s1.trans p.sm, p.at', p.ls, fun t ht => same_none s1 (p.frt t ht), fun q hq => ⟨same_none s1 (p.frq q hq).1, (p.frq q hq).2⟩, p.nd⟩
end
structure UsS where
  bits : Int
  nx : Int
  pk : Pk
def UsS.fs (s : UsS) (d : Addr) : List (Str × V) := [("_bits", .int s.bits), ("_next", .int s.nx), ("_packets", .ref d)]
abbrev ucells (C p dx d : Addr) (s : UsS) : List (Addr × HO) := [(p, .ins C dx (s.fs d)), (d, .dK (pkK s.pk))]
structure UsOk (s : UsS) : Prop where
  b : 4 ≤ s.bits ∧ s.bits ≤ 7
  asc : (s.pk.map Prod.fst).Pairwise (· < ·)
  lt : ∀ n ∈ s.pk.map Prod.fst, 0 ≤ n ∧ n < s.nx
  n0 : 0 ≤ s.nx
theorem UsOk.nd {s : UsS} (h : UsOk s) : (s.pk.map Prod.fst).Nodup := h.asc.imp fun z => Int.ne_of_lt z
theorem UsOk.fresh {s : UsS} (h : UsOk s) : s.nx ∉ s.pk.map Prod.fst := fun z => by
  have := (h.lt _ z).2
  omega
def UsS.base (s : UsS) : Int := match s.pk with
  | [] => s.nx
  | x :: _ => x.1
theorem UsOk.base_eq {s : UsS} (h : UsOk s) : mnL s.nx (s.pk.map Prod.fst) = s.base := by
  obtain ⟨b, nx, pk⟩ := s
  cases pk with
  | nil => exact mnL_nil
  | cons x r =>
    obtain ⟨h1, h2⟩ := mnL_ok (d := nx) (ns := (x :: r).map Prod.fst) (fun z => (nomatch z))
    have hx := h2 x.1 (.head _)
    have asc := List.pairwise_cons.mp h.asc
    rcases List.mem_cons.mp h1 with e | e
    · exact e
    · have := asc.1 _ e
      show mnL nx ((x :: r).map Prod.fst) = x.1
      have e2 : x.1 < mnL nx ((x :: r).map Prod.fst) := this
      omega
def UsS.put (s : UsS) (q : Addr) (x : List Int) : UsS := ⟨s.bits, s.nx + 1, s.pk ++ [(s.nx, q, x)]⟩
def UsS.keep (s : UsS) (f : Int → Bool) : UsS := ⟨s.bits, s.nx, s.pk.filter fun x => f x.1⟩
theorem keep_keys (pk : Pk) (f : Int → Bool) : (pk.filter fun x => f x.1).map Prod.fst = (pk.map Prod.fst).filter f := by
  rw [List.filter_map]
  rfl
theorem UsOk.put {s : UsS} (h : UsOk s) (q : Addr) (x : List Int) : UsOk (s.put q x) where
  b := h.b
  asc := by
    show ((s.pk ++ [(s.nx, q, x)]).map Prod.fst).Pairwise (· < ·)
    rw [List.map_append]
    refine List.pairwise_append.mpr ⟨h.asc, List.pairwise_cons.mpr ⟨fun y hy => (nomatch hy), .nil⟩, fun a ha b hb => ?_⟩
    rw [List.mem_singleton.mp hb]
    exact (h.lt a ha).2
  lt := fun n hn => by
    have hn2 : n ∈ (s.pk ++ [(s.nx, q, x)]).map Prod.fst := hn
    rw [List.map_append] at hn2
    show 0 ≤ n ∧ n < s.nx + 1
    rcases List.mem_append.mp hn2 with z | z
    · have := h.lt n z
      omega
    · have e : n = s.nx := List.mem_singleton.mp z
      have := h.n0
      omega
  n0 := by
    show 0 ≤ s.nx + 1
    have := h.n0
    omega
theorem UsOk.keep {s : UsS} (h : UsOk s) (f : Int → Bool) : UsOk (s.keep f) where
  b := h.b
  asc := by
    show ((s.pk.filter fun x => f x.1).map Prod.fst).Pairwise (· < ·)
    rw [keep_keys]
    exact h.asc.filter _
  lt := fun n hn => by
    have hn2 : n ∈ (s.pk.filter fun x => f x.1).map Prod.fst := hn
    rw [keep_keys] at hn2
    exact h.lt n (List.mem_filter.mp hn2).1
  n0 := h.n0
theorem kx_len {s : UsS} (ok : UsOk s) : s.pk.length ≤ s.nx.toNat := by
  have h : ∀ (l : List Int) (n : Int), l.Pairwise (· < ·) → (∀ x ∈ l, 0 ≤ x ∧ x < n) → (l.length : Int) ≤ max n 0 := by
    refine snocG ?_ ?_
    · intro n _ _
      show (0 : Int) ≤ _
      omega
    · intro l x ih n hp hx
      have hp2 := List.pairwise_append.mp hp
      have h1 := ih x hp2.1 (fun y hy => ⟨(hx y (List.mem_append_left _ hy)).1, hp2.2.2 y hy x (.head _)⟩)
      have h2 := hx x (List.mem_append_right _ (.head _))
      rw [List.length_append, List.length_singleton]
      omega
  have := h _ s.nx ok.asc ok.lt
  rw [List.length_map] at this
  have := ok.n0
  omega
section
variable {P : Program} {w : World} {K : PySem.W.Frag} {mg : Str → Option Value} {base : Heap}
def sp_UpperSender___init__ (K : PySem.W.Frag) (C : Addr) : Sp := fun vs H Q _ => ∃ (p dx : Addr) (b : Int) (B : Hp), vs = [.ref p, .int b] ∧ Cells H B [(p, .ins C dx [])] ∧ ∀ (d : Addr) (H' : Hp), Own H B [p] B (ucells C p dx d ⟨b, 0, []⟩) H' → Q .non H'
@[irreducible] def ip_UpperSender___init__ (K : PySem.W.Frag) (C : Addr) : Sp := sp_UpperSender___init__ K C
theorem op_UpperSender___init__ {K : PySem.W.Frag} {C : Addr} : ∀ {vs H Q E}, sp_UpperSender___init__ K C vs H Q E → ip_UpperSender___init__ K C vs H Q E := fun h => by unfold ip_UpperSender___init__; exact h
theorem un_UpperSender___init__ {K : PySem.W.Frag} {C : Addr} : ∀ {vs H Q E}, ip_UpperSender___init__ K C vs H Q E → sp_UpperSender___init__ K C vs H Q E := fun h => by unfold ip_UpperSender___init__ at h; exact h
theorem ok_UpperSender___init__ (T : Tx P w K mg base) : FnOk P w K mg base CX0 1 T.d0.a_UpperSender___init__ T.d0.d_UpperSender___init__ ["self", "bits"] (ip_UpperSender___init__ K T.b.C_UpperSender) := by
 refine T.d0.p_UpperSender___init__.F.ok sc_UpperSender___init__ (fun vs H Q E h => ?_) (fun cdv A outer s H vs Q E hr h => ?_)
 · obtain ⟨p, dx, b, B, rfl, c, q⟩ := un_UpperSender___init__ h
   rfl
 obtain ⟨p, dx, b, B, rfl, c, q⟩ := un_UpperSender___init__ h
 refine ⟨_, (pss_cons (ps_fldM (pv 0) (pv 1) T.k0.k_UpperSender.cl T.k0.f_UpperSender__bits) (pss_cons (ps_fldM (pv 0) pe_int T.k0.k_UpperSender.cl T.k0.f_UpperSender__next) (pss_one (ps_fldM (pv 0) pe_dnewK T.k0.k_UpperSender.cl T.k0.f_UpperSender__packets)))), ?_⟩
 have w0 : Own H B [p] B [(p, .ins T.b.C_UpperSender dx [])] H := c.start
 walk_at "R"
 refine rd_putF (by walk_at "hp") (by exact Nat.le_of_ble_eq_true rfl) rfl ?_
 have w1 : Own H B [p] B [(p, .ins T.b.C_UpperSender dx [("_bits", .int b)])] _ := w0.set 0 rfl (.ins T.b.C_UpperSender dx [("_bits", .int b)])
 walk_at "R"
 refine rd_putF (w1.mem (.head _)) (by exact Nat.le_of_ble_eq_true rfl) rfl ?_
 have w2 : Own H B [p] B [(p, .ins T.b.C_UpperSender dx [("_bits", .int b), ("_next", .int 0)])] _ := w1.set 0 rfl (.ins T.b.C_UpperSender dx [("_bits", .int b), ("_next", .int 0)])
 walk_at "R"
 intro d hd
 have w3 : Own H B [p] B [(p, .ins T.b.C_UpperSender dx [("_bits", .int b), ("_next", .int 0)]), (d, .dK [])] _ := (w2.add hd (same_upd (o := .dK []) hd) upd_same).perm (List.perm_append_comm (l₁ := [(p, _)]))
 walk_at "R"
 refine rd_putF (w3.mem (.head _)) (by exact Nat.le_of_ble_eq_true rfl) rfl ?_
 exact q d _ (w3.set 0 rfl (.ins T.b.C_UpperSender dx [("_bits", .int b), ("_next", .int 0), ("_packets", .ref d)]))
def sp_UpperSender_base (K : PySem.W.Frag) (C : Addr) : Sp := fun vs H Q _ => ∃ (p dx d : Addr) (s : UsS), vs = [.ref p] ∧ H p = some (.ins C dx (s.fs d)) ∧ H d = some (.dK (pkK s.pk)) ∧ UsOk s ∧ Q (.int s.base) H
@[irreducible] def ip_UpperSender_base (K : PySem.W.Frag) (C : Addr) : Sp := sp_UpperSender_base K C
theorem op_UpperSender_base {K : PySem.W.Frag} {C : Addr} : ∀ {vs H Q E}, sp_UpperSender_base K C vs H Q E → ip_UpperSender_base K C vs H Q E := fun h => by unfold ip_UpperSender_base; exact h
theorem un_UpperSender_base {K : PySem.W.Frag} {C : Addr} : ∀ {vs H Q E}, ip_UpperSender_base K C vs H Q E → sp_UpperSender_base K C vs H Q E := fun h => by unfold ip_UpperSender_base at h; exact h
theorem ok_UpperSender_base (T : Tx P w K mg base) : FnOk P w K mg base CX0 1 T.d1.a_UpperSender_base T.d1.d_UpperSender_base ["self"] (ip_UpperSender_base K T.b.C_UpperSender) := by
 refine T.d1.p_UpperSender_base.F.ok sc_UpperSender_base (fun vs H Q E h => ?_) (fun cdv A outer s H vs Q E hr h => ?_)
 · obtain ⟨p, dx, d, s', rfl, hp, hd, ok, q⟩ := un_UpperSender_base h
   rfl
 obtain ⟨p, dx, d, s', rfl, hp, hd, ok, q⟩ := un_UpperSender_base h
 refine ⟨_, (pss_one (ps_ret (pe_callBK (cr_minDf rfl) (by rfl) T.b.n_min (by decide +kernel) (pa_cons (pe_fldM (pv 0) T.k0.k_UpperSender.cl T.k0.f_UpperSender__packets) pa_nil) (pk_cons (pe_fldM (pv 0) T.k0.k_UpperSender.cl T.k0.f_UpperSender__next) pk_nil)))), ?_⟩
 walk_at "R"
 refine rd_minD (.inr ⟨_, hd, pkK_keys _⟩) ?_
 rw [ok.base_eq]
 exact q
def sp_UpperSender_may_add (K : PySem.W.Frag) (C : Addr) : Sp := fun vs H Q _ => ∃ (p dx d : Addr) (s : UsS), vs = [.ref p] ∧ H p = some (.ins C dx (s.fs d)) ∧ H d = some (.dK (pkK s.pk)) ∧ UsOk s ∧ Q (.bl (decide (s.nx - s.base < 2 ^ (s.bits - 1).toNat))) H
@[irreducible] def ip_UpperSender_may_add (K : PySem.W.Frag) (C : Addr) : Sp := sp_UpperSender_may_add K C
theorem op_UpperSender_may_add {K : PySem.W.Frag} {C : Addr} : ∀ {vs H Q E}, sp_UpperSender_may_add K C vs H Q E → ip_UpperSender_may_add K C vs H Q E := fun h => by unfold ip_UpperSender_may_add; exact h
theorem un_UpperSender_may_add {K : PySem.W.Frag} {C : Addr} : ∀ {vs H Q E}, ip_UpperSender_may_add K C vs H Q E → sp_UpperSender_may_add K C vs H Q E := fun h => by unfold ip_UpperSender_may_add at h; exact h
theorem ok_UpperSender_may_add (T : Tx P w K mg base) : FnOk P w K mg base CX0 3 T.d1.a_UpperSender_may_add T.d1.d_UpperSender_may_add ["self"] (ip_UpperSender_may_add K T.b.C_UpperSender) := by
 have G_window := ok_window T
 have G_UpperSender_base := ok_UpperSender_base T
 refine T.d1.p_UpperSender_may_add.F.ok sc_UpperSender_may_add (fun vs H Q E h => ?_) (fun cdv A outer s H vs Q E hr h => ?_)
 · obtain ⟨p, dx, d, s', rfl, hp, hd, ok, q⟩ := un_UpperSender_may_add h
   rfl
 obtain ⟨p, dx, d, s', rfl, hp, hd, ok, q⟩ := un_UpperSender_may_add h
 refine ⟨_, (pss_one (ps_ret (pe_cmpR op_ltM (pe_op op_subM (pe_fldM (pv 0) T.k0.k_UpperSender.cl T.k0.f_UpperSender__next) (meth_weak (pe_meth0 (pe_c (pv 0)) T.k0.k_UpperSender.cl T.d1.p_UpperSender_base.me G_UpperSender_base (hr.mono (by decide)) T.d1.p_UpperSender_base.b .nil pass0))) (pe_call G_window (hr.mono (by decide)) rfl T.d0.p_window.m T.d0.p_window.F.kp T.d0.p_window.b .nil pass0 (pa_cons (pe_fldM (pv 0) T.k0.k_UpperSender.cl T.k0.f_UpperSender__bits) pa_nil)) (nomark _)))), ?_⟩
 have hb := ok.b
 walk_at "R"
 refine op_UpperSender_base ⟨p, dx, d, s', rfl, hp, hd, ok, ?_⟩
 walk_at "R"
 refine op_window ⟨_, rfl, by omega, by omega, ?_⟩
 walk_at "R"
 exact q
def sp_UpperSender_add (K : PySem.W.Frag) (C N : Addr) : Sp := fun vs H Q E => ∃ (p dx d : Addr) (s : UsS) (B : Hp) (a : Addr) (xs : List Int), vs = [.ref p, .ref a] ∧ Cells H B (ucells C p dx d s) ∧ UsOk s ∧ SqL K H a (xs.map V.int) ∧ s.pk.length ≤ 100000 ∧
  (s.nx - s.base < 2 ^ (s.bits - 1).toNat → ∀ (B' H' : Hp) (c : Addr), Own H B [p, d] B' (ucells C p dx d (s.put c xs)) H' → B' c = some (.lst (xs.map V.int)) → Q (.int s.nx) H') ∧
  (¬ s.nx - s.base < 2 ^ (s.bits - 1).toNat → E (.ref N) none H)
@[irreducible] def ip_UpperSender_add (K : PySem.W.Frag) (C N : Addr) : Sp := sp_UpperSender_add K C N
theorem op_UpperSender_add {K : PySem.W.Frag} {C N : Addr} : ∀ {vs H Q E}, sp_UpperSender_add K C N vs H Q E → ip_UpperSender_add K C N vs H Q E := fun h => by unfold ip_UpperSender_add; exact h
theorem un_UpperSender_add {K : PySem.W.Frag} {C N : Addr} : ∀ {vs H Q E}, ip_UpperSender_add K C N vs H Q E → sp_UpperSender_add K C N vs H Q E := fun h => by unfold ip_UpperSender_add at h; exact h
theorem ok_UpperSender_add (T : Tx P w K mg base) : FnOk P w K mg base (L2.CX P w) 4 T.d1.a_UpperSender_add T.d1.d_UpperSender_add ["self", "packet"] (ip_UpperSender_add K T.b.C_UpperSender T.b.C_NotValid) := by
 have G_UpperSender_may_add := ok_UpperSender_may_add T
 refine T.d1.p_UpperSender_add.F.okX sc_UpperSender_add (fun vs H Q E h => ?_) (fun cdv A outer s H vs Q E hr h => ?_)
 · obtain ⟨p, dx, d, s', B, a, xs, rfl, c, ok, hA, hn, q, q2⟩ := un_UpperSender_add h
   rfl
 obtain ⟨p, dx, d, s', B, a, xs, rfl, c, ok, hA, hn, q, q2⟩ := un_UpperSender_add h
 refine ⟨_, (pss_cons (ps_ifM (pt_not (pt_val (meth_weak (pe_meth0 (pe_c (pv 0)) T.k0.k_UpperSender.cl T.d1.p_UpperSender_may_add.me G_UpperSender_may_add (hr.mono (by decide)) T.d1.p_UpperSender_may_add.b .nil pass0)))) (pss_one (ps_raise rfl (takes_of rfl rfl rfl rfl) (pmk_plain T.x_NotValid (hr.mono (by decide)) rfl))) pss_nil) (pss_cons (ps_set (i := 2) sc_UpperSender_add.nd rfl (Or.inl rfl) (pe_fldM (pv 0) T.k0.k_UpperSender.cl T.k0.f_UpperSender__next)) (pss_cons (ps_dputM (hu_of hr) (pe_fldM (pv 0) T.k0.k_UpperSender.cl T.k0.f_UpperSender__packets) (pv 2) (pe_callTy call_listM (by rfl) T.b.n_list (by decide +kernel) (pa_cons (pv 1) pa_nil))) (pss_cons (ps_fldaugM (pv 0) pe_int in_add T.k0.k_UpperSender.cl T.k0.f_UpperSender__next) (pss_one (ps_ret (pv 2))))))), ?_⟩
 have w0 : Own H B [p, d] B (ucells T.b.C_UpperSender p dx d s') H := c.start
 have hp := w0.mem (p := p) (.head _)
 have hd := w0.mem (p := d) (.tail _ (.head _))
 walk_at "R"
 refine op_UpperSender_may_add ⟨p, dx, d, s', rfl, hp, hd, ok, ?_⟩
 walk_at "R"
 refine br_nby (fun h => ?_) (fun h => ?_)
 · walk_at "R"
   exact q2 h
 walk_at "R"
 refine rd_list (by walk_at "sq") ?_
 intro c1 H1 n1 s1 e1
 obtain ⟨B1, sB1, hB1, _, w1⟩ := w0.ro n1 s1 e1
 walk_at "R"
 refine rd_dput (w1.mem (p := d) (.tail _ (.head _))) (by unfold pkK; rw [List.length_map]; omega) ?_
 have w2 : Own H B [p, d] B1 [(p, .ins T.b.C_UpperSender dx (s'.fs d)), (d, .dK (pkK (s'.pk ++ [(s'.nx, c1, xs)])))] _ := w1.set 1 rfl (.dK (pkK (s'.pk ++ [(s'.nx, c1, xs)])))
 rw [pk_put ok.fresh (x := xs)]
 have hp2 := w2.mem (p := p) (.head _)
 walk_at "R"
 refine rd_putF hp2 (by exact Nat.le_of_ble_eq_true rfl) rfl ?_
 have w3 : Own H B [p, d] B1 (ucells T.b.C_UpperSender p dx d (s'.put c1 xs)) _ := w2.set 0 rfl (.ins T.b.C_UpperSender dx ((s'.put c1 xs).fs d))
 walk_at "R"
 exact q h B1 _ c1 w3 hB1
def sp_UpperSender_next_count (K : PySem.W.Frag) (C : Addr) : Sp := fun vs H Q _ => ∃ (p dx d : Addr) (s : UsS), vs = [.ref p] ∧ H p = some (.ins C dx (s.fs d)) ∧ Q (.int s.nx) H
@[irreducible] def ip_UpperSender_next_count (K : PySem.W.Frag) (C : Addr) : Sp := sp_UpperSender_next_count K C
theorem op_UpperSender_next_count {K : PySem.W.Frag} {C : Addr} : ∀ {vs H Q E}, sp_UpperSender_next_count K C vs H Q E → ip_UpperSender_next_count K C vs H Q E := fun h => by unfold ip_UpperSender_next_count; exact h
theorem un_UpperSender_next_count {K : PySem.W.Frag} {C : Addr} : ∀ {vs H Q E}, ip_UpperSender_next_count K C vs H Q E → sp_UpperSender_next_count K C vs H Q E := fun h => by unfold ip_UpperSender_next_count at h; exact h
def sp_UpperSender_unconfirmed (K : PySem.W.Frag) (C : Addr) : Sp := fun vs H Q _ => ∃ (p dx d : Addr) (s : UsS), vs = [.ref p] ∧ H p = some (.ins C dx (s.fs d)) ∧ H d = some (.dK (pkK s.pk)) ∧ UsOk s ∧ PkAt H s.pk ∧ s.pk.length ≤ 1000 ∧
  ∀ (D : Addr) (ts qs : List Addr) (H' : Hp), H D = none → IO H D ts qs (pkX s.pk) H' → Q (.ref D) H'
@[irreducible] def ip_UpperSender_unconfirmed (K : PySem.W.Frag) (C : Addr) : Sp := sp_UpperSender_unconfirmed K C
theorem op_UpperSender_unconfirmed {K : PySem.W.Frag} {C : Addr} : ∀ {vs H Q E}, sp_UpperSender_unconfirmed K C vs H Q E → ip_UpperSender_unconfirmed K C vs H Q E := fun h => by unfold ip_UpperSender_unconfirmed; exact h
theorem un_UpperSender_unconfirmed {K : PySem.W.Frag} {C : Addr} : ∀ {vs H Q E}, ip_UpperSender_unconfirmed K C vs H Q E → sp_UpperSender_unconfirmed K C vs H Q E := fun h => by unfold ip_UpperSender_unconfirmed at h; exact h
theorem ok_UpperSender_unconfirmed (T : Tx P w K mg base) : FnOk P w K mg base CX0 2 T.d1.a_UpperSender_unconfirmed T.d1.d_UpperSender_unconfirmed ["self"] (ip_UpperSender_unconfirmed K T.b.C_UpperSender) := by
 have G_u_in_order := ok_u_in_order T
 refine T.d1.p_UpperSender_unconfirmed.F.ok sc_UpperSender_unconfirmed (fun vs H Q E h => ?_) (fun cdv A outer s H vs Q E hr h => ?_)
 · obtain ⟨p, dx, d, s', rfl, hp, hd, ok, hk, hl, q⟩ := un_UpperSender_unconfirmed h
   rfl
 obtain ⟨p, dx, d, s', rfl, hp, hd, ok, hk, hl, q⟩ := un_UpperSender_unconfirmed h
 refine ⟨_, (pss_one (ps_ret (pe_call G_u_in_order (hr.mono (by decide)) rfl T.d0.p_u_in_order.m T.d0.p_u_in_order.F.kp T.d0.p_u_in_order.b .nil pass0 (pa_cons (pe_fldM (pv 0) T.k0.k_UpperSender.cl T.k0.f_UpperSender__packets) pa_nil)))), ?_⟩
 walk_at "R"
 refine op_u_in_order ⟨d, s'.pk, rfl, hd, hk, ok.nd, hl, fun k hp ha D ts qs H' hD w => ?_⟩
 have e := asc_own hp ha (by rw [pkX_keys]; exact ok.asc)
 subst e
 exact q D ts qs H' hD w
def sp_UpperSender_confirm (K : PySem.W.Frag) (C : Addr) : Sp := fun vs H Q _ => ∃ (p dx d : Addr) (s : UsS) (B : Hp) (n : Int), vs = [.ref p, .int n] ∧ Cells H B (ucells C p dx d s) ∧ ∀ H', Own H B [p, d] B (ucells C p dx d (s.keep fun x => !decide (x = n))) H' → Q .non H'
@[irreducible] def ip_UpperSender_confirm (K : PySem.W.Frag) (C : Addr) : Sp := sp_UpperSender_confirm K C
theorem op_UpperSender_confirm {K : PySem.W.Frag} {C : Addr} : ∀ {vs H Q E}, sp_UpperSender_confirm K C vs H Q E → ip_UpperSender_confirm K C vs H Q E := fun h => by unfold ip_UpperSender_confirm; exact h
theorem un_UpperSender_confirm {K : PySem.W.Frag} {C : Addr} : ∀ {vs H Q E}, ip_UpperSender_confirm K C vs H Q E → sp_UpperSender_confirm K C vs H Q E := fun h => by unfold ip_UpperSender_confirm at h; exact h
theorem ok_UpperSender_confirm (T : Tx P w K mg base) : FnOk P w K mg base CX0 1 T.d1.a_UpperSender_confirm T.d1.d_UpperSender_confirm ["self", "count"] (ip_UpperSender_confirm K T.b.C_UpperSender) := by
 refine T.d1.p_UpperSender_confirm.F.ok sc_UpperSender_confirm (fun vs H Q E h => ?_) (fun cdv A outer s H vs Q E hr h => ?_)
 · obtain ⟨p, dx, d, s', B, n, rfl, c, q⟩ := un_UpperSender_confirm h
   rfl
 obtain ⟨p, dx, d, s', B, n, rfl, c, q⟩ := un_UpperSender_confirm h
 refine ⟨_, (pss_one (ps_ifM (pt_cmp (pc_dinM (hu_of hr) (pv 1) (pe_fldM (pv 0) T.k0.k_UpperSender.cl T.k0.f_UpperSender__packets))) (pss_one (ps_ddelM (pe_fldM (pv 0) T.k0.k_UpperSender.cl T.k0.f_UpperSender__packets) (pv 1))) pss_nil)), ?_⟩
 have w0 : Own H B [p, d] B (ucells T.b.C_UpperSender p dx d s') H := c.start
 have hp := w0.mem (p := p) (.head _)
 have hd := w0.mem (p := d) (.tail _ (.head _))
 walk_at "R"
 rw [pk_is]
 refine br_by (fun h => ?_) (fun h => ?_)
 · walk_at "R"
   refine rd_ddel hd (by rw [pk_is]; exact decide_eq_true h) ?_
   rw [pk_drop]
   exact q _ (w0.set 1 rfl (.dK (pkK (s'.keep fun x => !decide (x = n)).pk)))
 · have e : s'.keep (fun x => !decide (x = n)) = s' := by
     obtain ⟨b, nx, pk⟩ := s'
     show UsS.mk b nx _ = _
     congr 1
     refine List.filter_eq_self.mpr fun x hx => ?_
     have : ¬ x.1 = n := fun e => h (e ▸ List.mem_map.mpr ⟨x, hx, rfl⟩)
     simp [this]
   rw [e] at q
   exact q _ w0
def repK (f : Int) (ls : List Int) (n : Int) : Bool := !(decide (n < f) || decide (n ∈ ls))
def sp_UpperSender_take_report (K : PySem.W.Frag) (C : Addr) : Sp := fun vs H Q _ => ∃ (p dx d : Addr) (s : UsS) (B : Hp) (f : Int) (la : Addr) (ls : List Int), vs = [.ref p, .int f, .ref la] ∧ Cells H B (ucells C p dx d s) ∧ UsOk s ∧ SqL K B la (ls.map V.int) ∧ s.pk.length ≤ 100000 ∧ ∀ B' H', Own H B [p, d] B' (ucells C p dx d (s.keep (repK f ls))) H' → Q .non H'
theorem rep_step (pk : Pk) (ks : List Int) (i : Nat) (n : Int) (g : Int → Bool) (hi : ks[i]? = some n) : (pk.filter fun x => !(decide (x.1 ∈ ks.take (i + 1)) && !g x.1)) = if g n = true then (pk.filter fun x => !(decide (x.1 ∈ ks.take i) && !g x.1)) else (pk.filter fun x => !(decide (x.1 ∈ ks.take i) && !g x.1)).filter fun x => !decide (x.1 = n) := by
  rw [take_snoc hi]
  by_cases h : g n = true
  · rw [if_pos h]
    refine List.filter_congr fun x _ => ?_
    by_cases e : x.1 = n
    · rw [e, h]
      simp
    · have e2 : decide (x.1 ∈ ks.take i ++ [n]) = decide (x.1 ∈ ks.take i) := by
        refine decide_eq_decide.mpr ⟨fun z => ?_, fun z => List.mem_append_left _ z⟩
        rcases List.mem_append.mp z with z | z
        · exact z
        · exact absurd (List.mem_singleton.mp z) e
      rw [e2]
  · rw [if_neg h, List.filter_filter]
    refine List.filter_congr fun x _ => ?_
    by_cases e : x.1 = n
    · rw [e]
      have : g n = false := by cases hg : g n with
        | true => exact absurd hg h
        | false => rfl
      rw [this]
      simp
    · have e2 : decide (x.1 ∈ ks.take i ++ [n]) = decide (x.1 ∈ ks.take i) := by
        refine decide_eq_decide.mpr ⟨fun z => ?_, fun z => List.mem_append_left _ z⟩
        rcases List.mem_append.mp z with z | z
        · exact z
        · exact absurd (List.mem_singleton.mp z) e
      rw [e2, decide_eq_false e]
      simp
theorem rep_end (pk : Pk) (g : Int → Bool) : (pk.filter fun x => !(decide (x.1 ∈ (pk.map Prod.fst).take (pk.map Prod.fst).length) && !g x.1)) = pk.filter fun x => g x.1 := by
  refine List.filter_congr fun x hx => ?_
  rw [List.take_length, decide_eq_true (List.mem_map.mpr ⟨x, hx, rfl⟩)]
  cases g x.1 <;> rfl
@[irreducible] def ip_UpperSender_take_report (K : PySem.W.Frag) (C : Addr) : Sp := sp_UpperSender_take_report K C
theorem op_UpperSender_take_report {K : PySem.W.Frag} {C : Addr} : ∀ {vs H Q E}, sp_UpperSender_take_report K C vs H Q E → ip_UpperSender_take_report K C vs H Q E := fun h => by unfold ip_UpperSender_take_report; exact h
theorem un_UpperSender_take_report {K : PySem.W.Frag} {C : Addr} : ∀ {vs H Q E}, ip_UpperSender_take_report K C vs H Q E → sp_UpperSender_take_report K C vs H Q E := fun h => by unfold ip_UpperSender_take_report at h; exact h
theorem ok_UpperSender_take_report (T : Tx P w K mg base) : FnOk P w K mg base CX0 1 T.d1.a_UpperSender_take_report T.d1.d_UpperSender_take_report ["self", "first", "later"] (ip_UpperSender_take_report K T.b.C_UpperSender) := by
 refine T.d1.p_UpperSender_take_report.F.ok sc_UpperSender_take_report (fun vs H Q E h => ?_) (fun cdv A outer s H vs Q E hr h => ?_)
 · obtain ⟨p, dx, d, s', B, f, la, ls, rfl, c, ok, hL, hn, q⟩ := un_UpperSender_take_report h
   rfl
 obtain ⟨p, dx, d, s', B, f, la, ls, rfl, c, ok, hL, hn, q⟩ := un_UpperSender_take_report h
 refine ⟨_, (pss_one (ps_forL PassesOwn.never rfl (pe_callTy (call_listDM rfl) (by rfl) T.b.n_list (by decide +kernel) (pa_cons (pe_fldM (pv 0) T.k0.k_UpperSender.cl T.k0.f_UpperSender__packets) pa_nil)) (pg_name (i := 3) sc_UpperSender_take_report.nd rfl (Or.inl rfl)) (pss_one (ps_ifM (PW.pt (pw_orM (pt_cmpR op_ltM (pv 3) (pv 1) (nomark _)) (pw_or1 (pt_cmpR (op_inDM (hu65 hr)) (pv 3) (pv 2) (by rfl))))) (pss_one (ps_ddelM (pe_fldM (pv 0) T.k0.k_UpperSender.cl T.k0.f_UpperSender__packets) (pv 3))) pss_nil)))), ?_⟩
 have w0 : Own H B [p, d] B (ucells T.b.C_UpperSender p dx d s') H := c.start
 have hp := w0.mem (p := p) (.head _)
 have hd := w0.mem (p := d) (.tail _ (.head _))
 refine rd_forL ?_
 walk_at "R"
 refine rd_listD hd (pkK_keys _) ?_
 intro k H1 n1 s1 e1
 have w1 := w0.more s1
 obtain ⟨B1, sB1, hB1, _, w1⟩ := w0.ro n1 s1 e1
 refine ⟨k, (s'.pk.map Prod.fst).map V.int, fun i σ H' => Stop (Own H B [p, d] B1 (ucells T.b.C_UpperSender p dx d ⟨s'.bits, s'.nx, s'.pk.filter fun x => !(decide (x.1 ∈ (s'.pk.map Prod.fst).take i) && !repK f ls x.1)⟩) H' ∧ ∃ y, σ = [some (.ref p), some (.int f), some (.ref la), y]), rfl, sq_of e1, .a ⟨?_, _, rfl⟩, fun i σ' H' _ w => ?_, fun i y σ' H' hi w => ?_, fun σ' H' w => ?_⟩
 · have e : (s'.pk.filter fun x => !(decide (x.1 ∈ (s'.pk.map Prod.fst).take 0) && !repK f ls x.1)) = s'.pk := List.filter_eq_self.mpr fun x _ => by
     rw [List.take_zero, decide_eq_false (fun z => (nomatch z))]
     rfl
   rw [e]
   exact w1
 · exact sq_of (w.un.1.imm _ _ hB1)
 · obtain ⟨w2, x, rfl⟩ := w.un
   rw [List.getElem?_map] at hi
   obtain ⟨n, hn2, rfl⟩ := Option.map_eq_some_iff.mp hi
   have hst := rep_step s'.pk _ i n (repK f ls) hn2
   have hp2 := w2.mem (p := p) (.head _)
   have hd2 := w2.mem (p := d) (.tail _ (.head _))
   have hL2 : SqL K H' la (ls.map V.int) := (sB1.trans w2.imm).seq hL
   have hnt : n ∉ (s'.pk.map Prod.fst).take i := fun z => by
     obtain ⟨j, hj⟩ := List.getElem?_of_mem z
     rw [List.getElem?_take] at hj
     split at hj
     · have hil := (List.getElem?_eq_some_iff.mp hj).1
       have := (List.getElem?_inj hil ok.nd).mp (hj.trans hn2.symm)
       omega
     · cases hj
   have hin : n ∈ (s'.pk.filter fun x => !(decide (x.1 ∈ (s'.pk.map Prod.fst).take i) && !repK f ls x.1)).map Prod.fst := by
     obtain ⟨z, hz, ez⟩ := List.mem_map.mp (List.mem_of_getElem? hn2)
     refine List.mem_map.mpr ⟨z, List.mem_filter.mpr ⟨hz, ?_⟩, ez⟩
     rw [ez, decide_eq_false hnt]
     rfl
   generalize (s'.pk.filter fun x => !(decide (x.1 ∈ (s'.pk.map Prod.fst).take i) && !repK f ls x.1)) = pki at *
   have w3 : Own H B [p, d] B1 (ucells T.b.C_UpperSender p dx d ⟨s'.bits, s'.nx, pki.filter fun x => !decide (x.1 = n)⟩) _ := w2.set 1 rfl (.dK (pkK (pki.filter fun x => !decide (x.1 = n))))
   walk_at "R"
   refine br_by (fun h => ?_) (fun h => ?_)
   · have hr : ¬ repK f ls n = true := by
       unfold repK
       rw [decide_eq_true h]
       exact fun z => by cases z
     walk_at "R"
     refine rd_ddel hd2 (by rw [pk_is]; exact decide_eq_true hin) ?_
     rw [pk_drop]
     refine .a ⟨?_, _, rfl⟩
     rw [hst, if_neg hr]
     exact w3
   · walk_at "R"
     refine rd_inI hL2 ?_
     walk_at "R"
     refine br_by (fun h2 => ?_) (fun h2 => ?_)
     · have hr : ¬ repK f ls n = true := by
         unfold repK
         rw [decide_eq_true h2, Bool.or_true]
         exact fun z => by cases z
       walk_at "R"
       refine rd_ddel hd2 (by rw [pk_is]; exact decide_eq_true hin) ?_
       rw [pk_drop]
       refine .a ⟨?_, _, rfl⟩
       rw [hst, if_neg hr]
       exact w3
     · have hr : repK f ls n = true := by
         unfold repK
         rw [decide_eq_false h, decide_eq_false h2]
         rfl
       refine .a ⟨?_, _, rfl⟩
       rw [hst, if_pos hr]
       exact w2
 · obtain ⟨w2, x, rfl⟩ := w.un
   have e := rep_end s'.pk (repK f ls)
   rw [List.length_map, e] at w2
   exact q B1 H' w2
theorem keep_keysU (pk : Pk) (f : Int → Bool) : (pk.filter fun x => f x.1).map Prod.fst = (pk.map Prod.fst).filter f := by
  rw [List.filter_map]
  rfl
structure UrS where
  bits : Int
  first : Int
  pk : Pk
def UrS.fs (s : UrS) (d : Addr) : List (Str × V) := [("_bits", .int s.bits), ("_first", .int s.first), ("_ahead", .ref d)]
abbrev rvcells (C p dx d : Addr) (s : UrS) : List (Addr × HO) := [(p, .ins C dx (s.fs d)), (d, .dK (pkK s.pk))]
structure UrOk (s : UrS) : Prop where
  b : 4 ≤ s.bits ∧ s.bits ≤ 7
  nd : (s.pk.map Prod.fst).Nodup
  gt : ∀ n ∈ s.pk.map Prod.fst, s.first < n
  f0 : 0 ≤ s.first
def dlenU (o : Option HO) : Nat := match o with
  | some (.dK k) => k.length
  | _ => 0
/-- the state without its places -/
structure UrQ where
  bits : Int
  first : Int
  K : KX
def UrS.q (s : UrS) : UrQ := ⟨s.bits, s.first, pkX s.pk⟩
/-- all that follows from f on without a gap -/
def clsU : Nat → KX → Int → KX × Int × List (List Int)
  | 0, K, f => (K, f, [])
  | n + 1, K, f => match sget K f with
    | none => (K, f, [])
    | some x => ((clsU n (K.filter fun y => !decide (y.1 = f)) (f + 1)).1, (clsU n (K.filter fun y => !decide (y.1 = f)) (f + 1)).2.1, x :: (clsU n (K.filter fun y => !decide (y.1 = f)) (f + 1)).2.2)
def UrQ.take (s : UrQ) (n : Int) (x : List Int) : UrQ × List (List Int) := if n < s.first ∨ n ∈ s.K.map Prod.fst then (s, []) else (⟨s.bits, (clsU (s.K.length + 1) (s.K ++ [(n, x)]) s.first).2.1, (clsU (s.K.length + 1) (s.K ++ [(n, x)]) s.first).1⟩, (clsU (s.K.length + 1) (s.K ++ [(n, x)]) s.first).2.2)
theorem clsU_no {n : Nat} {K : KX} {f : Int} (h : f ∉ K.map Prod.fst) : clsU n K f = (K, f, []) := by
  cases n with
  | zero => rfl
  | succ n =>
    unfold clsU
    rw [sget_none h]
theorem clsU_yes {n : Nat} {K : KX} {f : Int} {x : List Int} (h : sget K f = some x) : clsU (n + 1) K f = ((clsU n (K.filter fun y => !decide (y.1 = f)) (f + 1)).1, (clsU n (K.filter fun y => !decide (y.1 = f)) (f + 1)).2.1, x :: (clsU n (K.filter fun y => !decide (y.1 = f)) (f + 1)).2.2) := by
  rw [clsU]
  rw [h]
theorem pkX_filt (pk : Pk) (f : Int → Bool) : pkX (pk.filter fun x => f x.1) = (pkX pk).filter fun x => f x.1 := by
  unfold pkX
  rw [List.filter_map]
  rfl
theorem pk_sget {pk : Pk} (nd : (pk.map Prod.fst).Nodup) {x : Int × Addr × List Int} (h : x ∈ pk) : sget (pkX pk) x.1 = some x.2.2 := by
  induction pk with
  | nil => cases h
  | cons y r ih =>
    have nd2 := List.nodup_cons.mp nd
    show sget ((y.1, y.2.2) :: pkX r) x.1 = _
    rw [sget_cons]
    rcases List.mem_cons.mp h with e | z
    · rw [e]
      exact if_pos rfl
    · rw [if_neg (fun e => nd2.1 (by
        have e : y.1 = x.1 := e
        rw [e]
        exact List.mem_map.mpr ⟨x, z, rfl⟩))]
      exact ih nd2.2 z
/-- what clsU leaves: the keys from its end on -/
theorem clsU_ks : ∀ (n : Nat) (K : KX) (f : Int), K.length ≤ n → (∀ x ∈ K, f ≤ x.1) →
    f ≤ (clsU n K f).2.1 ∧ (clsU n K f).1 = K.filter (fun x => decide ((clsU n K f).2.1 ≤ x.1)) ∧ (clsU n K f).2.1 ∉ (clsU n K f).1.map Prod.fst ∧ (∀ m, f ≤ m → m < (clsU n K f).2.1 → m ∈ K.map Prod.fst) := by
  intro n
  induction n with
  | zero =>
    intro K f hl hk
    have e : K = [] := List.length_eq_zero_iff.mp (by omega)
    subst e
    exact ⟨Int.le_refl _, rfl, fun h => (nomatch h), fun m h1 h2 => by
      have h2 : m < f := h2
      omega⟩
  | succ n ih =>
    intro K f hl hk
    by_cases h : f ∈ K.map Prod.fst
    · obtain ⟨x, hx⟩ := sget_some h
      rw [clsU_yes hx]
      have hlt : (K.filter fun y => !decide (y.1 = f)).length < K.length := by
        rw [← List.countP_eq_length_filter]
        refine Nat.lt_of_le_of_ne List.countP_le_length fun e => ?_
        have := List.countP_eq_length.mp e _ (sget_in hx)
        simp at this
      obtain ⟨h1, h2, h3, h4⟩ := ih (K.filter fun y => !decide (y.1 = f)) (f + 1) (by omega) fun y hy => by
        have h5 := List.mem_filter.mp hy
        have h6 := hk y h5.1
        have h7 : ¬ y.1 = f := fun e => by
          rw [decide_eq_true e] at h5
          cases h5.2
        omega
      dsimp only
      refine ⟨by omega, ?_, h3, fun m h5 h6 => ?_⟩
      · rw [h2, List.filter_filter]
        refine List.filter_congr fun y hy => ?_
        by_cases h5 : (clsU n (K.filter fun y => !decide (y.1 = f)) (f + 1)).2.1 ≤ y.1
        · rw [decide_eq_true h5, decide_eq_false (show ¬ y.1 = f by omega)]
          rfl
        · rw [decide_eq_false h5]
          rfl
      · by_cases e : m = f
        · rw [e]
          exact h
        · have h7 := h4 m (by omega) h6
          obtain ⟨y, hy, ey⟩ := List.mem_map.mp h7
          exact List.mem_map.mpr ⟨y, (List.mem_filter.mp hy).1, ey⟩
    · rw [clsU_no h]
      refine ⟨Int.le_refl _, ?_, h, fun m h1 h2 => ?_⟩
      · symm
        exact List.filter_eq_self.mpr fun x hx => decide_eq_true (hk x hx)
      · have h2 : m < f := h2
        omega
theorem clsU_sum : ∀ (n : Nat) (K : KX) (f : Int), (clsU n K f).2.2.length + (clsU n K f).1.length ≤ K.length ∧ (clsU n K f).2.1 = f + ((clsU n K f).2.2.length : Int) := by
  intro n
  induction n with
  | zero => exact fun K f => ⟨Nat.le_of_eq (Nat.zero_add _), (Int.add_zero f).symm⟩
  | succ n ih =>
    intro K f
    by_cases h : f ∈ K.map Prod.fst
    · obtain ⟨x, hx⟩ := sget_some h
      rw [clsU_yes hx]
      obtain ⟨h1, h2⟩ := ih (K.filter fun y => !decide (y.1 = f)) (f + 1)
      have hlt : (K.filter fun y => !decide (y.1 = f)).length < K.length := by
        rw [← List.countP_eq_length_filter]
        refine Nat.lt_of_le_of_ne List.countP_le_length fun e => ?_
        have := List.countP_eq_length.mp e _ (sget_in hx)
        simp at this
      dsimp only
      rw [List.length_cons]
      exact ⟨by omega, by omega⟩
    · rw [clsU_no h]
      exact ⟨Nat.le_of_eq (Nat.zero_add _), (Int.add_zero f).symm⟩
def sp_UpperReceiver___init__ (K : PySem.W.Frag) (C : Addr) : Sp := fun vs H Q _ => ∃ (p dx : Addr) (b : Int) (B : Hp), vs = [.ref p, .int b] ∧ Cells H B [(p, .ins C dx [])] ∧ ∀ (d : Addr) (H' : Hp), Own H B [p] B (rvcells C p dx d ⟨b, 0, []⟩) H' → Q .non H'
@[irreducible] def ip_UpperReceiver___init__ (K : PySem.W.Frag) (C : Addr) : Sp := sp_UpperReceiver___init__ K C
theorem op_UpperReceiver___init__ {K : PySem.W.Frag} {C : Addr} : ∀ {vs H Q E}, sp_UpperReceiver___init__ K C vs H Q E → ip_UpperReceiver___init__ K C vs H Q E := fun h => by unfold ip_UpperReceiver___init__; exact h
theorem un_UpperReceiver___init__ {K : PySem.W.Frag} {C : Addr} : ∀ {vs H Q E}, ip_UpperReceiver___init__ K C vs H Q E → sp_UpperReceiver___init__ K C vs H Q E := fun h => by unfold ip_UpperReceiver___init__ at h; exact h
theorem ok_UpperReceiver___init__ (T : Tx P w K mg base) : FnOk P w K mg base CX0 1 T.d1.a_UpperReceiver___init__ T.d1.d_UpperReceiver___init__ ["self", "bits"] (ip_UpperReceiver___init__ K T.b.C_UpperReceiver) := by
 refine T.d1.p_UpperReceiver___init__.F.ok sc_UpperReceiver___init__ (fun vs H Q E h => ?_) (fun cdv A outer s H vs Q E hr h => ?_)
 · obtain ⟨p, dx, b, B, rfl, c, q⟩ := un_UpperReceiver___init__ h
   rfl
 obtain ⟨p, dx, b, B, rfl, c, q⟩ := un_UpperReceiver___init__ h
 refine ⟨_, (pss_cons (ps_fldM (pv 0) (pv 1) T.k0.k_UpperReceiver.cl T.k0.f_UpperReceiver__bits) (pss_cons (ps_fldM (pv 0) pe_int T.k0.k_UpperReceiver.cl T.k0.f_UpperReceiver__first) (pss_one (ps_fldM (pv 0) pe_dnewK T.k0.k_UpperReceiver.cl T.k0.f_UpperReceiver__ahead)))), ?_⟩
 have w0 : Own H B [p] B [(p, .ins T.b.C_UpperReceiver dx [])] H := c.start
 walk_at "R"
 refine rd_putF (by walk_at "hp") (by exact Nat.le_of_ble_eq_true rfl) rfl ?_
 have w1 : Own H B [p] B [(p, .ins T.b.C_UpperReceiver dx [("_bits", .int b)])] _ := w0.set 0 rfl (.ins T.b.C_UpperReceiver dx [("_bits", .int b)])
 walk_at "R"
 refine rd_putF (w1.mem (.head _)) (by exact Nat.le_of_ble_eq_true rfl) rfl ?_
 have w2 : Own H B [p] B [(p, .ins T.b.C_UpperReceiver dx [("_bits", .int b), ("_first", .int 0)])] _ := w1.set 0 rfl (.ins T.b.C_UpperReceiver dx [("_bits", .int b), ("_first", .int 0)])
 walk_at "R"
 intro d hd
 have w3 : Own H B [p] B [(p, .ins T.b.C_UpperReceiver dx [("_bits", .int b), ("_first", .int 0)]), (d, .dK [])] _ := (w2.add hd (same_upd (o := .dK []) hd) upd_same).perm (List.perm_append_comm (l₁ := [(p, _)]))
 walk_at "R"
 refine rd_putF (w3.mem (.head _)) (by exact Nat.le_of_ble_eq_true rfl) rfl ?_
 exact q d _ (w3.set 0 rfl (.ins T.b.C_UpperReceiver dx [("_bits", .int b), ("_first", .int 0), ("_ahead", .ref d)]))
def sp_UpperReceiver_first_missing (K : PySem.W.Frag) (C : Addr) : Sp := fun vs H Q _ => ∃ (p dx d : Addr) (s : UrS), vs = [.ref p] ∧ H p = some (.ins C dx (s.fs d)) ∧ Q (.int s.first) H
@[irreducible] def ip_UpperReceiver_first_missing (K : PySem.W.Frag) (C : Addr) : Sp := sp_UpperReceiver_first_missing K C
theorem op_UpperReceiver_first_missing {K : PySem.W.Frag} {C : Addr} : ∀ {vs H Q E}, sp_UpperReceiver_first_missing K C vs H Q E → ip_UpperReceiver_first_missing K C vs H Q E := fun h => by unfold ip_UpperReceiver_first_missing; exact h
theorem un_UpperReceiver_first_missing {K : PySem.W.Frag} {C : Addr} : ∀ {vs H Q E}, ip_UpperReceiver_first_missing K C vs H Q E → sp_UpperReceiver_first_missing K C vs H Q E := fun h => by unfold ip_UpperReceiver_first_missing at h; exact h
theorem UrOk.take {s : UrS} (h : UrOk s) {n : Int} {x : List Int} {s' : UrS} (e : s'.q = (s.q.take n x).1) : UrOk s' := by
  have e1 : s'.bits = (s.q.take n x).1.bits := congrArg UrQ.bits e
  have e2 : s'.first = (s.q.take n x).1.first := congrArg UrQ.first e
  have e3 : pkX s'.pk = (s.q.take n x).1.K := congrArg UrQ.K e
  unfold UrQ.take at e1 e2 e3
  by_cases hc : n < s.q.first ∨ n ∈ s.q.K.map Prod.fst
  · rw [if_pos hc] at e1 e2 e3
    have e4 : s'.pk.map Prod.fst = s.pk.map Prod.fst := by
      rw [← pkX_keys, ← pkX_keys, e3]
      rfl
    exact ⟨by rw [e1]; exact h.b, by rw [e4]; exact h.nd, by rw [e4, e2]; exact h.gt, by rw [e2]; exact h.f0⟩
  · rw [if_neg hc] at e1 e2 e3
    dsimp only at e1 e2 e3
    have hnf : ¬ n < s.first := fun z => hc (.inl z)
    have hnk : n ∉ (pkX s.pk).map Prod.fst := fun z => hc (.inr z)
    have hge : ∀ y ∈ pkX s.pk ++ [(n, x)], s.first ≤ y.1 := fun y hy => by
      rcases List.mem_append.mp hy with hy | hy
      · have := h.gt y.1 (by rw [← pkX_keys]; exact List.mem_map.mpr ⟨y, hy, rfl⟩)
        omega
      · rw [List.mem_singleton.mp hy]
        show s.first ≤ n
        omega
    obtain ⟨h1, h2, h3, h4⟩ := clsU_ks ((pkX s.pk).length + 1) (pkX s.pk ++ [(n, x)]) s.first (by rw [List.length_append]; exact Nat.le_refl _) hge
    have e2 : s'.first = (clsU ((pkX s.pk).length + 1) (pkX s.pk ++ [(n, x)]) s.first).2.1 := e2
    have e3 : pkX s'.pk = (clsU ((pkX s.pk).length + 1) (pkX s.pk ++ [(n, x)]) s.first).1 := e3
    have ek : s'.pk.map Prod.fst = (clsU ((pkX s.pk).length + 1) (pkX s.pk ++ [(n, x)]) s.first).1.map Prod.fst := by rw [← pkX_keys, e3]
    generalize (clsU ((pkX s.pk).length + 1) (pkX s.pk ++ [(n, x)]) s.first) = r at *
    refine ⟨by rw [e1]; exact h.b, ?_, fun m hm => ?_, ?_⟩
    · rw [ek, h2]
      refine List.Nodup.sublist ((List.filter_sublist).map _) ?_
      rw [List.map_append]
      refine List.nodup_append.mpr ⟨by rw [pkX_keys]; exact h.nd, List.nodup_cons.mpr ⟨fun z => (nomatch z), List.nodup_nil⟩, fun a ha b hb e => hnk ?_⟩
      have e5 : a = n := e.trans (by rw [List.mem_singleton.mp hb])
      rw [← e5]
      exact ha
    · rw [ek] at hm
      have h5 : r.2.1 ≠ m := fun z => h3 (by rw [z]; exact hm)
      rw [h2] at hm
      obtain ⟨y, hy, ey⟩ := List.mem_map.mp hm
      have := of_decide_eq_true (List.mem_filter.mp hy).2
      rw [e2]
      omega
    · rw [e2]
      have := h.f0
      omega
def sp_UpperReceiver_take_count (K : PySem.W.Frag) (C : Addr) : Sp := fun vs H Q _ => ∃ (p dx d : Addr) (s : UrS) (B : Hp) (n : Int) (a : Addr) (x : List Int), vs = [.ref p, .int n, .ref a] ∧ Cells H B (rvcells C p dx d s) ∧ UrOk s ∧ PkAt B s.pk ∧ SqL K H a (x.map V.int) ∧ s.pk.length ≤ 10000 ∧
  ∀ (B' H' : Hp) (D : Addr) (gs : List Addr) (s' : UrS), Own H B [p, d] B' (rvcells C p dx d s') H' → s'.q = (s.q.take n x).1 → PkAt B' s'.pk → H D = none → B' D = some (.lst (gs.map V.ref)) → LLs B' gs (s.q.take n x).2 → Q (.ref D) H'
@[irreducible] def ip_UpperReceiver_take_count (K : PySem.W.Frag) (C : Addr) : Sp := sp_UpperReceiver_take_count K C
theorem op_UpperReceiver_take_count {K : PySem.W.Frag} {C : Addr} : ∀ {vs H Q E}, sp_UpperReceiver_take_count K C vs H Q E → ip_UpperReceiver_take_count K C vs H Q E := fun h => by unfold ip_UpperReceiver_take_count; exact h
theorem un_UpperReceiver_take_count {K : PySem.W.Frag} {C : Addr} : ∀ {vs H Q E}, ip_UpperReceiver_take_count K C vs H Q E → sp_UpperReceiver_take_count K C vs H Q E := fun h => by unfold ip_UpperReceiver_take_count at h; exact h
theorem ok_UpperReceiver_take_count (T : Tx P w K mg base) : FnOk P w K mg base CX0 1 T.d1.a_UpperReceiver_take_count T.d1.d_UpperReceiver_take_count ["self", "count", "packet"] (ip_UpperReceiver_take_count K T.b.C_UpperReceiver) := by
 refine T.d1.p_UpperReceiver_take_count.F.ok sc_UpperReceiver_take_count (fun vs H Q E h => ?_) (fun cdv A outer s H vs Q E hr h => ?_)
 · obtain ⟨p, dx, d, s', B, n, a, x, rfl, c, ok, hpk, hA, hn, q⟩ := un_UpperReceiver_take_count h
   rfl
 obtain ⟨p, dx, d, s', B, n, a, x, rfl, c, ok, hpk, hA, hn, q⟩ := un_UpperReceiver_take_count h
 refine ⟨_, (pss_cons (ps_ifM (PW.pt (pw_orM (pt_cmpR op_ltM (pv 1) (pe_fldM (pv 0) T.k0.k_UpperReceiver.cl T.k0.f_UpperReceiver__first) (nomark _)) (pw_or1 (pt_cmp (pc_dinM (hu_of hr) (pv 1) (pe_fldM (pv 0) T.k0.k_UpperReceiver.cl T.k0.f_UpperReceiver__ahead)))))) (pss_one (ps_ret (pe_lstM pa_nil))) pss_nil) (pss_cons (ps_dputM (hu_of hr) (pe_fldM (pv 0) T.k0.k_UpperReceiver.cl T.k0.f_UpperReceiver__ahead) (pv 1) (pe_callTy call_listM (by rfl) T.b.n_list (by decide +kernel) (pa_cons (pv 2) pa_nil))) (pss_cons (ps_set (i := 3) sc_UpperReceiver_take_count.nd rfl (Or.inl rfl) (pe_lstM pa_nil)) (pss_cons (ps_whileM PassesOwn.never (pt_cmp (pc_dinM (hu_of hr) (pe_fldM (pv 0) T.k0.k_UpperReceiver.cl T.k0.f_UpperReceiver__first) (pe_fldM (pv 0) T.k0.k_UpperReceiver.cl T.k0.f_UpperReceiver__ahead))) (pss_cons (ps_expr (pe_app (pv 3) (pe_dpopM (pe_fldM (pv 0) T.k0.k_UpperReceiver.cl T.k0.f_UpperReceiver__ahead) (pe_fldM (pv 0) T.k0.k_UpperReceiver.cl T.k0.f_UpperReceiver__first)))) (pss_one (ps_fldaugM (pv 0) pe_int in_add T.k0.k_UpperReceiver.cl T.k0.f_UpperReceiver__first)))) (pss_one (ps_ret (pv 3))))))), ?_⟩
 have w0 : Own H B [p, d] B (rvcells T.b.C_UpperReceiver p dx d s') H := c.start
 have hp := w0.mem (p := p) (.head _)
 have hd := w0.mem (p := d) (.tail _ (.head _))
 have fin : ∀ (D : Addr) (H1 : Hp), (n < s'.first ∨ n ∈ s'.pk.map Prod.fst) → H D = none → Same H H1 → H1 D = some (.lst []) → Q (.ref D) H1 := fun D H1 hc nD s e => by
   obtain ⟨B1, sB1, hB1, _, w1⟩ := w0.ro nD s e
   have ht : s'.q.take n x = (s'.q, []) := if_pos (hc.elim .inl fun z => .inr (by show n ∈ (pkX s'.pk).map Prod.fst; rw [pkX_keys]; exact z))
   rw [ht] at q
   exact q B1 H1 D [] s' w1 rfl (hpk.mono sB1) nD hB1 .nil
 walk_at "R"
 refine br_by (fun h => ?_) (fun h => ?_)
 · walk_at "R"
   intro D H1 nD s e
   exact fin D H1 (.inl h) nD s e
 walk_at "R"
 rw [pk_is]
 refine br_by (fun h2 => ?_) (fun h2 => ?_)
 · walk_at "R"
   intro D H1 nD s e
   exact fin D H1 (.inr h2) nD s e
 have ht : s'.q.take n x = (⟨s'.bits, (clsU ((pkX s'.pk).length + 1) (pkX s'.pk ++ [(n, x)]) s'.first).2.1, (clsU ((pkX s'.pk).length + 1) (pkX s'.pk ++ [(n, x)]) s'.first).1⟩, (clsU ((pkX s'.pk).length + 1) (pkX s'.pk ++ [(n, x)]) s'.first).2.2) := if_neg fun z => z.elim h fun z => h2 (by
   have z : n ∈ (pkX s'.pk).map Prod.fst := z
   rw [pkX_keys] at z
   exact z)
 rw [ht] at q
 clear ht
 dsimp only at q
 walk_at "R"
 refine rd_list hA ?_
 intro c1 H1 n1 s1 e1
 obtain ⟨B1, sB1, hB1, _, w1⟩ := w0.ro n1 s1 e1
 walk_at "R"
 refine rd_dput (w1.mem (p := d) (.tail _ (.head _))) (by unfold pkK; rw [List.length_map]; omega) ?_
 rw [pk_put h2 (x := x)]
 have w2 : Own H B [p, d] B1 (rvcells T.b.C_UpperReceiver p dx d ⟨s'.bits, s'.first, s'.pk ++ [(n, c1, x)]⟩) _ := w1.set 1 rfl (.dK (pkK (s'.pk ++ [(n, c1, x)])))
 generalize hH2 : upd H1 d (.dK (pkK (s'.pk ++ [(n, c1, x)]))) = H2
 have w2 : Own H B [p, d] B1 (rvcells T.b.C_UpperReceiver p dx d ⟨s'.bits, s'.first, s'.pk ++ [(n, c1, x)]⟩) H2 := hH2 ▸ w2
 clear hH2 w1
 have hpk2 : PkAt B1 (s'.pk ++ [(n, c1, x)]) := (hpk.mono sB1).snoc hB1
 have nd2 : ((s'.pk ++ [(n, c1, x)]).map Prod.fst).Nodup := by
   rw [List.map_append]
   refine List.nodup_append.mpr ⟨ok.nd, List.nodup_cons.mpr ⟨fun h => (nomatch h), List.nodup_nil⟩, fun x hx y hy e => ?_⟩
   have e2 : x = n := e.trans (by rw [List.mem_singleton.mp hy])
   exact h2 (by rw [← e2]; exact hx)
 have ex2 : pkX s'.pk ++ [(n, x)] = pkX (s'.pk ++ [(n, c1, x)]) := by
   unfold pkX
   rw [List.map_append]
   rfl
 have el2 : (pkX s'.pk).length + 1 = (s'.pk ++ [(n, c1, x)]).length := by
   unfold pkX
   rw [List.length_append, List.length_map]
   rfl
 have ln2 : (s'.pk ++ [(n, c1, x)]).length ≤ 10001 := by
   rw [List.length_append, List.length_singleton]
   omega
 rw [ex2, el2] at q
 generalize s'.pk ++ [(n, c1, x)] = pk0 at *
 walk_at "R"
 intro D H3 nD s3 eD
 have w3 : Own H B [p, d] B1 (rvcells T.b.C_UpperReceiver p dx d ⟨s'.bits, s'.first, pk0⟩ ++ [(D, .lst (([] : List Addr).map V.ref))]) H3 := w2.addR nD s3 eD
 have hDn := (w2.frS nD).1
 clear w2 s3 eD nD
 walk_at "R"
 refine rd_while (fun σ H' => Stop (∃ (f1 : Int) (pk1 : Pk) (gs : List Addr) (acc : List (List Int)) (k : Nat), Own H B [p, d] B1 (rvcells T.b.C_UpperReceiver p dx d ⟨s'.bits, f1, pk1⟩ ++ [(D, .lst (gs.map V.ref))]) H' ∧ gs.length + pk1.length ≤ 10001 ∧ pk1.length ≤ k ∧ PkAt B1 pk1 ∧ (pk1.map Prod.fst).Nodup ∧ LLs B1 gs acc ∧
   (clsU pk0.length (pkX pk0) s'.first).1 = (clsU k (pkX pk1) f1).1 ∧ (clsU pk0.length (pkX pk0) s'.first).2.1 = (clsU k (pkX pk1) f1).2.1 ∧ (clsU pk0.length (pkX pk0) s'.first).2.2 = acc ++ (clsU k (pkX pk1) f1).2.2 ∧
   σ = [some (.ref p), some (.int n), some (.ref a), some (.ref D)])) (fun _ H' => dlenU (H' d)) (.a ⟨s'.first, pk0, [], [], pk0.length, w3, (by show 0 + _ ≤ _; omega), Nat.le_refl _, hpk2, nd2, .nil, rfl, rfl, rfl, rfl⟩) (fun σ' H' w => ?_)
 obtain ⟨f1, pk1, gs, acc, k, w4, hl1, hk1, hpk1, nd1, hgs, ec1, ec2, ec3, rfl⟩ := w.un
 have hp4 := w4.mem (p := p) (.head _)
 have hd4 := w4.mem (p := d) (.tail _ (.head _))
 have hD4 := w4.mem (p := D) (.tail _ (.tail _ (.head _)))
 walk_at "R"
 rw [pk_is]
 refine br_by (fun h3 => ?_) (fun h3 => ?_)
 · walk_at "R"
   obtain ⟨y, hy, ey⟩ := List.mem_map.mp h3
   have hv := pk_val nd1 hy
   have hsg := pk_sget nd1 hy
   rw [ey] at hv hsg
   refine rd_dpop hd4 hv ?_
   rw [pk_drop]
   have w5 : Own H B [p, d] B1 (rvcells T.b.C_UpperReceiver p dx d ⟨s'.bits, f1, pk1.filter fun x => !decide (x.1 = f1)⟩ ++ [(D, .lst (gs.map V.ref))]) _ := w4.set 1 rfl (.dK (pkK (pk1.filter fun x => !decide (x.1 = f1))))
   have hlt : (pk1.filter fun x => !decide (x.1 = f1)).length < pk1.length := by
     rw [← List.countP_eq_length_filter]
     refine Nat.lt_of_le_of_ne List.countP_le_length fun e => ?_
     have := List.countP_eq_length.mp e y hy
     rw [ey] at this
     simp at this
   refine rd_app (w5.mem (p := D) (.tail _ (.tail _ (.head _)))) (by rw [List.length_map]; omega) ?_
   have w6 : Own H B [p, d] B1 (rvcells T.b.C_UpperReceiver p dx d ⟨s'.bits, f1, pk1.filter fun x => !decide (x.1 = f1)⟩ ++ [(D, .lst ((gs ++ [y.2.1]).map V.ref))]) _ := w5.set 2 rfl (.lst ((gs ++ [y.2.1]).map V.ref))
   rw [snocR]
   have hp6 := w6.mem (p := p) (.head _)
   walk_at "R"
   refine rd_putF hp6 (by exact Nat.le_of_ble_eq_true rfl) rfl ?_
   have w7 : Own H B [p, d] B1 (rvcells T.b.C_UpperReceiver p dx d ⟨s'.bits, f1 + 1, pk1.filter fun x => !decide (x.1 = f1)⟩ ++ [(D, .lst ((gs ++ [y.2.1]).map V.ref))]) _ := w6.set 0 rfl (.ins T.b.C_UpperReceiver dx (UrS.fs ⟨s'.bits, f1 + 1, pk1.filter fun x => !decide (x.1 = f1)⟩ d))
   have hd7 := w7.mem (p := d) (.tail _ (.head _))
   obtain ⟨k', rfl⟩ : ∃ k', k = k' + 1 := ⟨k - 1, by omega⟩
   rw [clsU_yes hsg] at ec1 ec2 ec3
   dsimp only at ec1 ec2 ec3
   have ef : (pkX pk1).filter (fun y => !decide (y.1 = f1)) = pkX (pk1.filter fun x => !decide (x.1 = f1)) := (pkX_filt pk1 (fun z => !decide (z = f1))).symm
   rw [ef] at ec1 ec2 ec3
   refine ⟨.a ⟨f1 + 1, _, gs ++ [y.2.1], acc ++ [y.2.2], k', w7, ?_, by omega, hpk1.filter _, ?_, hgs.snoc (hpk1 y hy), ec1, ec2, ?_, rfl⟩, ?_⟩
   · rw [List.length_append, List.length_singleton]
     omega
   · rw [keep_keysU pk1 (fun k => !decide (k = f1))]
     exact nd1.filter _
   · rw [ec3, List.append_assoc]
     rfl
   · refine Nat.lt_of_le_of_lt (Nat.le_of_eq (congrArg dlenU hd7)) (Nat.lt_of_lt_of_le ?_ (Nat.le_of_eq (congrArg dlenU hd4).symm))
     show (pkK (pk1.filter fun x => !decide (x.1 = f1))).length < (pkK pk1).length
     unfold pkK
     rw [List.length_map, List.length_map]
     exact hlt
 · walk_at "R"
   rw [clsU_no (n := k) (K := pkX pk1) (f := f1) (by rw [pkX_keys]; exact h3)] at ec1 ec2 ec3
   dsimp only at ec1 ec2 ec3
   rw [List.append_nil] at ec3
   obtain ⟨B8, sB8, hB8, w8⟩ := ((w4.perm (List.perm_append_comm (l₁ := [(D, HO.lst (gs.map V.ref))]))).ice (show H D = none from hDn))
   refine q B8 _ D gs ⟨s'.bits, f1, pk1⟩ w8 ?_ (hpk1.mono sB8) hDn hB8 ?_
   · rw [ec1, ec2]
     rfl
   · rw [ec3]
     exact hgs.mono sB8
def sp_UpperReceiver_report (K : PySem.W.Frag) (C : Addr) : Sp := fun vs H Q _ => ∃ (p dx d : Addr) (s : UrS), vs = [.ref p] ∧ H p = some (.ins C dx (s.fs d)) ∧ H d = some (.dK (pkK s.pk)) ∧ s.pk.length ≤ 1000 ∧
  ∀ ys : List Int, ys.Perm (s.pk.map Prod.fst) → ys.Pairwise (· ≤ ·) → ∀ (l t : Addr) (H1 H' : Hp), H l = none → Same H H1 → H1 l = some (.lst (ys.map V.int)) → H1 t = none → Same H1 H' → H' t = some (.tup [.int s.first, .ref l]) → Q (.ref t) H'
@[irreducible] def ip_UpperReceiver_report (K : PySem.W.Frag) (C : Addr) : Sp := sp_UpperReceiver_report K C
theorem op_UpperReceiver_report {K : PySem.W.Frag} {C : Addr} : ∀ {vs H Q E}, sp_UpperReceiver_report K C vs H Q E → ip_UpperReceiver_report K C vs H Q E := fun h => by unfold ip_UpperReceiver_report; exact h
theorem un_UpperReceiver_report {K : PySem.W.Frag} {C : Addr} : ∀ {vs H Q E}, ip_UpperReceiver_report K C vs H Q E → sp_UpperReceiver_report K C vs H Q E := fun h => by unfold ip_UpperReceiver_report at h; exact h
def sp_UpperReceiver_held (K : PySem.W.Frag) (C : Addr) : Sp := fun vs H Q _ => ∃ (p dx d : Addr) (s : UrS), vs = [.ref p] ∧ H p = some (.ins C dx (s.fs d)) ∧ H d = some (.dK (pkK s.pk)) ∧ UrOk s ∧ PkAt H s.pk ∧ s.pk.length ≤ 1000 ∧
  ∀ k : KX, k.Perm (pkX s.pk) → AscX k → ∀ (D : Addr) (ts qs : List Addr) (H' : Hp), H D = none → IO H D ts qs k H' → Q (.ref D) H'
@[irreducible] def ip_UpperReceiver_held (K : PySem.W.Frag) (C : Addr) : Sp := sp_UpperReceiver_held K C
theorem op_UpperReceiver_held {K : PySem.W.Frag} {C : Addr} : ∀ {vs H Q E}, sp_UpperReceiver_held K C vs H Q E → ip_UpperReceiver_held K C vs H Q E := fun h => by unfold ip_UpperReceiver_held; exact h
theorem un_UpperReceiver_held {K : PySem.W.Frag} {C : Addr} : ∀ {vs H Q E}, ip_UpperReceiver_held K C vs H Q E → sp_UpperReceiver_held K C vs H Q E := fun h => by unfold ip_UpperReceiver_held at h; exact h
theorem ok_UpperReceiver_held (T : Tx P w K mg base) : FnOk P w K mg base CX0 2 T.d1.a_UpperReceiver_held T.d1.d_UpperReceiver_held ["self"] (ip_UpperReceiver_held K T.b.C_UpperReceiver) := by
 have G_u_in_order := ok_u_in_order T
 refine T.d1.p_UpperReceiver_held.F.ok sc_UpperReceiver_held (fun vs H Q E h => ?_) (fun cdv A outer s H vs Q E hr h => ?_)
 · obtain ⟨p, dx, d, s', rfl, hp, hd, ok, hk, hn, q⟩ := un_UpperReceiver_held h
   rfl
 obtain ⟨p, dx, d, s', rfl, hp, hd, ok, hk, hn, q⟩ := un_UpperReceiver_held h
 refine ⟨_, (pss_one (ps_ret (pe_call G_u_in_order (hr.mono (by decide)) rfl T.d0.p_u_in_order.m T.d0.p_u_in_order.F.kp T.d0.p_u_in_order.b .nil pass0 (pa_cons (pe_fldM (pv 0) T.k0.k_UpperReceiver.cl T.k0.f_UpperReceiver__ahead) pa_nil)))), ?_⟩
 walk_at "R"
 refine op_u_in_order ⟨d, s'.pk, rfl, hd, hk, ok.nd, hn, fun k hp ha D ts qs H' hD w => ?_⟩
 exact q k hp ha D ts qs H' hD w
/-! ### meters and billers -/
structure MtA where
  p : Addr
  dx : Addr
  sd : Addr
structure MtS where
  E : List PK
  lv : V
  n : Int
  ans : Int
  more : Bool
def MtS.fs (s : MtS) (A : MtA) : List (Str × V) := [("_sums", .ref A.sd), ("_last", s.lv), ("_answered", .int s.ans), ("_has_more", .bl s.more)]
def mcells (C : Addr) (A : MtA) (s : MtS) : List (Addr × HO) := [(A.p, .ins C A.dx (s.fs A)), (A.sd, .dT (s.E.map kvT))]
/-- a letter: its serial, and its rows -/
structure RtAt (H : Hp) (rt : Addr) (R : List PK) : Prop where
  ex : ∃ ts : List Addr, H rt = some (.tup (ts.map V.ref)) ∧ ts.length = R.length ∧ ∀ (i : Nat) (t : Addr) (e : PK), ts[i]? = some t → R[i]? = some e → H t = some (.tup [.int e.1.1, .int e.1.2, .int e.2])
structure LtAt (H : Hp) (l : Addr) (n : Int) (R : List PK) : Prop where
  ex : ∃ rt : Addr, H l = some (.tup [.int n, .ref rt]) ∧ RtAt H rt R
theorem RtAt.mono {H H' : Hp} {rt : Addr} {R : List PK} (h : RtAt H rt R) (s : Same H H') : RtAt H' rt R := by
  obtain ⟨ts, h1, h2, h3⟩ := h.ex
  exact ⟨ts, s _ _ h1, h2, fun i t e e1 e2 => s _ _ (h3 i t e e1 e2)⟩
theorem LtAt.mono {H H' : Hp} {l : Addr} {n : Int} {R : List PK} (h : LtAt H l n R) (s : Same H H') : LtAt H' l n R := by
  obtain ⟨rt, h1, h2⟩ := h.ex
  exact ⟨rt, s _ _ h1, h2.mono s⟩
/-- the rows of the sums, in their order -/
structure RowsOf (E R : List PK) : Prop where
  pm : (R.map Prod.fst).Perm (E.map Prod.fst)
  asc : (R.map Prod.fst).Pairwise leP
  val : ∀ e ∈ R, tget E e.1 = some e.2
def LastAt (H : Hp) (v : V) (n : Int) : Prop := (v = .non ∧ n = 0) ∨ ∃ l rt, v = .ref l ∧ H l = some (.tup [.int n, .ref rt])
theorem LastAt.mono {H H' : Hp} {v : V} {n : Int} (h : LastAt H v n) (s : Same H H') : LastAt H' v n := by
  rcases h with h | ⟨l, rt, e, h⟩
  · exact .inl h
  · exact .inr ⟨l, rt, e, s _ _ h⟩
def sp_Meter___init__ (K : PySem.W.Frag) (C : Addr) : Sp := fun vs H Q _ => ∃ (p dx : Addr) (B : Hp), vs = [.ref p] ∧ Cells H B [(p, .ins C dx [])] ∧ ∀ (A : MtA) (H' : Hp), A.p = p → Own H B [p] B (mcells C A ⟨[], .non, 0, 0, false⟩) H' → Q .non H'
@[irreducible] def ip_Meter___init__ (K : PySem.W.Frag) (C : Addr) : Sp := sp_Meter___init__ K C
theorem op_Meter___init__ {K : PySem.W.Frag} {C : Addr} : ∀ {vs H Q E}, sp_Meter___init__ K C vs H Q E → ip_Meter___init__ K C vs H Q E := fun h => by unfold ip_Meter___init__; exact h
theorem un_Meter___init__ {K : PySem.W.Frag} {C : Addr} : ∀ {vs H Q E}, ip_Meter___init__ K C vs H Q E → sp_Meter___init__ K C vs H Q E := fun h => by unfold ip_Meter___init__ at h; exact h
theorem ok_Meter___init__ (T : Tx P w K mg base) : FnOk P w K mg base CX0 1 T.d0.a_Meter___init__ T.d0.d_Meter___init__ ["self"] (ip_Meter___init__ K T.b.C_Meter) := by
 refine T.d0.p_Meter___init__.F.ok sc_Meter___init__ (fun vs H Q E h => ?_) (fun cdv A outer s H vs Q E hr h => ?_)
 · obtain ⟨p, dx, B, rfl, c, q⟩ := un_Meter___init__ h
   rfl
 obtain ⟨p, dx, B, rfl, c, q⟩ := un_Meter___init__ h
 refine ⟨_, (pss_cons (ps_fldM (pv 0) pe_dnewT T.k0.k_Meter.cl T.k0.f_Meter__sums) (pss_cons (ps_fldM (pv 0) pe_non T.k0.k_Meter.cl T.k0.f_Meter__last) (pss_cons (ps_fldM (pv 0) pe_int T.k0.k_Meter.cl T.k0.f_Meter__answered) (pss_one (ps_fldM (pv 0) pe_bl T.k0.k_Meter.cl T.k0.f_Meter__has_more))))), ?_⟩
 have w0 : Own H B [p] B [(p, .ins T.b.C_Meter dx [])] H := c.start
 walk_at "R"
 intro d1 hd1
 have w1 := w0.add hd1 (same_upd (o := .dT []) hd1) upd_same
 walk_at "R"
 refine rd_putF (by walk_at "hp") (by exact Nat.le_of_ble_eq_true rfl) rfl ?_
 have w2 : Own H B [p] B [(d1, .dT []), (p, .ins T.b.C_Meter dx [("_sums", .ref d1)])] _ := w1.set 1 rfl (.ins T.b.C_Meter dx [("_sums", .ref d1)])
 walk_at "R"
 refine rd_putF (by walk_at "hp") (by exact Nat.le_of_ble_eq_true rfl) rfl ?_
 have w3 : Own H B [p] B [(d1, .dT []), (p, .ins T.b.C_Meter dx [("_sums", .ref d1), ("_last", .non)])] _ := w2.set 1 rfl (.ins T.b.C_Meter dx [("_sums", .ref d1), ("_last", .non)])
 walk_at "R"
 refine rd_putF (by walk_at "hp") (by exact Nat.le_of_ble_eq_true rfl) rfl ?_
 have w4 : Own H B [p] B [(d1, .dT []), (p, .ins T.b.C_Meter dx [("_sums", .ref d1), ("_last", .non), ("_answered", .int 0)])] _ := w3.set 1 rfl (.ins T.b.C_Meter dx [("_sums", .ref d1), ("_last", .non), ("_answered", .int 0)])
 walk_at "R"
 refine rd_putF (by walk_at "hp") (by exact Nat.le_of_ble_eq_true rfl) rfl ?_
 have w5 : Own H B [p] B [(d1, .dT []), (p, .ins T.b.C_Meter dx [("_sums", .ref d1), ("_last", .non), ("_answered", .int 0), ("_has_more", .bl false)])] _ := w4.set 1 rfl (.ins T.b.C_Meter dx [("_sums", .ref d1), ("_last", .non), ("_answered", .int 0), ("_has_more", .bl false)])
 exact q ⟨p, dx, d1⟩ _ rfl (w5.perm (List.Perm.swap _ _ _))
def sp_Meter_metered (K : PySem.W.Frag) (C : Addr) : Sp := fun vs H Q _ => ∃ (A : MtA) (s : MtS) (b w : Int), vs = [.ref A.p, .int b, .int w] ∧ H A.p = some (.ins C A.dx (s.fs A)) ∧ H A.sd = some (.dT (s.E.map kvT)) ∧ ∀ H', Same H H' → Q (.int ((tget s.E (b, w)).getD 0)) H'
@[irreducible] def ip_Meter_metered (K : PySem.W.Frag) (C : Addr) : Sp := sp_Meter_metered K C
theorem op_Meter_metered {K : PySem.W.Frag} {C : Addr} : ∀ {vs H Q E}, sp_Meter_metered K C vs H Q E → ip_Meter_metered K C vs H Q E := fun h => by unfold ip_Meter_metered; exact h
theorem un_Meter_metered {K : PySem.W.Frag} {C : Addr} : ∀ {vs H Q E}, ip_Meter_metered K C vs H Q E → sp_Meter_metered K C vs H Q E := fun h => by unfold ip_Meter_metered at h; exact h
theorem ok_Meter_metered (T : Tx P w K mg base) : FnOk P w K mg base CX0 1 T.d0.a_Meter_metered T.d0.d_Meter_metered ["self", "bearer", "way"] (ip_Meter_metered K T.b.C_Meter) := by
 refine T.d0.p_Meter_metered.F.ok sc_Meter_metered (fun vs H Q E h => ?_) (fun cdv A outer s H vs Q E hr h => ?_)
 · obtain ⟨A, s', b, w, rfl, hA, hD, q⟩ := un_Meter_metered h
   rfl
 obtain ⟨A, s', b, w, rfl, hA, hD, q⟩ := un_Meter_metered h
 refine ⟨_, (pss_one (ps_ret (pe_dget2TM (hu_of hr) (pe_fldM (pv 0) T.k0.k_Meter.cl T.k0.f_Meter__sums) (pe_tupM (pa_cons (pv 1) (pa_cons (pv 2) pa_nil))) pe_int))), ?_⟩
 walk_at "R"
 refine rd_isDT (.inl hD) ?_
 walk_at "R"
 intro t H1 n1 s1 e1
 refine rd_dget2T (p := (b, w)) (.inl (s1 _ _ hD)) e1 ?_
 exact q _ s1
def sp_Meter__last_serial (K : PySem.W.Frag) (C : Addr) : Sp := fun vs H Q _ => ∃ (A : MtA) (s : MtS), vs = [.ref A.p] ∧ H A.p = some (.ins C A.dx (s.fs A)) ∧ LastAt H s.lv s.n ∧ Q (.int s.n) H
@[irreducible] def ip_Meter__last_serial (K : PySem.W.Frag) (C : Addr) : Sp := sp_Meter__last_serial K C
theorem op_Meter__last_serial {K : PySem.W.Frag} {C : Addr} : ∀ {vs H Q E}, sp_Meter__last_serial K C vs H Q E → ip_Meter__last_serial K C vs H Q E := fun h => by unfold ip_Meter__last_serial; exact h
theorem un_Meter__last_serial {K : PySem.W.Frag} {C : Addr} : ∀ {vs H Q E}, ip_Meter__last_serial K C vs H Q E → sp_Meter__last_serial K C vs H Q E := fun h => by unfold ip_Meter__last_serial at h; exact h
theorem ok_Meter__last_serial (T : Tx P w K mg base) : FnOk P w K mg base CX0 1 T.d0.a_Meter__last_serial T.d0.d_Meter__last_serial ["self"] (ip_Meter__last_serial K T.b.C_Meter) := by
 refine T.d0.p_Meter__last_serial.F.ok sc_Meter__last_serial (fun vs H Q E h => ?_) (fun cdv A outer s H vs Q E hr h => ?_)
 · obtain ⟨A, s', rfl, hA, hL, q⟩ := un_Meter__last_serial h
   rfl
 obtain ⟨A, s', rfl, hA, hL, q⟩ := un_Meter__last_serial h
 refine ⟨_, (pss_one (ps_ret (pe_ifM (pt_cmpR op_isN (pe_fldM (pv 0) T.k0.k_Meter.cl T.k0.f_Meter__last) pe_non (nomark _)) pe_int (pe_ix ix_tupM (pe_fldM (pv 0) T.k0.k_Meter.cl T.k0.f_Meter__last) pe_int (fun _ _ => rfl))))), ?_⟩
 walk_at "R"
 rcases hL with ⟨e, en⟩ | ⟨l, rt, e, hl⟩
 · rw [e]
   walk_at "R"
   rw [← en]
   exact q
 · rw [e]
   walk_at "R"
   rw [e]
   refine rd_ixT (st_of hl) rfl ?_
   exact q
def mas (A : MtA) : List Addr := [A.p, A.sd]
def MtS.ad (s : MtS) (b w n : Int) : MtS := if 0 < n then { s with E := tput s.E (b, w) ((tget s.E (b, w)).getD 0 + n), more := true } else s
def sp_Meter_add (K : PySem.W.Frag) (C : Addr) : Sp := fun vs H Q _ => ∃ (A : MtA) (s : MtS) (b w size : Int) (B : Hp), vs = [.ref A.p, .int b, .int w, .int size] ∧ Cells H B (mcells C A s) ∧ 0 ≤ size ∧ s.E.length < 900000 ∧ ∀ B' H', Own H B (mas A) B' (mcells C A (s.ad b w size)) H' → Q .non H'
@[irreducible] def ip_Meter_add (K : PySem.W.Frag) (C : Addr) : Sp := sp_Meter_add K C
theorem op_Meter_add {K : PySem.W.Frag} {C : Addr} : ∀ {vs H Q E}, sp_Meter_add K C vs H Q E → ip_Meter_add K C vs H Q E := fun h => by unfold ip_Meter_add; exact h
theorem un_Meter_add {K : PySem.W.Frag} {C : Addr} : ∀ {vs H Q E}, ip_Meter_add K C vs H Q E → sp_Meter_add K C vs H Q E := fun h => by unfold ip_Meter_add at h; exact h
theorem ok_Meter_add (T : Tx P w K mg base) : FnOk P w K mg base CX0 2 T.d0.a_Meter_add T.d0.d_Meter_add ["self", "bearer", "way", "size"] (ip_Meter_add K T.b.C_Meter) := by
 have G_Meter_metered := ok_Meter_metered T
 refine T.d0.p_Meter_add.F.ok sc_Meter_add (fun vs H Q E h => ?_) (fun cdv A outer s H vs Q E hr h => ?_)
 · obtain ⟨A, s', b, w, size, B, rfl, c, hz, hl, q⟩ := un_Meter_add h
   rfl
 obtain ⟨A, s', b, w, size, B, rfl, c, hz, hl, q⟩ := un_Meter_add h
 refine ⟨_, (pss_one (ps_ifM (pt_cmpR op_gtM (pv 3) pe_int (nomark _)) (pss_cons (ps_dputTM (hu_of hr) (pe_fldM (pv 0) T.k0.k_Meter.cl T.k0.f_Meter__sums) (pe_tupM (pa_cons (pv 1) (pa_cons (pv 2) pa_nil))) (pe_op op_addM (meth_weak (pe_meth (pe_c (pv 0)) T.k0.k_Meter.cl T.d0.p_Meter_metered.me G_Meter_metered (hr.mono (by decide)) T.d0.p_Meter_metered.b .nil pass0 (pa_cons (pv 1) (pa_cons (pv 2) pa_nil)))) (pv 3))) (pss_one (ps_fldM (pv 0) pe_bl T.k0.k_Meter.cl T.k0.f_Meter__has_more))) pss_nil)), ?_⟩
 have w0 : Own H B (mas A) B (mcells T.b.C_Meter A s') H := c.start
 have hA := w0.mem (.head _)
 have hD := w0.mem (.tail _ (.head _))
 unfold MtS.ad at q
 walk_at "R"
 refine br_by (fun hz => ?_) (fun hz => ?_)
 · rw [if_pos hz] at q
   walk_at "R"
   refine op_Meter_metered ⟨A, s', b, w, rfl, hA, hD, fun H1 s1 => ?_⟩
   have w1 := w0.more s1
   have hA1 := w1.mem (.head _)
   have hD1 := w1.mem (.tail _ (.head _))
   walk_at "R"
   intro t H2 n2 s2 e2
   have w2 := w1.more s2
   refine rd_dputT (p := (b, w)) (w2.mem (.tail _ (.head _))) e2 (by omega) ?_
   have w3 := w2.set 1 rfl (.dT ((tput s'.E (b, w) ((tget s'.E (b, w)).getD 0 + size)).map kvT))
   have hA3 := w3.mem (.head _)
   walk_at "R"
   refine rd_putF (by walk_at "hp") (by exact Nat.le_of_ble_eq_true rfl) rfl ?_
   exact q B _ (w3.set 0 rfl (.ins T.b.C_Meter A.dx (({ s' with E := tput s'.E (b, w) ((tget s'.E (b, w)).getD 0 + size), more := true } : MtS).fs A)))
 · rw [if_neg hz] at q
   walk_at "R"
   exact q B H w0
def MtS.adL (s : MtS) (b w : Int) (xs : List (List Int)) : MtS := xs.foldl (fun m x => m.ad b w x.length) s
theorem MtS.adL_snoc (s : MtS) (b w : Int) (xs : List (List Int)) (x : List Int) : s.adL b w (xs ++ [x]) = (s.adL b w xs).ad b w x.length := by
  unfold MtS.adL
  rw [List.foldl_append]
  rfl
/-- the sums are of few bearers and ways -/
structure MtOk (s : MtS) : Prop where
  nd : (s.E.map Prod.fst).Nodup
  kb : ∀ p ∈ s.E.map Prod.fst, (0 ≤ p.1 ∧ p.1 < 10) ∧ (0 ≤ p.2 ∧ p.2 < 2)
theorem tput_keys (E : List PK) (p : Int × Int) (v : Int) : (p ∈ E.map Prod.fst ∧ (tput E p v).map Prod.fst = E.map Prod.fst) ∨ (p ∉ E.map Prod.fst ∧ (tput E p v).map Prod.fst = E.map Prod.fst ++ [p]) := by
  unfold tput
  by_cases h : p ∈ E.map Prod.fst
  · refine .inl ⟨h, ?_⟩
    rw [if_pos h, List.map_map]
    refine List.map_congr_left fun y _ => ?_
    show (if y.1 = p then (y.1, v) else y).1 = y.1
    split <;> rfl
  · refine .inr ⟨h, ?_⟩
    rw [if_neg h, List.map_append]
    rfl
theorem MtOk.ad {s : MtS} (h : MtOk s) {b w n : Int} (hb : 0 ≤ b ∧ b < 10) (hw : 0 ≤ w ∧ w < 2) : MtOk (s.ad b w n) := by
  unfold MtS.ad
  split
  · rcases tput_keys s.E (b, w) ((tget s.E (b, w)).getD 0 + n) with ⟨h1, h2⟩ | ⟨h1, h2⟩
    · exact ⟨by show ((tput s.E _ _).map Prod.fst).Nodup; rw [h2]; exact h.nd, fun p hp => by
        have hp : p ∈ (tput s.E (b, w) ((tget s.E (b, w)).getD 0 + n)).map Prod.fst := hp
        rw [h2] at hp
        exact h.kb p hp⟩
    · refine ⟨?_, fun p hp => ?_⟩
      · show ((tput s.E _ _).map Prod.fst).Nodup
        rw [h2]
        refine List.nodup_append.mpr ⟨h.nd, List.nodup_cons.mpr ⟨fun z => (nomatch z), List.nodup_nil⟩, fun x hx y hy e => h1 ?_⟩
        rw [List.mem_singleton.mp hy] at e
        rw [← e]
        exact hx
      · have hp : p ∈ (tput s.E (b, w) ((tget s.E (b, w)).getD 0 + n)).map Prod.fst := hp
        rw [h2] at hp
        rcases List.mem_append.mp hp with hp | hp
        · exact h.kb p hp
        · rw [List.mem_singleton.mp hp]
          exact ⟨hb, hw⟩
  · exact h
theorem MtOk.adL {b w : Int} (hb : 0 ≤ b ∧ b < 10) (hw : 0 ≤ w ∧ w < 2) : ∀ (xs : List (List Int)) {s : MtS}, MtOk s → MtOk (s.adL b w xs)
  | [], _, h => h
  | x :: r, _, h => MtOk.adL hb hw r (h.ad (n := x.length) hb hw)
theorem nodup_code {α : Type} (g : α → Nat) (n : Nat) : ∀ (l : List α), l.Nodup → (∀ a ∈ l, g a < n) → (∀ a ∈ l, ∀ b ∈ l, g a = g b → a = b) → l.length ≤ n := by
  intro l nd hb hi
  have : (l.map g).length ≤ n := nodup_lt n (l.map g) (by
    refine List.pairwise_map.mpr ?_
    refine (List.Pairwise.and_mem.mp nd).imp fun {a b} h e => h.2.2 (hi a h.1 b h.2.1 e)) fun a ha => by
      obtain ⟨x, hx, rfl⟩ := List.mem_map.mp ha
      exact hb x hx
  rw [List.length_map] at this
  exact this
theorem tget_put (E : List PK) (p q : Int × Int) (v : Int) : tget (tput E p v) q = if q = p then some v else tget E q := by
  have h : valV ((tput E p v).map kvT) (kT q) = valV (putK (E.map kvT) (kT p) (.int v)) (kT q) := by rw [putK_T]
  rw [valV_T, valV_put, valV_T] at h
  by_cases e : q = p
  · subst e
    rw [if_pos rfl] at h ⊢
    cases hh : tget (tput E q v) q with
    | none => rw [hh] at h; cases h
    | some u =>
      rw [hh] at h
      injection h with h
      injection h with h
      rw [h]
  · rw [if_neg (fun z => e (kT_inj.mp z))] at h
    rw [if_neg e]
    cases h1 : tget (tput E p v) q with
    | none =>
      rw [h1] at h
      cases h2 : tget E q with
      | none => rfl
      | some u => rw [h2] at h; cases h
    | some u =>
      rw [h1] at h
      cases h2 : tget E q with
      | none => rw [h2] at h; cases h
      | some u2 =>
        rw [h2] at h
        injection h with h
        injection h with h
        rw [h]
theorem MtS.ad_val {s : MtS} {b w n : Int} (hn : 0 ≤ n) (p : Int × Int) : (tget (s.ad b w n).E p).getD 0 = (tget s.E p).getD 0 + if p = (b, w) then n else 0 := by
  unfold MtS.ad
  split
  · show (tget (tput s.E (b, w) _) p).getD 0 = _
    rw [tget_put]
    by_cases h : p = (b, w)
    · rw [if_pos h, if_pos h, h]
      rfl
    · rw [if_neg h, if_neg h, Int.add_zero]
  · have : n = 0 := by omega
    subst this
    split <;> exact (Int.add_zero _).symm
def sumL (xs : List (List Int)) : Int := (xs.map fun x => (x.length : Int)).sum
theorem MtS.adL_val {b w : Int} (p : Int × Int) : ∀ (xs : List (List Int)) (s : MtS), (tget (s.adL b w xs).E p).getD 0 = (tget s.E p).getD 0 + if p = (b, w) then sumL xs else 0
  | [], s => by
    show (tget s.E p).getD 0 = _ + if _ then 0 else 0
    split <;> exact (Int.add_zero _).symm
  | x :: r, s => by
    show (tget ((s.ad b w x.length).adL b w r).E p).getD 0 = _
    rw [MtS.adL_val p r, MtS.ad_val (by omega)]
    have e : sumL (x :: r) = (x.length : Int) + sumL r := by
      unfold sumL
      rw [List.map_cons, List.sum_cons]
    rw [e]
    split <;> omega
theorem MtOk.len {s : MtS} (h : MtOk s) : s.E.length ≤ 20 := by
  have := nodup_code (fun p : Int × Int => (p.1 * 2 + p.2).toNat) 20 _ h.nd (fun p hp => by
    have := h.kb p hp
    show (p.1 * 2 + p.2).toNat < 20
    omega) (fun p hp q hq e => by
    have h1 := h.kb p hp
    have h2 := h.kb q hq
    have e : (p.1 * 2 + p.2).toNat = (q.1 * 2 + q.2).toNat := e
    exact Prod.ext (by omega) (by omega))
  rw [List.length_map] at this
  exact this
def sp_Meter_write (K : PySem.W.Frag) (C : Addr) : Sp := fun vs H Q _ => ∃ (A : MtA) (s : MtS) (B : Hp), vs = [.ref A.p] ∧ Cells H B (mcells C A s) ∧ LastAt B s.lv s.n ∧ (s.E.map Prod.fst).Nodup ∧ s.E.length ≤ 900 ∧
  ∀ (B' H' : Hp) (l : Addr) (R : List PK), Own H B (mas A) B' (mcells C A { s with lv := .ref l, n := s.n + 1, more := false }) H' → LtAt B' l (s.n + 1) R → RowsOf s.E R → Q (.ref l) H'
theorem tget_mem {E : List PK} {p : Int × Int} (h : p ∈ E.map Prod.fst) : ∃ v, tget E p = some v := by
  unfold tget
  cases e : E.find? fun e => decide (e.1 = p) with
  | some x => exact ⟨_, rfl⟩
  | none =>
    obtain ⟨x, hx, ex⟩ := List.mem_map.mp h
    exact absurd (decide_eq_true ex) (List.find?_eq_none.mp e x hx)
def rowsE (E : List PK) (ps : List (Int × Int)) : List PK := ps.map fun p => (p, (tget E p).getD 0)
theorem rowsE_of {E : List PK} {ps : List (Int × Int)} (pm : ps.Perm (E.map Prod.fst)) (asc : ps.Pairwise leP) : RowsOf E (rowsE E ps) := by
  have e : (rowsE E ps).map Prod.fst = ps := by
    unfold rowsE
    rw [List.map_map]
    exact List.map_id _
  refine ⟨by rw [e]; exact pm, by rw [e]; exact asc, fun x hx => ?_⟩
  obtain ⟨p, hp, rfl⟩ := List.mem_map.mp hx
  obtain ⟨v, hv⟩ := tget_mem (pm.mem_iff.mp hp)
  rw [hv]
  rfl
@[irreducible] def ip_Meter_write (K : PySem.W.Frag) (C : Addr) : Sp := sp_Meter_write K C
theorem op_Meter_write {K : PySem.W.Frag} {C : Addr} : ∀ {vs H Q E}, sp_Meter_write K C vs H Q E → ip_Meter_write K C vs H Q E := fun h => by unfold ip_Meter_write; exact h
theorem un_Meter_write {K : PySem.W.Frag} {C : Addr} : ∀ {vs H Q E}, ip_Meter_write K C vs H Q E → sp_Meter_write K C vs H Q E := fun h => by unfold ip_Meter_write at h; exact h
theorem ok_Meter_write (T : Tx P w K mg base) : FnOk P w K mg base CX0 2 T.d0.a_Meter_write T.d0.d_Meter_write ["self"] (ip_Meter_write K T.b.C_Meter) := by
 have G_Meter__last_serial := ok_Meter__last_serial T
 refine T.d0.p_Meter_write.F.ok sc_Meter_write (fun vs H Q E h => ?_) (fun cdv A outer s H vs Q E hr h => ?_)
 · obtain ⟨A, s', B, rfl, c, hL, hnd, hl, q⟩ := un_Meter_write h
   rfl
 obtain ⟨A, s', B, rfl, c, hL, hnd, hl, q⟩ := un_Meter_write h
 refine ⟨_, (pss_cons (ps_set (i := 1) sc_Meter_write.nd rfl (Or.inl rfl) (pe_callTy call_tupOfM (by rfl) T.b.n_tuple (by decide +kernel) (pa_cons (pe_lcW (own := [("bearer", 2), ("way", 3)]) (g := (gTup K 2 (gCons (gName 2) (gCons (gName 3) gNil)))) [2, 3] im_list rfl sc_Meter_write.nd (pi_list (pe_c (pe_callB (call_sortDTM rfl) (by rfl) T.b.n_sorted (by decide +kernel) (pa_cons (pe_fldM (pv 0) T.k0.k_Meter.cl T.k0.f_Meter__sums) pa_nil)))) (blkOk_by (own := [("bearer", 2), ("way", 3)]) (N := ["self", "sums", "bearer", "way"]) (sc := defScope S_Meter_write) (by decide +kernel)) (fun _ _ _ _ _ => (pg_tup rfl (pgs_cons (pg_name (i := 2) sc_Meter_write.nd rfl (Or.inl rfl)) (pgs_cons (pg_name (i := 3) sc_Meter_write.nd rfl (Or.inl rfl)) pgs_nil)))) (fun _ _ _ _ _ => pts_nil) (fun _ _ _ _ _ => (pe_tupM (pa_cons (pv 2) (pa_cons (pv 3) (pa_cons (pe_dgetTM (hu_of hr) (pe_fldM (pv 0) T.k0.k_Meter.cl T.k0.f_Meter__sums) (pe_tupM (pa_cons (pv 2) (pa_cons (pv 3) pa_nil)))) pa_nil)))))) pa_nil))) (pss_cons (ps_fldM (pv 0) (pe_tupM (pa_cons (pe_op op_addM (meth_weak (pe_meth0 (pe_c (pv 0)) T.k0.k_Meter.cl T.d0.p_Meter__last_serial.me G_Meter__last_serial (hr.mono (by decide)) T.d0.p_Meter__last_serial.b .nil pass0)) pe_int) (pa_cons (pv 1) pa_nil))) T.k0.k_Meter.cl T.k0.f_Meter__last) (pss_cons (ps_fldM (pv 0) pe_bl T.k0.k_Meter.cl T.k0.f_Meter__has_more) (pss_one (ps_ret (pe_fldM (pv 0) T.k0.k_Meter.cl T.k0.f_Meter__last)))))), ?_⟩
 have w0 : Own H B (mas A) B (mcells T.b.C_Meter A s') H := c.start
 have hA := w0.mem (.head _)
 have hD := w0.mem (.tail _ (.head _))
 walk_at "R"
 refine rd_lcW ?_
 walk_at "R"
 refine rd_sortDT (.inl hD) fun bs ps hps pm asc => ?_
 intro p1 H1 n1 s1 e1
 have hlen : bs.length ≤ 1000 := by
   rw [hps.ln, pm.length_eq, List.length_map]
   omega
 have w1 := w0.more s1
 walk_at "R"
 refine ⟨⟨_, sq_of e1⟩, ?_⟩
 refine wl_tupsG _ (fun i => [.int (ps.getD i (0, 0)).1, .int (ps.getD i (0, 0)).2, .int ((tget s'.E (ps.getD i (0, 0))).getD 0)]) (sq_of e1) (by rw [List.length_map]; omega) (fun i y hi H' R BB sH' k => ?_) (fun D ts H' nD nt => ?_)
 · rw [List.getElem?_map] at hi
   obtain ⟨b, hb, rfl⟩ := Option.map_eq_some_iff.mp hi
   have hil := (List.getElem?_eq_some_iff.mp hb).1
   rw [hps.ln] at hil
   have hp : ps[i]? = some (ps.getD i (0, 0)) := by
     rw [List.getD_eq_getElem?_getD, List.getElem?_eq_getElem hil]
     rfl
   have hbv := hps.at' i b _ hb hp
   obtain ⟨v, hv⟩ := tget_mem (pm.mem_iff.mp (List.mem_of_getElem? hp))
   have s1H := s1.trans sH'
   refine ⟨b, _, rfl, st_of (s1H _ _ hbv), rfl, _, _, rfl, _, _, rfl, rfl, ?_⟩
   refine ⟨rfl, ?_⟩
   have hA' := s1H _ _ hA
   walk_at "R"
   intro t2 H2 n2 s2 e2
   refine rd_dgetT (p := ps.getD i (0, 0)) (v := v) (.inl (s2 _ _ (s1H _ _ hD))) e2 hv ?_
   walk_at "R"
   intro t3 H3 n3 s3 e3
   refine k t3 H3 (same_none s2 n3) (s2.trans s3) ?_
   show H3 t3 = some (.tup [.int (ps.getD i (0, 0)).1, .int (ps.getD i (0, 0)).2, .int ((tget s'.E (ps.getD i (0, 0))).getD 0)])
   rw [hv]
   exact e3
 obtain ⟨B2, sB2, hB2, tl, w2⟩ := w1.nt nD nt
 refine rd_tupOf (sq_of (w2.imm _ _ hB2)) fun rt H3 n3 s3 e3 => ?_
 obtain ⟨B3, sB3, hB3, _, w3⟩ := w2.ro n3 s3 e3
 have hrt : RtAt B3 rt (rowsE s'.E ps) := by
   have hln := tl.len
   rw [List.length_map, List.length_range, List.length_map, hps.ln] at hln
   refine ⟨ts, hB3, by unfold rowsE; rw [List.length_map]; exact hln, fun i t e e1 e2 => ?_⟩
   obtain ⟨x, hx, ht⟩ := (tl.mono sB3).at e1
   have hi := (List.getElem?_eq_some_iff.mp e1).1
   rw [List.getElem?_map, List.getElem?_range (by rw [List.length_map, hps.ln]; omega)] at hx
   cases hx
   unfold rowsE at e2
   rw [List.getElem?_map, List.getElem?_eq_getElem (by omega)] at e2
   cases e2
   have hil : i < ps.length := by omega
   have eg : ps.getD i (0, 0) = ps[i] := by
     rw [List.getD_eq_getElem?_getD, List.getElem?_eq_getElem hil]
     rfl
   rw [ht]
   show some (HO.tup [.int (ps.getD i (0, 0)).1, .int (ps.getD i (0, 0)).2, .int ((tget s'.E (ps.getD i (0, 0))).getD 0)]) = _
   rw [eg]
 have hA3 := w3.mem (.head _)
 walk_at "R"
 refine op_Meter__last_serial ⟨A, s', rfl, hA3, ((hL.mono (sB2.trans sB3)).mono w3.imm), ?_⟩
 walk_at "R"
 intro l H4 n4 s4 e4
 obtain ⟨B4, sB4, hB4, _, w4⟩ := w3.ro n4 s4 e4
 have hA4 := w4.mem (.head _)
 walk_at "R"
 refine rd_putF (by walk_at "hp") (by exact Nat.le_of_ble_eq_true rfl) rfl ?_
 have w5 := w4.set 0 rfl (.ins T.b.C_Meter A.dx (({ s' with lv := .ref l, n := s'.n + 1 } : MtS).fs A))
 have hA5 := w5.mem (.head _)
 walk_at "R"
 refine rd_putF (by walk_at "hp") (by exact Nat.le_of_ble_eq_true rfl) rfl ?_
 have w6 := w5.set 0 rfl (.ins T.b.C_Meter A.dx (({ s' with lv := .ref l, n := s'.n + 1, more := false } : MtS).fs A))
 have hA6 := w6.mem (.head _)
 walk_at "R"
 exact q B4 _ l (rowsE s'.E ps) w6 ⟨rt, hB4, hrt.mono sB4⟩ (rowsE_of pm asc)
def sp_Meter_last (K : PySem.W.Frag) (C : Addr) : Sp := fun vs H Q _ => ∃ (A : MtA) (s : MtS), vs = [.ref A.p] ∧ H A.p = some (.ins C A.dx (s.fs A)) ∧ Q s.lv H
@[irreducible] def ip_Meter_last (K : PySem.W.Frag) (C : Addr) : Sp := sp_Meter_last K C
theorem op_Meter_last {K : PySem.W.Frag} {C : Addr} : ∀ {vs H Q E}, sp_Meter_last K C vs H Q E → ip_Meter_last K C vs H Q E := fun h => by unfold ip_Meter_last; exact h
theorem un_Meter_last {K : PySem.W.Frag} {C : Addr} : ∀ {vs H Q E}, ip_Meter_last K C vs H Q E → sp_Meter_last K C vs H Q E := fun h => by unfold ip_Meter_last at h; exact h
theorem ok_Meter_last (T : Tx P w K mg base) : FnOk P w K mg base CX0 1 T.d0.a_Meter_last T.d0.d_Meter_last ["self"] (ip_Meter_last K T.b.C_Meter) := by
 refine T.d0.p_Meter_last.F.ok sc_Meter_last (fun vs H Q E h => ?_) (fun cdv A outer s H vs Q E hr h => ?_)
 · obtain ⟨A, s', rfl, hA, q⟩ := un_Meter_last h
   rfl
 obtain ⟨A, s', rfl, hA, q⟩ := un_Meter_last h
 refine ⟨_, (pss_one (ps_ret (pe_fldM (pv 0) T.k0.k_Meter.cl T.k0.f_Meter__last))), ?_⟩
 walk_at "R"
 exact q
def sp_Meter_take (K : PySem.W.Frag) (C : Addr) : Sp := fun vs H Q _ => ∃ (A : MtA) (s : MtS) (m : Int) (B : Hp), vs = [.ref A.p, .int m] ∧ Cells H B (mcells C A s) ∧ ∀ H', Own H B (mas A) B (mcells C A { s with ans := max s.ans m }) H' → Q .non H'
@[irreducible] def ip_Meter_take (K : PySem.W.Frag) (C : Addr) : Sp := sp_Meter_take K C
theorem op_Meter_take {K : PySem.W.Frag} {C : Addr} : ∀ {vs H Q E}, sp_Meter_take K C vs H Q E → ip_Meter_take K C vs H Q E := fun h => by unfold ip_Meter_take; exact h
theorem un_Meter_take {K : PySem.W.Frag} {C : Addr} : ∀ {vs H Q E}, ip_Meter_take K C vs H Q E → sp_Meter_take K C vs H Q E := fun h => by unfold ip_Meter_take at h; exact h
def sp_Meter_is_settled (K : PySem.W.Frag) (C : Addr) : Sp := fun vs H Q _ => ∃ (A : MtA) (s : MtS), vs = [.ref A.p] ∧ H A.p = some (.ins C A.dx (s.fs A)) ∧ LastAt H s.lv s.n ∧ Q (.bl (decide (s.ans = s.n) && !s.more)) H
@[irreducible] def ip_Meter_is_settled (K : PySem.W.Frag) (C : Addr) : Sp := sp_Meter_is_settled K C
theorem op_Meter_is_settled {K : PySem.W.Frag} {C : Addr} : ∀ {vs H Q E}, sp_Meter_is_settled K C vs H Q E → ip_Meter_is_settled K C vs H Q E := fun h => by unfold ip_Meter_is_settled; exact h
theorem un_Meter_is_settled {K : PySem.W.Frag} {C : Addr} : ∀ {vs H Q E}, ip_Meter_is_settled K C vs H Q E → sp_Meter_is_settled K C vs H Q E := fun h => by unfold ip_Meter_is_settled at h; exact h
/-- the law's tape: its cells, the next one, what is left of it, the seed -/
def sp_u_law_next (K : PySem.W.Frag) : Sp := fun vs H Q _ => ∃ (t a : Addr) (ns : List Int) (i r s' many : Int), vs = [.ref t, .int many] ∧ H t = some (.lst [.ref a, .int i, .int r, .int s']) ∧ SqL K H a (ns.map V.int) ∧ (0 ≤ i ∧ i ≤ (ns.length : Int)) ∧ 0 ≤ r ∧ (0 ≤ s' ∧ s' < 2147483647) ∧ (1 ≤ many ∧ many ≤ 1000) ∧
  ∀ (x i' r' z : Int), 0 ≤ x → x < many → (0 ≤ i' ∧ i' ≤ (ns.length : Int)) → 0 ≤ r' → (0 ≤ z ∧ z < 2147483647) → Q (.int x) (upd H t (.lst [.ref a, .int i', .int r', .int z]))
@[irreducible] def ip_u_law_next (K : PySem.W.Frag) : Sp := sp_u_law_next K
theorem op_u_law_next {K : PySem.W.Frag} : ∀ {vs H Q E}, sp_u_law_next K vs H Q E → ip_u_law_next K vs H Q E := fun h => by unfold ip_u_law_next; exact h
theorem un_u_law_next {K : PySem.W.Frag} : ∀ {vs H Q E}, ip_u_law_next K vs H Q E → sp_u_law_next K vs H Q E := fun h => by unfold ip_u_law_next at h; exact h
theorem ok_u_law_next (T : Tx P w K mg base) : FnOk P w K mg base CX0 1 T.d2.a_u_law_next T.d2.d_u_law_next ["tape", "many"] (ip_u_law_next K) := by
 refine T.d2.p_u_law_next.F.ok sc_u_law_next (fun vs H Q E h => ?_) (fun cdv A outer s H vs Q E hr h => ?_)
 · obtain ⟨t, a, ns, i, r, s', many, rfl, hT, hS, hi, hr0, hs0, hm, q⟩ := un_u_law_next h
   rfl
 obtain ⟨t, a, ns, i, r, s', many, rfl, hT, hS, hi, hr0, hs0, hm, q⟩ := un_u_law_next h
 refine ⟨_, (pss_cons (ps_set (i := 2) sc_u_law_next.nd rfl (Or.inl rfl) (pe_ix ix_listM (pv 0) pe_int (fun _ _ => rfl))) (pss_cons (ps_ifM (pt_cmpR op_eq (pv 2) pe_int (nomark _)) (pss_cons (ps_set (i := 3) sc_u_law_next.nd rfl (Or.inl rfl) pe_int) (pss_cons (ps_ifJ (pt_cmpR op_ltM (pe_ix ix_listM (pv 0) pe_int (fun _ _ => rfl)) (pe_callB call_lenM (by rfl) T.b.n_len PySem.boot_len (pa_cons (pe_ix ix_listM (pv 0) pe_int (fun _ _ => rfl)) pa_nil)) (nomark _)) (pss_cons (ps_set (i := 3) sc_u_law_next.nd rfl (Or.inl rfl) (pe_callB call_abs (by rfl) T.b.n_abs (by decide +kernel) (pa_cons (pe_callTy call_int1 (by rfl) T.b.n_int (by decide +kernel) (pa_cons (pe_ix ix_listM (pe_ix ix_listM (pv 0) pe_int (fun _ _ => rfl)) (pe_ix ix_listM (pv 0) pe_int (fun _ _ => rfl)) (fun _ _ => rfl)) pa_nil)) pa_nil))) (pss_one (ps_asg (pe_op op_addM (pe_ix ix_listM (pv 0) pe_int (fun _ _ => rfl)) pe_int) (pg_sub (pv 0) pe_int set_listM)))) pss_nil) (pss_cons (ps_set (i := 2) sc_u_law_next.nd rfl (Or.inl rfl) (pv 3)) (pss_one (ps_ifM (pt_cmpR op_ltM (pv 3) (pe_op op_powM pe_int pe_int) (nomark _)) (pss_cons (ps_asg (pe_op op_modM (pe_callTy call_int1 (by rfl) T.b.n_int (by decide +kernel) (pa_cons (pe_op op_addM (pe_op op_addM (pe_op op_mulM (pe_ix ix_listM (pv 0) pe_int (fun _ _ => rfl)) pe_int) (pe_op op_mulM (pv 3) pe_int)) pe_int) pa_nil)) pe_int) (pg_sub (pv 0) pe_int set_listM)) (pss_one (ps_ret (pe_op op_modM (pe_op op_modM (pe_callTy call_int1 (by rfl) T.b.n_int (by decide +kernel) (pa_cons (pe_op op_mulM (pe_op op_fdivM (pe_ix ix_listM (pv 0) pe_int (fun _ _ => rfl)) pe_int) pe_int) pa_nil)) pe_int) (pv 1))))) pss_nil))))) pss_nil) (pss_cons (ps_asg (pe_op op_fdivM (pv 2) (pv 1)) (pg_sub (pv 0) pe_int set_listM)) (pss_one (ps_ret (pe_op op_modM (pe_callTy call_int1 (by rfl) T.b.n_int (by decide +kernel) (pa_cons (pv 2) pa_nil)) (pv 1))))))), ?_⟩
 have self : upd H t (.lst [.ref a, .int i, .int r, .int s']) = H := by
   funext b
   by_cases e : b = t
   · rw [e, upd_same, hT]
   · rw [upd_ne e]
 walk_at "R"
 refine rd_ixL (sq_of hT) rfl ?_
 walk_at "R"
 refine br_eby (fun h => ?_) (fun h => ?_)
 · walk_at "R"
   refine rd_ixL (sq_of hT) rfl ?_
   walk_at "R"
   refine rd_ixL (sq_of hT) rfl ?_
   walk_at "R"
   refine rd_ifJ (fun σ' H' => Stop (∃ (i' cell : Int), (0 ≤ i' ∧ i' ≤ (ns.length : Int)) ∧ 0 ≤ cell ∧ H' = upd H t (.lst [.ref a, .int i', .int r, .int s']) ∧ σ' = [some (.ref t), some (.int many), some (.int r), some (.int cell)])) (fun h1 => ?_) (fun h1 => ?_) (fun σ' H' w => ?_)
   · have h1 := of_decide_eq_true h1
     walk_at "R"
     refine rd_ixL (sq_of hT) rfl ?_
     walk_at "R"
     refine rd_ixL (sq_of hT) rfl ?_
     walk_at "R"
     refine rd_ixI hS hi.1 h1 ?_
     have hc : ∃ c : Int, (if ns.getD i.toNat 0 < 0 then -ns.getD i.toNat 0 else ns.getD i.toNat 0) = c ∧ 0 ≤ c := by
       refine ⟨_, rfl, ?_⟩
       split <;> omega
     obtain ⟨c, ec, hc0⟩ := hc
     walk_at "R"
     rw [ec]
     refine rd_ixL (sq_of hT) rfl ?_
     walk_at "R"
     refine rd_setL hT (by decide) (by exact Int.lt_of_lt_of_le (by decide : (1 : Int) < 4) (Int.le_refl _)) ?_
     refine .a ⟨i + 1, c, ⟨by omega, by omega⟩, hc0, rfl, rfl⟩
   · exact .a ⟨i, 0, hi, Int.le_refl _, self.symm, rfl⟩
   obtain ⟨i', cell, hi', hc0, rfl, rfl⟩ := w.un
   have hT2 : upd H t (.lst [.ref a, .int i', .int r, .int s']) t = some (.lst [.ref a, .int i', .int r, .int s']) := upd_same
   walk_at "R"
   refine br_by (fun h2 => ?_) (fun h2 => ?_)
   · walk_at "R"
     refine rd_ixL (sq_of hT2) rfl ?_
     walk_at "R"
     refine rd_setL hT2 (by decide) (by exact Int.lt_of_lt_of_le (by decide : (3 : Int) < 4) (Int.le_refl _)) ?_
     rw [upd_upd]
     generalize hz : (s' * 69621 + cell * 40692 + 17) % 2147483647 = z
     have hz0 : 0 ≤ z ∧ z < 2147483647 := by omega
     have hT3 : upd H t (.lst [.ref a, .int i', .int r, .int z]) t = some (.lst [.ref a, .int i', .int r, .int z]) := upd_same
     walk_at "R"
     refine rd_ixL (sq_of hT3) rfl ?_
     walk_at "R"
     exact q _ i' r z (Int.emod_nonneg _ (by omega)) (Int.emod_lt_of_pos _ (by omega)) hi' hr0 hz0
   · walk_at "R"
     refine rd_setL hT2 (by decide) (by exact Int.lt_of_lt_of_le (by decide : (2 : Int) < 4) (Int.le_refl _)) ?_
     walk_at "R"
     rw [upd_upd]
     exact q (cell % many) i' (cell / many) s' (Int.emod_nonneg _ (by omega)) (Int.emod_lt_of_pos _ (by omega)) hi' (Int.ediv_nonneg hc0 (by omega)) hs0
 · walk_at "R"
   refine rd_setL hT (by decide) (by exact Int.lt_of_lt_of_le (by decide : (2 : Int) < 4) (Int.le_refl _)) ?_
   walk_at "R"
   exact q (r % many) i (r / many) s' (Int.emod_nonneg _ (by omega)) (Int.emod_lt_of_pos _ (by omega)) hi (Int.ediv_nonneg hr0 (by omega)) hs0
def tapeL (a : Addr) (i r z : Int) : HO := .lst [.ref a, .int i, .int r, .int z]
structure TapeOk2 (ns : List Int) (i r z : Int) : Prop where
  i : 0 ≤ i ∧ i ≤ (ns.length : Int)
  r : 0 ≤ r
  z : 0 ≤ z ∧ z < 2147483647
/-- only the tape has moved -/
structure TpN (t a : Addr) (ns : List Int) (H H' : Hp) : Prop where
  tp : ∃ i r z, TapeOk2 ns i r z ∧ H' t = some (tapeL a i r z)
  but : ∀ b o, b ≠ t → H b = some o → H' b = some o
theorem TpN.start {t a : Addr} {ns : List Int} {H : Hp} {i r z : Int} (ok : TapeOk2 ns i r z) (h : H t = some (tapeL a i r z)) : TpN t a ns H H := ⟨⟨i, r, z, ok, h⟩, fun _ _ _ h => h⟩
theorem TpN.trans {t a : Addr} {ns : List Int} {H H1 H2 : Hp} (h : TpN t a ns H H1) (k : TpN t a ns H1 H2) : TpN t a ns H H2 := ⟨k.tp, fun b o hb e => k.but b o hb (h.but b o hb e)⟩
theorem TpN.more {t a : Addr} {ns : List Int} {H H1 H2 : Hp} (h : TpN t a ns H H1) (s : Same H1 H2) : TpN t a ns H H2 := by
  obtain ⟨i, r, z, ok, e⟩ := h.tp
  exact ⟨⟨i, r, z, ok, s _ _ e⟩, fun b o hb e => s _ _ (h.but b o hb e)⟩
theorem TpN.seq {K : PySem.W.Frag} {t a b : Addr} {ns : List Int} {H H1 : Hp} {xs : List V} (h : TpN t a ns H H1) (hb : b ≠ t) (k : SqL K H b xs) : SqL K H1 b xs := by
  rcases k with (k | ⟨o, k⟩) | k
  · exact sq_of (h.but _ _ hb k)
  · exact .inl (.inr ⟨o, h.but _ _ hb k⟩)
  · exact .inr k
/-- the promise of _law_next, told by TpN -/
theorem next_tp {K : PySem.W.Frag} {t a : Addr} {ns : List Int} {H : Hp} {many : Int} {Q : VK} {E : XK} (hT : ∃ i r z, TapeOk2 ns i r z ∧ H t = some (tapeL a i r z)) (hS : SqL K H a (ns.map V.int)) (hm : 1 ≤ many ∧ many ≤ 1000)
    (q : ∀ (x : Int) (H' : Hp), 0 ≤ x → x < many → TpN t a ns H H' → Q (.int x) H') : ip_u_law_next K [.ref t, .int many] H Q E := by
  obtain ⟨i, r, z, ok, e⟩ := hT
  refine op_u_law_next ⟨t, a, ns, i, r, z, many, rfl, e, hS, ok.i, ok.r, ok.z, hm, fun x i' r' z' h0 h1 h2 h3 h4 => q x _ h0 h1 ⟨⟨i', r', z', ⟨h2, h3, h4⟩, upd_same⟩, fun b o hb hh => ?_⟩⟩
  rw [upd_ne hb]
  exact hh
/-- a comprehension over range whose turns move the tape alone -/
theorem wl_tape {t a : Addr} {ns : List Int} {j : Nat} {te : TE} {σ : L2.St} {H1 : Hp} {Q : VK} {n : Nat} (P : V → Prop) (hn : n ≤ 100000) (h0 : TpN t a ns H1 H1)
    (he : ∀ i : Nat, i < n → ∀ (H' : Hp) (R : VK), TpN t a ns H1 H' → (∀ y H4, P y → TpN t a ns H' H4 → R y H4) → te ((wipe σ [j]).set j (some (.int (i : Nat)))) H' R)
    (hq : ∀ D xs H', H1 D = none → xs.length = n → (∀ x ∈ xs, P x) → TpN t a ns H1 H' → H' D = some (.lst xs) → Q (.ref D) H') : LcWP (Itr 0 n) (gName j) tYes te [j] σ Q H1 := by
  have ht : ∃ o, H1 t = some o := by
    obtain ⟨i, r, z, ok, e⟩ := h0.tp
    exact ⟨_, e⟩
  have updn : ∀ {D : Addr} {o : HO} {H2 : Hp}, H1 D = none → TpN t a ns H1 H2 → TpN t a ns H1 (upd H2 D o) := fun {D o H2} hD h => by
    obtain ⟨i, r, z, ok, e⟩ := h.tp
    have hDt : t ≠ D := fun z => by
      obtain ⟨o, ho⟩ := ht
      rw [z, hD] at ho
      cases ho
    refine ⟨⟨i, r, z, ok, by rw [upd_ne hDt]; exact e⟩, fun b o hb hh => ?_⟩
    have hbD : b ≠ D := fun z => by
      rw [z, hD] at hh
      cases hh
    rw [upd_ne hbD]
    exact h.but b o hb hh
  refine wl_rng hn fun D hD => ⟨fun i acc H' => acc.length = i ∧ (∀ x ∈ acc, P x) ∧ TpN t a ns H1 H', ⟨rfl, fun x hx => (nomatch hx), updn hD h0⟩, fun i acc H' hi ha h2 p => ?_, fun acc H' ha h2 p => hq D acc H' hD p.1 p.2.1 p.2.2 h2⟩
  obtain ⟨p1, p2, p3⟩ := p
  have hDt : D ≠ t := fun z => by
    obtain ⟨o, ho⟩ := ht
    rw [← z, hD] at ho
    cases ho
  rw [Int.zero_add]
  show _ ∧ _
  refine ⟨wipe_set rfl, ?_⟩
  show Br true _ _
  refine br_T (he i hi H' _ p3 fun y H4 hy h4 => ⟨h4.but _ _ hDt h2, ?_, fun x hx => ?_, updn hD (p3.trans h4)⟩)
  · rw [List.length_append, p1]
    rfl
  · rcases List.mem_append.mp hx with hx | hx
    · exact p2 x hx
    · rw [List.mem_singleton.mp hx]
      exact hy
theorem ints_of {p : Int → Prop} : ∀ {xs : List V}, (∀ x ∈ xs, ∃ n, x = .int n ∧ p n) → ∃ ns : List Int, xs = ns.map V.int ∧ ∀ n ∈ ns, p n
  | [], _ => ⟨[], rfl, fun n hn => (nomatch hn)⟩
  | x :: r, h => by
    obtain ⟨n, rfl, hn⟩ := h x (.head _)
    obtain ⟨ns, rfl, hns⟩ := ints_of (xs := r) fun y hy => h y (.tail _ hy)
    exact ⟨n :: ns, rfl, fun m hm => (List.mem_cons.mp hm).elim (fun e => e ▸ hn) (hns m)⟩
theorem bls_of : ∀ {xs : List V}, (∀ x ∈ xs, ∃ b, x = .bl b) → ∃ bs : List Bool, xs = bs.map V.bl
  | [], _ => ⟨[], rfl⟩
  | x :: r, h => by
    obtain ⟨n, rfl⟩ := h x (.head _)
    obtain ⟨ns, rfl⟩ := bls_of (xs := r) fun y hy => h y (.tail _ hy)
    exact ⟨n :: ns, rfl⟩
/-- what is owned, behind a move of the tape -/
theorem Own.tape {S B0 B H H' : Hp} {as : List Addr} {l : List (Addr × HO)} {t a : Addr} {ns : List Int} {o : HO} (w : Own S B0 as B ((t, o) :: l) H) (h : TpN t a ns H H') : ∃ i r z, TapeOk2 ns i r z ∧ Own S B0 as B ((t, tapeL a i r z) :: l) H' := by
  obtain ⟨i, r, z, ok, e⟩ := h.tp
  refine ⟨i, r, z, ok, ⟨⟨fun b u hb => ?_, w.c.nd, fun b u hb => h.but b u (fun z => ?_) (w.imm _ _ hb), fun b u hb => ?_⟩, fun b u hb hs => h.but b u (fun z => ?_) (w.kept b u hb hs), fun b u hb => ?_, w.grow, w.new, fun b hb => ?_⟩⟩
  · rcases List.mem_cons.mp hb with hb | hb
    · cases hb
      exact e
    · exact h.but b u (nd_ne w.c.nd hb) (w.mem (.tail _ hb))
  · have := w.c.dis t o (.head _)
    rw [← z, hb] at this
    cases this
  · rcases List.mem_cons.mp hb with hb | hb
    · cases hb
      exact w.c.dis t o (.head _)
    · exact w.c.dis b u (.tail _ hb)
  · subst z
    rcases w.own b o (.head _) with h1 | h1
    · exact hb h1
    · rw [h1] at hs
      cases hs
  · rcases List.mem_cons.mp hb with hb | hb
    · cases hb
      exact w.own t o (.head _)
    · exact w.own b u (.tail _ hb)
  · by_cases z : b = t
    · rw [z, e]
      exact fun y => nomatch y
    · have h1 := w.there b hb
      cases h2 : H b with
      | none => exact absurd h2 h1
      | some u =>
        rw [h.but b u z h2]
        exact fun y => nomatch y
/-- and a list that is new -/
theorem Own.tapeD {S B0 B H H' : Hp} {as : List Addr} {l : List (Addr × HO)} {t a D : Addr} {ns : List Int} {o u : HO} (w : Own S B0 as B ((t, o) :: l) H) (h : TpN t a ns H H') (hD : H D = none) (e : H' D = some u) :
    ∃ B' i r z, Same B B' ∧ B' D = some u ∧ TapeOk2 ns i r z ∧ Own S B0 as B' ((t, tapeL a i r z) :: l) H' := by
  obtain ⟨i, r, z, ok, w2⟩ := w.tape h
  obtain ⟨B', s1, s2, w3⟩ := w2.adopt2 [D] fun p hp => by
    rw [List.mem_singleton.mp hp]
    refine ⟨(w.frS hD).1, by rw [e]; exact fun y => (nomatch y), fun hm => ?_⟩
    have hm : D ∈ ((t, o) :: l).map Prod.fst := hm
    obtain ⟨v, hv⟩ := fst_mem hm
    exact w.notin hD hv
  exact ⟨B', i, r, z, s1, (s2 D (.head _)).trans e, ok, w3⟩
/-! ### the anchor: its places, and what is in them -/
abbrev P3 := Addr × Addr × Addr
structure AnA where
  p : Addr
  dx : Addr
  M : MtA
  sl : Addr
  rl : Addr
  ol : Addr
structure AnS where
  mt : MtS
  stay : Int
  S : List (P3 × UsS)
  R : List (P3 × UrS)
  O : List (Addr × List Addr)
/-- the classes -/
structure AnC where
  a : Addr
  m : Addr
  s : Addr
  r : Addr
def AnS.fs (s : AnS) (A : AnA) : List (Str × V) := [("meter", .ref A.M.p), ("_stay", .int s.stay), ("_senders", .ref A.sl), ("_receivers", .ref A.rl), ("_out", .ref A.ol)]
def scl (C : Addr) (x : P3 × UsS) : List (Addr × HO) := ucells C x.1.1 x.1.2.1 x.1.2.2 x.2
def rcl (C : Addr) (x : P3 × UrS) : List (Addr × HO) := rvcells C x.1.1 x.1.2.1 x.1.2.2 x.2
def ocl (x : Addr × List Addr) : List (Addr × HO) := [(x.1, .lst (x.2.map V.ref))]
def anhead (C : AnC) (A : AnA) (s : AnS) : List (Addr × HO) := (A.p, .ins C.a A.dx (s.fs A)) :: mcells C.m A.M s.mt
def ancells (C : AnC) (A : AnA) (s : AnS) : List (Addr × HO) := anhead C A s ++ (s.S.flatMap (scl C.s) ++ (s.R.flatMap (rcl C.r) ++ s.O.flatMap ocl))
structure AnB (B : Hp) (A : AnA) (s : AnS) : Prop where
  sl : B A.sl = some (.lst (s.S.map fun x => V.ref x.1.1))
  rl : B A.rl = some (.lst (s.R.map fun x => V.ref x.1.1))
  ol : B A.ol = some (.lst (s.O.map fun x => V.ref x.1))
  so : ∀ x ∈ s.S, UsOk x.2 ∧ PkAt B x.2.pk
  ro : ∀ x ∈ s.R, UrOk x.2 ∧ PkAt B x.2.pk
theorem AnB.mono {B B' : Hp} {A : AnA} {s : AnS} (h : AnB B A s) (e : Same B B') : AnB B' A s := ⟨e _ _ h.sl, e _ _ h.rl, e _ _ h.ol, fun x hx => ⟨(h.so x hx).1, (h.so x hx).2.mono e⟩, fun x hx => ⟨(h.ro x hx).1, (h.ro x hx).2.mono e⟩⟩
section
variable {S B0 B H : Hp} {as : List Addr} {C : AnC} {A : AnA} {s : AnS} {L : List (Addr × HO)}
theorem ref_at {α : Type} {xs : List α} {i : Nat} {x : α} (p : α → Addr) (h : xs[i]? = some x) : atI (xs.map fun x => V.ref (p x)) (i : Int) = some (.ref (p x)) := at_of (j := i) (by omega) (by rw [List.getElem?_map, h]; rfl)
/-- one of the senders, in front -/
theorem anS_at (w : Own S B0 as B (ancells C A s ++ L) H) {k : Nat} {x : P3 × UsS} (h : s.S[k]? = some x) : Own S B0 as B (scl C.s x ++ (anhead C A s ++ ((s.S.eraseIdx k).flatMap (scl C.s) ++ (s.R.flatMap (rcl C.r) ++ (s.O.flatMap ocl ++ L))))) H := by
  unfold ancells at w
  rw [List.append_assoc, List.append_assoc, List.append_assoc] at w
  exact w.at h
theorem anS_back {k : Nat} {y : P3 × UsS} (w : Own S B0 as B (scl C.s y ++ (anhead C A s ++ ((s.S.eraseIdx k).flatMap (scl C.s) ++ (s.R.flatMap (rcl C.r) ++ (s.O.flatMap ocl ++ L))))) H) (h : k < s.S.length) : Own S B0 as B (ancells C A { s with S := s.S.set k y } ++ L) H := by
  have w2 := w.back h
  unfold ancells
  rw [List.append_assoc, List.append_assoc, List.append_assoc]
  exact w2
theorem anR_at (w : Own S B0 as B (ancells C A s ++ L) H) {k : Nat} {x : P3 × UrS} (h : s.R[k]? = some x) : Own S B0 as B (rcl C.r x ++ ((anhead C A s ++ s.S.flatMap (scl C.s)) ++ ((s.R.eraseIdx k).flatMap (rcl C.r) ++ (s.O.flatMap ocl ++ L)))) H := by
  unfold ancells at w
  rw [List.append_assoc, List.append_assoc, List.append_assoc, ← List.append_assoc (anhead C A s)] at w
  exact w.at h
theorem anR_back {k : Nat} {y : P3 × UrS} (w : Own S B0 as B (rcl C.r y ++ ((anhead C A s ++ s.S.flatMap (scl C.s)) ++ ((s.R.eraseIdx k).flatMap (rcl C.r) ++ (s.O.flatMap ocl ++ L)))) H) (h : k < s.R.length) : Own S B0 as B (ancells C A { s with R := s.R.set k y } ++ L) H := by
  have w2 := w.back h
  unfold ancells
  rw [List.append_assoc, List.append_assoc, List.append_assoc, ← List.append_assoc (anhead C A _)]
  exact w2
theorem anO_at (w : Own S B0 as B (ancells C A s ++ L) H) {k : Nat} {x : Addr × List Addr} (h : s.O[k]? = some x) : Own S B0 as B (ocl x ++ ((anhead C A s ++ (s.S.flatMap (scl C.s) ++ s.R.flatMap (rcl C.r))) ++ ((s.O.eraseIdx k).flatMap ocl ++ L))) H := by
  unfold ancells at w
  rw [List.append_assoc, List.append_assoc, List.append_assoc, ← List.append_assoc (s.S.flatMap _), ← List.append_assoc (anhead C A s)] at w
  exact w.at h
theorem anO_back {k : Nat} {y : Addr × List Addr} (w : Own S B0 as B (ocl y ++ ((anhead C A s ++ (s.S.flatMap (scl C.s) ++ s.R.flatMap (rcl C.r))) ++ ((s.O.eraseIdx k).flatMap ocl ++ L))) H) (h : k < s.O.length) : Own S B0 as B (ancells C A { s with O := s.O.set k y } ++ L) H := by
  have w2 := w.back h
  unfold ancells
  rw [List.append_assoc, List.append_assoc, List.append_assoc, ← List.append_assoc (s.S.flatMap _), ← List.append_assoc (anhead C A _)]
  exact w2
end
def anas (C : AnC) (A : AnA) (s : AnS) : List Addr := (ancells C A s).map Prod.fst
structure An0 (s : AnS) (n : Nat) (b : Int) : Prop where
  hm : s.mt = ⟨[], .non, 0, 0, false⟩
  hst : s.stay = -1
  hs : s.S.length = n ∧ ∀ x ∈ s.S, x.2 = ⟨b, 0, []⟩
  hr : s.R.length = n ∧ ∀ x ∈ s.R, x.2 = ⟨b, 0, []⟩
  ho : s.O.length = n ∧ ∀ x ∈ s.O, x.2 = []
def sp_Anchor___init__ (K : PySem.W.Frag) (C CM CS CR : Addr) : Sp := fun vs H Q _ => ∃ (p dx : Addr) (n : Nat) (b : Int) (B : Hp), vs = [.ref p, .int n, .int b] ∧ n ≤ 10 ∧ (4 ≤ b ∧ b ≤ 7) ∧ Cells H B [(p, .ins C dx [])] ∧ ∀ (B' : Hp) (A : AnA) (s : AnS) (H' : Hp), A.p = p → An0 s n b → Own H B [p] B' (ancells ⟨C, CM, CS, CR⟩ A s) H' → AnB B' A s → Q .non H'
@[irreducible] def ip_Anchor___init__ (K : PySem.W.Frag) (C CM CS CR : Addr) : Sp := sp_Anchor___init__ K C CM CS CR
theorem op_Anchor___init__ {K : PySem.W.Frag} {C CM CS CR : Addr} : ∀ {vs H Q E}, sp_Anchor___init__ K C CM CS CR vs H Q E → ip_Anchor___init__ K C CM CS CR vs H Q E := fun h => by unfold ip_Anchor___init__; exact h
theorem un_Anchor___init__ {K : PySem.W.Frag} {C CM CS CR : Addr} : ∀ {vs H Q E}, ip_Anchor___init__ K C CM CS CR vs H Q E → sp_Anchor___init__ K C CM CS CR vs H Q E := fun h => by unfold ip_Anchor___init__ at h; exact h
theorem ok_Anchor___init__ (T : Tx P w K mg base) : FnOk P w K mg base CX0 3 T.d1.a_Anchor___init__ T.d1.d_Anchor___init__ ["self", "bearers", "count_bits"] (ip_Anchor___init__ K T.b.C_Anchor T.b.C_Meter T.b.C_UpperSender T.b.C_UpperReceiver) := by
 have G_Meter___init__ := ok_Meter___init__ T
 have G_UpperSender___init__ := ok_UpperSender___init__ T
 have G_UpperReceiver___init__ := ok_UpperReceiver___init__ T
 refine T.d1.p_Anchor___init__.F.ok sc_Anchor___init__ (fun vs H Q E h => ?_) (fun cdv A outer s H vs Q E hr h => ?_)
 · obtain ⟨p, dx, n, b, B, rfl, hn, hb, c, q⟩ := un_Anchor___init__ h
   rfl
 obtain ⟨p, dx, n, b, B, rfl, hn, hb, c, q⟩ := un_Anchor___init__ h
 refine ⟨_, (pss_cons (ps_fldM (pv 0) (pe_make0 T.k0.k_Meter.mk' G_Meter___init__ (hr.mono (by decide)) rfl T.b.g_Meter T.d0.p_Meter___init__.b .nil pass0) T.k0.k_Anchor.cl T.k0.f_Anchor_meter) (pss_cons (ps_fldM (pv 0) (pe_un un_neg pe_int) T.k0.k_Anchor.cl T.k0.f_Anchor__stay) (pss_cons (ps_fldM (pv 0) (pe_lcW (own := [("_", 3)]) (g := (gName 3)) [3] im_rng1 rfl sc_Anchor___init__.nd (pi_range1 (by rfl) T.b.n_range (pa_c (pa_cons (pv 1) pa_nil))) (blkOk_by (own := [("_", 3)]) (N := ["self", "bearers", "count_bits", "_"]) (sc := defScope S_Anchor___init__) (by decide +kernel)) (fun _ _ _ _ _ => (pg_name (i := 3) sc_Anchor___init__.nd rfl (Or.inl rfl))) (fun _ _ _ _ _ => pts_nil) (fun _ _ _ _ _ => (pe_make T.k0.k_UpperSender.mk' G_UpperSender___init__ (hr.mono (by decide)) rfl T.b.g_UpperSender T.d0.p_UpperSender___init__.b .nil pass0 (pa_cons (pv 2) pa_nil)))) T.k0.k_Anchor.cl T.k0.f_Anchor__senders) (pss_cons (ps_fldM (pv 0) (pe_lcW (own := [("_", 3)]) (g := (gName 3)) [3] im_rng1 rfl sc_Anchor___init__.nd (pi_range1 (by rfl) T.b.n_range (pa_c (pa_cons (pv 1) pa_nil))) (blkOk_by (own := [("_", 3)]) (N := ["self", "bearers", "count_bits", "_"]) (sc := defScope S_Anchor___init__) (by decide +kernel)) (fun _ _ _ _ _ => (pg_name (i := 3) sc_Anchor___init__.nd rfl (Or.inl rfl))) (fun _ _ _ _ _ => pts_nil) (fun _ _ _ _ _ => (pe_make T.k0.k_UpperReceiver.mk' G_UpperReceiver___init__ (hr.mono (by decide)) rfl T.b.g_UpperReceiver T.d1.p_UpperReceiver___init__.b .nil pass0 (pa_cons (pv 2) pa_nil)))) T.k0.k_Anchor.cl T.k0.f_Anchor__receivers) (pss_one (ps_fldM (pv 0) (pe_lcW (own := [("_", 3)]) (g := (gName 3)) [3] im_rng1 rfl sc_Anchor___init__.nd (pi_range1 (by rfl) T.b.n_range (pa_c (pa_cons (pv 1) pa_nil))) (blkOk_by (own := [("_", 3)]) (N := ["self", "bearers", "count_bits", "_"]) (sc := defScope S_Anchor___init__) (by decide +kernel)) (fun _ _ _ _ _ => (pg_name (i := 3) sc_Anchor___init__.nd rfl (Or.inl rfl))) (fun _ _ _ _ _ => pts_nil) (fun _ _ _ _ _ => (pe_lstM pa_nil))) T.k0.k_Anchor.cl T.k0.f_Anchor__out)))))), ?_⟩
 have w0 : Own H B [p] B [(p, .ins T.b.C_Anchor dx [])] H := c.start
 walk_at "R"
 intro pm dm npm ndm nem
 have w1 := own_new (C := T.b.C_Meter) w0 npm ndm nem
 refine op_Meter___init__ ⟨pm, dm, B, rfl, w1.cellsL, fun M H2 eM w2' => ?_⟩
 subst eM
 have w2 := (w1.call (lc := [(M.p, .ins T.b.C_Meter dm [])]) w2').perm (l' := [(p, .ins T.b.C_Anchor dx [])] ++ mcells T.b.C_Meter M ⟨[], .non, 0, 0, false⟩) List.perm_append_comm
 refine ⟨rfl, ?_⟩
 have hp2 := w2.mem (.head _)
 walk_at "R"
 refine rd_putF hp2 (by exact Nat.le_of_ble_eq_true rfl) rfl ?_
 have w3 := w2.set 0 rfl (.ins T.b.C_Anchor dx [("meter", .ref M.p)])
 have hp3 := w3.mem (.head _)
 walk_at "R"
 refine rd_putF hp3 (by exact Nat.le_of_ble_eq_true rfl) rfl ?_
 have w4 := w3.set 0 rfl (.ins T.b.C_Anchor dx [("meter", .ref M.p), ("_stay", .int (-1))])
 have hp4 := w4.mem (.head _)
 walk_at "R"
 refine rd_lcW ?_
 walk_at "rd"
 walk_at "rd"
 refine rng1_ok (by omega) ?_
 rw [Int.toNat_natCast]
 refine wl_objs (α := P3 × UsS) (f := scl T.b.C_UpperSender) (p := fun x => x.1.1) (P := fun x => x.2 = ⟨b, 0, []⟩) w4 (by omega) (fun i hi H' L' R w' k => ?_) (fun D xs H5 hD hxl hxP w5 => ?_)
 · walk_at "R"
   intro p2 dx2 np2 nd2 ne2
   have w6 := own_new (C := T.b.C_UpperSender) w' np2 nd2 ne2
   refine op_UpperSender___init__ ⟨p2, dx2, b, B, rfl, w6.cellsL, fun d H7 w7' => ⟨rfl, ?_⟩⟩
   exact k ((p2, dx2, d), ⟨b, 0, []⟩) H7 rfl (w6.call (lc := [(p2, .ins T.b.C_UpperSender dx2 [])]) w7')
 obtain ⟨B5, sB5, hB5, w5⟩ := w5.ice (w4.frS hD).1
 have w5 := w5.perm (l' := ((p, .ins T.b.C_Anchor dx [("meter", .ref M.p), ("_stay", .int (-1))]) :: mcells T.b.C_Meter M ⟨[], .non, 0, 0, false⟩) ++ xs.flatMap (scl T.b.C_UpperSender)) List.perm_append_comm
 have hp5 := w5.mem (p := p) (.head _)
 walk_at "R"
 refine rd_putF hp5 (by exact Nat.le_of_ble_eq_true rfl) rfl ?_
 have w6 : Own H B [p] B5 (((p, .ins T.b.C_Anchor dx [("meter", .ref M.p), ("_stay", .int (-1)), ("_senders", .ref D)]) :: mcells T.b.C_Meter M ⟨[], .non, 0, 0, false⟩) ++ xs.flatMap (scl T.b.C_UpperSender)) _ := w5.set 0 rfl (.ins T.b.C_Anchor dx [("meter", .ref M.p), ("_stay", .int (-1)), ("_senders", .ref D)])
 clear w0 w1 w2 w2' w3 w4 w5 hp2 hp3 hp4 hp5
 walk_at "R"
 refine rd_lcW ?_
 walk_at "rd"
 walk_at "rd"
 refine rng1_ok (by omega) ?_
 rw [Int.toNat_natCast]
 refine wl_objs (α := P3 × UrS) (f := rcl T.b.C_UpperReceiver) (p := fun x => x.1.1) (P := fun x => x.2 = ⟨b, 0, []⟩) w6 (by omega) (fun i hi H' L' R w' k => ?_) (fun D2 ys H7 hD2 hyl hyP w7 => ?_)
 · walk_at "R"
   intro p2 dx2 np2 nd2 ne2
   have w6 := own_new (C := T.b.C_UpperReceiver) w' np2 nd2 ne2
   refine op_UpperReceiver___init__ ⟨p2, dx2, b, B5, rfl, w6.cellsL, fun d H7 w7' => ⟨rfl, ?_⟩⟩
   exact k ((p2, dx2, d), ⟨b, 0, []⟩) H7 rfl (w6.call (lc := [(p2, .ins T.b.C_UpperReceiver dx2 [])]) w7')
 obtain ⟨B7, sB7, hB7, w7⟩ := w7.ice (w6.frS hD2).1
 have w7 := w7.perm (l' := (((p, .ins T.b.C_Anchor dx [("meter", .ref M.p), ("_stay", .int (-1)), ("_senders", .ref D)]) :: mcells T.b.C_Meter M ⟨[], .non, 0, 0, false⟩) ++ xs.flatMap (scl T.b.C_UpperSender)) ++ ys.flatMap (rcl T.b.C_UpperReceiver)) List.perm_append_comm
 have hp7 := w7.mem (p := p) (.head _)
 walk_at "R"
 refine rd_putF hp7 (by exact Nat.le_of_ble_eq_true rfl) rfl ?_
 have w8 : Own H B [p] B7 ((((p, .ins T.b.C_Anchor dx [("meter", .ref M.p), ("_stay", .int (-1)), ("_senders", .ref D), ("_receivers", .ref D2)]) :: mcells T.b.C_Meter M ⟨[], .non, 0, 0, false⟩) ++ xs.flatMap (scl T.b.C_UpperSender)) ++ ys.flatMap (rcl T.b.C_UpperReceiver)) _ := w7.set 0 rfl (.ins T.b.C_Anchor dx [("meter", .ref M.p), ("_stay", .int (-1)), ("_senders", .ref D), ("_receivers", .ref D2)])
 clear w6 w7 hp7
 walk_at "R"
 refine rd_lcW ?_
 walk_at "rd"
 walk_at "rd"
 refine rng1_ok (by omega) ?_
 rw [Int.toNat_natCast]
 refine wl_objs (α := Addr × List Addr) (f := ocl) (p := fun x => x.1) (P := fun x => x.2 = []) w8 (by omega) (fun i hi H' L' R w' k => ?_) (fun D3 zs H9 hD3 hzl hzP w9 => ?_)
 · walk_at "R"
   intro o H10 n10 s10 e10
   exact k (o, []) H10 rfl (w'.add n10 s10 e10)
 obtain ⟨B9, sB9, hB9, w9⟩ := w9.ice (w8.frS hD3).1
 have w9 := w9.perm (l' := ((((p, .ins T.b.C_Anchor dx [("meter", .ref M.p), ("_stay", .int (-1)), ("_senders", .ref D), ("_receivers", .ref D2)]) :: mcells T.b.C_Meter M ⟨[], .non, 0, 0, false⟩) ++ xs.flatMap (scl T.b.C_UpperSender)) ++ ys.flatMap (rcl T.b.C_UpperReceiver)) ++ zs.flatMap ocl) List.perm_append_comm
 have hp9 := w9.mem (p := p) (.head _)
 walk_at "R"
 refine rd_putF hp9 (by exact Nat.le_of_ble_eq_true rfl) rfl ?_
 have w10 : Own H B [p] B9 ((((((p, .ins T.b.C_Anchor dx (AnS.fs ⟨⟨[], .non, 0, 0, false⟩, -1, xs, ys, zs⟩ ⟨p, dx, M, D, D2, D3⟩)) :: mcells T.b.C_Meter M ⟨[], .non, 0, 0, false⟩) ++ xs.flatMap (scl T.b.C_UpperSender)) ++ ys.flatMap (rcl T.b.C_UpperReceiver)) ++ zs.flatMap ocl)) _ := w9.set 0 rfl (.ins T.b.C_Anchor dx (AnS.fs ⟨⟨[], .non, 0, 0, false⟩, -1, xs, ys, zs⟩ ⟨p, dx, M, D, D2, D3⟩))
 rw [List.append_assoc, List.append_assoc] at w10
 have hok : UsOk ⟨b, 0, []⟩ := ⟨hb, .nil, fun n hn => (nomatch hn), Int.le_refl _⟩
 have hok2 : UrOk ⟨b, 0, []⟩ := ⟨hb, List.nodup_nil, fun n hn => (nomatch hn), Int.le_refl _⟩
 refine q B9 ⟨p, dx, M, D, D2, D3⟩ ⟨⟨[], .non, 0, 0, false⟩, -1, xs, ys, zs⟩ _ rfl ⟨rfl, rfl, ⟨hxl, hxP⟩, ⟨hyl, hyP⟩, ⟨hzl, hzP⟩⟩ w10 ⟨sB9 _ _ (sB7 _ _ hB5), sB9 _ _ hB7, hB9, fun x hx => ?_, fun x hx => ?_⟩
 · rw [hxP x hx]
   exact ⟨hok, fun y hy => (nomatch hy)⟩
 · rw [hyP x hx]
   exact ⟨hok2, fun y hy => (nomatch hy)⟩
def UsS.room (s : UsS) : Prop := s.nx - s.base < 2 ^ (s.bits - 1).toNat
def AnS.put (s : AnS) (k : Nat) (x : P3 × UsS) (c : Addr) (ds : List Int) : AnS := { s with S := s.S.set k (x.1, x.2.put c ds), mt := s.mt.ad k 0 ds.length }
theorem set_p {α : Type} {xs : List α} {k : Nat} {x y : α} (h : xs[k]? = some x) (p : α → Addr) (e : p y = p x) : ((xs.set k y).map fun x => V.ref (p x)) = xs.map fun x => V.ref (p x) := by
  rw [List.map_set]
  refine List.ext_getElem? fun i => ?_
  rw [List.getElem?_set]
  split
  · rename_i hi
    subst hi
    rw [List.getElem?_map, h, if_pos (by rw [List.length_map]; exact (List.getElem?_eq_some_iff.mp h).1), e]
    rfl
  · rfl
theorem mem_set {α : Type} {xs : List α} {k : Nat} {y z : α} (h : z ∈ xs.set k y) : z = y ∨ z ∈ xs := (List.mem_or_eq_of_mem_set h).symm
theorem AnB.setS {B : Hp} {A : AnA} {s : AnS} (h : AnB B A s) {k : Nat} {x : P3 × UsS} (hx : s.S[k]? = some x) {y : UsS} (ok : UsOk y) (pk : PkAt B y.pk) (mt : MtS) : AnB B A { s with S := s.S.set k (x.1, y), mt := mt } := ⟨by
  have e := set_p hx (fun x : P3 × UsS => x.1.1) (y := (x.1, y)) rfl
  refine h.sl.trans ?_
  exact congrArg (fun l => some (HO.lst l)) e.symm, h.rl, h.ol, fun z hz => by
  rcases mem_set hz with e | e
  · rw [e]
    exact ⟨ok, pk⟩
  · exact h.so z e, h.ro⟩
theorem anM_at {S B0 B H : Hp} {as : List Addr} {C : AnC} {A : AnA} {s : AnS} {L : List (Addr × HO)} (w : Own S B0 as B (ancells C A s ++ L) H) : Own S B0 as B (mcells C.m A.M s.mt ++ ([(A.p, .ins C.a A.dx (s.fs A))] ++ ((s.S.flatMap (scl C.s) ++ (s.R.flatMap (rcl C.r) ++ s.O.flatMap ocl)) ++ L))) H := by
  refine w.perm ?_
  refine (perm_mid _ [(A.p, HO.ins C.a A.dx (s.fs A))] _).trans ?_
  refine List.Perm.of_eq ?_
  unfold ancells anhead
  simp only [List.append_assoc, List.cons_append, List.nil_append]
theorem anM_back {S B0 B H : Hp} {as : List Addr} {C : AnC} {A : AnA} {s : AnS} {L : List (Addr × HO)} {mt : MtS} (w : Own S B0 as B (mcells C.m A.M mt ++ ([(A.p, .ins C.a A.dx (s.fs A))] ++ ((s.S.flatMap (scl C.s) ++ (s.R.flatMap (rcl C.r) ++ s.O.flatMap ocl)) ++ L))) H) : Own S B0 as B (ancells C A { s with mt := mt } ++ L) H := by
  refine w.perm ?_
  refine List.Perm.trans ?_ (perm_mid [(A.p, HO.ins C.a A.dx (s.fs A))] _ _)
  refine List.Perm.of_eq ?_
  unfold ancells anhead
  simp only [List.append_assoc, List.cons_append, List.nil_append]
  rfl
def sp_Anchor_put (K : PySem.W.Frag) (C : AnC) (N : Addr) : Sp := fun vs H Q E => ∃ (A : AnA) (s : AnS) (k : Nat) (x : P3 × UsS) (a : Addr) (ds : List Int) (B : Hp), vs = [.ref A.p, .int k, .ref a] ∧ Cells H B (ancells C A s) ∧ AnB B A s ∧ s.S[k]? = some x ∧ B a = some (.lst (ds.map V.int)) ∧ ds.length ≤ 10000 ∧ x.2.pk.length ≤ 100000 ∧ s.mt.E.length < 900 ∧
  (pkB ds 196 = false → ∀ H', Same H H' → E (.ref N) none H') ∧
  (pkB ds 196 = true → ¬ x.2.room → ∀ H', Same H H' → Q .non H') ∧
  (pkB ds 196 = true → x.2.room → ∀ (B' H' : Hp) (c t l : Addr), Own H B (anas C A s) B' (ancells C A (s.put k x c ds)) H' → AnB B' A (s.put k x c ds) → H t = none → B' t = some (.tup [.str "down", .int k, .int x.2.nx, .ref l]) → B' l = some (.lst (ds.map V.int)) → Q (.ref t) H')
@[irreducible] def ip_Anchor_put (K : PySem.W.Frag) (C : AnC) (N : Addr) : Sp := sp_Anchor_put K C N
theorem op_Anchor_put {K : PySem.W.Frag} {C : AnC} {N : Addr} : ∀ {vs H Q E}, sp_Anchor_put K C N vs H Q E → ip_Anchor_put K C N vs H Q E := fun h => by unfold ip_Anchor_put; exact h
theorem un_Anchor_put {K : PySem.W.Frag} {C : AnC} {N : Addr} : ∀ {vs H Q E}, ip_Anchor_put K C N vs H Q E → sp_Anchor_put K C N vs H Q E := fun h => by unfold ip_Anchor_put at h; exact h
theorem ok_Anchor_put (T : Tx P w K mg base) : FnOk P w K mg base (L2.CX P w) 5 T.d1.a_Anchor_put T.d1.d_Anchor_put ["self", "bearer", "packet"] (ip_Anchor_put K ⟨T.b.C_Anchor, T.b.C_Meter, T.b.C_UpperSender, T.b.C_UpperReceiver⟩ T.b.C_NotValid) := by
 have G_Meter_add := ok_Meter_add T
 have G_UpperSender_add := ok_UpperSender_add T
 have G_is_packet := ok_is_packet T
 have G_UpperSender_may_add := ok_UpperSender_may_add T
 refine T.d1.p_Anchor_put.F.okX sc_Anchor_put (fun vs H Q E h => ?_) (fun cdv A outer s H vs Q E hr h => ?_)
 · obtain ⟨A, s', k, x, a, ds, B, rfl, c, ab, hx, ha, hl, hpl, hel, q1, q2, q3⟩ := un_Anchor_put h
   rfl
 obtain ⟨A, s', k, x, a, ds, B, rfl, c, ab, hx, ha, hl, hpl, hel, q1, q2, q3⟩ := un_Anchor_put h
 refine ⟨_, (pss_cons (ps_ifM (pt_not (pt_val (pe_call G_is_packet (hr.mono (by decide)) rfl T.d0.p_is_packet.m T.d0.p_is_packet.F.kp T.d0.p_is_packet.b .nil pass0 (pa_cons (pv 2) (pa_cons (pe_gint rfl T.b.g_MOST_BYTES) pa_nil))))) (pss_one (ps_raise rfl (takes_of rfl rfl rfl rfl) (pmk_plain T.x_NotValid (hr.mono (by decide)) rfl))) pss_nil) (pss_cons (ps_ifM (pt_not (pt_val (meth_weak (pe_meth0 (pe_c (pe_ix ix_listM (pe_fldM (pv 0) T.k0.k_Anchor.cl T.k0.f_Anchor__senders) (pv 1) (fun _ _ => rfl))) T.k0.k_UpperSender.cl T.d1.p_UpperSender_may_add.me G_UpperSender_may_add (hr.mono (by decide)) T.d1.p_UpperSender_may_add.b .nil pass0)))) (pss_one (ps_ret pe_non)) pss_nil) (pss_cons (ps_set (i := 3) sc_Anchor_put.nd rfl (Or.inl rfl) (meth_weak (pe_meth (pe_c (pe_ix ix_listM (pe_fldM (pv 0) T.k0.k_Anchor.cl T.k0.f_Anchor__senders) (pv 1) (fun _ _ => rfl))) T.k0.k_UpperSender.cl T.d1.p_UpperSender_add.me G_UpperSender_add (hr.mono (by decide)) T.d1.p_UpperSender_add.b .nil (passes_call (takes_of rfl rfl rfl rfl) (fun _ _ _ _ h => h)) (pa_cons (pv 2) pa_nil)))) (pss_cons (ps_expr (meth_weak (pe_meth (pe_c (pe_fldM (pv 0) T.k0.k_Anchor.cl T.k0.f_Anchor_meter)) T.k0.k_Meter.cl T.d0.p_Meter_add.me G_Meter_add (hr.mono (by decide)) T.d0.p_Meter_add.b .nil pass0 (pa_cons (pv 1) (pa_cons (pe_gint rfl T.b.g_DOWN) (pa_cons (pe_callB call_lenM (by rfl) T.b.n_len PySem.boot_len (pa_cons (pv 2) pa_nil)) pa_nil)))))) (pss_one (ps_ret (pe_tupM (pa_cons pe_str (pa_cons (pv 1) (pa_cons (pv 3) (pa_cons (pe_callTy call_listM (by rfl) T.b.n_list (by decide +kernel) (pa_cons (pv 2) pa_nil)) pa_nil))))))))))), ?_⟩
 have w0 : Own H B (anas _ A s') B (ancells ⟨T.b.C_Anchor, T.b.C_Meter, T.b.C_UpperSender, T.b.C_UpperReceiver⟩ A s') H := c.start
 have hp0 := w0.mem (p := A.p) (.head _)
 have hok := ab.so x (List.mem_of_getElem? hx)
 walk_at "R"
 refine op_is_packet ⟨a, ds, 196, rfl, w0.imm _ _ ha, hl, fun H1 s1 => ?_⟩
 have w1 := w0.more s1
 cases hpb : pkB ds 196 with
 | false =>
   walk_at "R"
   exact q1 hpb H1 s1
 | true =>
 have hp1 := w1.mem (p := A.p) (.head _)
 walk_at "R"
 refine rd_ixL (sq_of (w1.imm _ _ ab.sl)) (ref_at (fun x : P3 × UsS => x.1.1) hx) ?_
 have w1s := anS_at (L := []) (by rw [List.append_nil]; exact w1) hx
 walk_at "R"
 refine op_UpperSender_may_add ⟨x.1.1, x.1.2.1, x.1.2.2, x.2, rfl, w1s.mem (.head _), w1s.mem (.tail _ (.head _)), hok.1, ?_⟩
 walk_at "R"
 refine br_nby (fun h => ?_) (fun h => ?_)
 · walk_at "R"
   exact q2 hpb h H1 s1
 walk_at "R"
 refine rd_ixL (sq_of (w1.imm _ _ ab.sl)) (ref_at (fun x : P3 × UsS => x.1.1) hx) ?_
 walk_at "R"
 refine op_UpperSender_add ⟨x.1.1, x.1.2.1, x.1.2.2, x.2, B, a, ds, rfl, w1s.cellsL, hok.1, sq_of (w1.imm _ _ ha), hpl, fun _ B2 H2 c2 w2' hc2 => ?_, fun z => absurd h z⟩
 have w2 := anS_back (y := (x.1, x.2.put c2 ds)) (w1s.call (lc := scl T.b.C_UpperSender x) w2') (List.getElem?_eq_some_iff.mp hx).1
 have ab2 := (ab.mono w2'.grow).setS hx (hok.1.put c2 ds) ((hok.2.mono w2'.grow).snoc hc2) s'.mt
 have ha2 := w2'.grow _ _ ha
 have hp2 := w2.mem (p := A.p) (.head _)
 walk_at "R"
 have w2m := anM_at w2
 have hlen : 0 < ds.length := by
   unfold pkB at hpb
   rw [Bool.and_eq_true, Bool.and_eq_true] at hpb
   have := of_decide_eq_true hpb.1.1
   omega
 refine op_Meter_add ⟨A.M, s'.mt, k, 0, ds.length, B2, rfl, w2m.cellsL, by omega, by omega, fun B3 H3 w3' => ?_⟩
 have w3 := anM_back (w2m.call (lc := mcells T.b.C_Meter A.M s'.mt) w3')
 rw [List.append_nil] at w3
 have ab3 : AnB B3 A (s'.put k x c2 ds) := (ab.mono (w2'.grow.trans w3'.grow)).setS hx (hok.1.put c2 ds) ((hok.2.mono (w2'.grow.trans w3'.grow)).snoc (w3'.grow _ _ hc2)) _
 walk_at "R"
 refine rd_list (sq_of (w3.imm _ _ (w3'.grow _ _ ha2))) ?_
 intro l H4 n4 s4 e4
 obtain ⟨B4, sB4, hB4, _, w4⟩ := w3.ro n4 s4 e4
 walk_at "R"
 intro t H5 n5 s5 e5
 obtain ⟨B5, sB5, hB5, _, w5⟩ := w4.ro n5 s5 e5
 exact q3 hpb h B5 H5 c2 t l w5 (ab3.mono (sB4.trans sB5)) (w4.frS n5).1 hB5 (sB5 _ _ hB4)
/-- an anchor stands in a heap, to be read -/
structure AnAt (C : AnC) (A : AnA) (s : AnS) (H : Hp) : Prop where
  p : H A.p = some (.ins C.a A.dx (s.fs A))
  mp : H A.M.p = some (.ins C.m A.M.dx (s.mt.fs A.M))
  ms : H A.M.sd = some (.dT (s.mt.E.map kvT))
  ss : ∀ x ∈ s.S, H x.1.1 = some (.ins C.s x.1.2.1 (x.2.fs x.1.2.2)) ∧ H x.1.2.2 = some (.dK (pkK x.2.pk))
  oo : ∀ x ∈ s.O, H x.1 = some (.lst (x.2.map V.ref))
  b : AnB H A s
theorem AnAt.mono {C : AnC} {A : AnA} {s : AnS} {H H' : Hp} (h : AnAt C A s H) (e : Same H H') : AnAt C A s H' := ⟨e _ _ h.p, e _ _ h.mp, e _ _ h.ms, fun x hx => ⟨e _ _ (h.ss x hx).1, e _ _ (h.ss x hx).2⟩, fun x hx => e _ _ (h.oo x hx), h.b.mono e⟩
theorem AnAt.of {S B0 B H : Hp} {as : List Addr} {C : AnC} {A : AnA} {s : AnS} {L : List (Addr × HO)} (w : Own S B0 as B (ancells C A s ++ L) H) (ab : AnB B A s) : AnAt C A s H := ⟨w.mem (.head _), w.mem (.tail _ (.head _)), w.mem (.tail _ (.tail _ (.head _))), fun x hx => by
  obtain ⟨k, hk⟩ := List.getElem?_of_mem hx
  have w2 := anS_at w hk
  exact ⟨w2.mem (.head _), w2.mem (.tail _ (.head _))⟩, fun x hx => by
  obtain ⟨k, hk⟩ := List.getElem?_of_mem hx
  exact (anO_at w hk).mem (.head _), ab.mono w.imm⟩
def sp_Anchor_unconfirmed (K : PySem.W.Frag) (C : AnC) : Sp := fun vs H Q _ => ∃ (A : AnA) (s : AnS) (k : Nat) (x : P3 × UsS), vs = [.ref A.p, .int k] ∧ AnAt C A s H ∧ s.S[k]? = some x ∧ x.2.pk.length ≤ 1000 ∧ ∀ (D : Addr) (ts qs : List Addr) (H' : Hp), H D = none → IO H D ts qs (pkX x.2.pk) H' → Q (.ref D) H'
@[irreducible] def ip_Anchor_unconfirmed (K : PySem.W.Frag) (C : AnC) : Sp := sp_Anchor_unconfirmed K C
theorem op_Anchor_unconfirmed {K : PySem.W.Frag} {C : AnC} : ∀ {vs H Q E}, sp_Anchor_unconfirmed K C vs H Q E → ip_Anchor_unconfirmed K C vs H Q E := fun h => by unfold ip_Anchor_unconfirmed; exact h
theorem un_Anchor_unconfirmed {K : PySem.W.Frag} {C : AnC} : ∀ {vs H Q E}, ip_Anchor_unconfirmed K C vs H Q E → sp_Anchor_unconfirmed K C vs H Q E := fun h => by unfold ip_Anchor_unconfirmed at h; exact h
theorem ok_Anchor_unconfirmed (T : Tx P w K mg base) : FnOk P w K mg base CX0 3 T.d2.a_Anchor_unconfirmed T.d2.d_Anchor_unconfirmed ["self", "bearer"] (ip_Anchor_unconfirmed K ⟨T.b.C_Anchor, T.b.C_Meter, T.b.C_UpperSender, T.b.C_UpperReceiver⟩) := by
 have G_UpperSender_unconfirmed := ok_UpperSender_unconfirmed T
 refine T.d2.p_Anchor_unconfirmed.F.ok sc_Anchor_unconfirmed (fun vs H Q E h => ?_) (fun cdv A outer s H vs Q E hr h => ?_)
 · obtain ⟨A, s', k, x, rfl, ra, hx, hl, q⟩ := un_Anchor_unconfirmed h
   rfl
 obtain ⟨A, s', k, x, rfl, ra, hx, hl, q⟩ := un_Anchor_unconfirmed h
 refine ⟨_, (pss_one (ps_ret (meth_weak (pe_meth0 (pe_c (pe_ix ix_listM (pe_fldM (pv 0) T.k0.k_Anchor.cl T.k0.f_Anchor__senders) (pv 1) (fun _ _ => rfl))) T.k0.k_UpperSender.cl T.d1.p_UpperSender_unconfirmed.me G_UpperSender_unconfirmed (hr.mono (by decide)) T.d1.p_UpperSender_unconfirmed.b .nil pass0)))), ?_⟩
 have hp0 := ra.p
 have hxm := List.mem_of_getElem? hx
 walk_at "R"
 refine rd_ixL (sq_of ra.b.sl) (ref_at (fun x : P3 × UsS => x.1.1) hx) ?_
 have hs1 : H x.1.1 = some (.ins T.b.C_UpperSender x.1.2.1 (x.2.fs x.1.2.2)) := (ra.ss x hxm).1
 walk_at "R"
 refine op_UpperSender_unconfirmed ⟨x.1.1, x.1.2.1, x.1.2.2, x.2, rfl, hs1, (ra.ss x hxm).2, (ra.b.so x hxm).1, (ra.b.so x hxm).2, hl, fun D ts qs H' hD w => ?_⟩
 exact q D ts qs H' hD w
def sp_Anchor_out (K : PySem.W.Frag) (C : AnC) : Sp := fun vs H Q _ => ∃ (A : AnA) (s : AnS) (k : Nat) (o : Addr × List Addr) (xss : List (List Int)), vs = [.ref A.p, .int k] ∧ AnAt C A s H ∧ s.O[k]? = some o ∧ LLs H o.2 xss ∧ xss.length ≤ 10000 ∧ ∀ (D : Addr) (qs : List Addr) (H' : Hp), H D = none → Cpy H D qs xss H' → Q (.ref D) H'
@[irreducible] def ip_Anchor_out (K : PySem.W.Frag) (C : AnC) : Sp := sp_Anchor_out K C
theorem op_Anchor_out {K : PySem.W.Frag} {C : AnC} : ∀ {vs H Q E}, sp_Anchor_out K C vs H Q E → ip_Anchor_out K C vs H Q E := fun h => by unfold ip_Anchor_out; exact h
theorem un_Anchor_out {K : PySem.W.Frag} {C : AnC} : ∀ {vs H Q E}, ip_Anchor_out K C vs H Q E → sp_Anchor_out K C vs H Q E := fun h => by unfold ip_Anchor_out at h; exact h
theorem ok_Anchor_out (T : Tx P w K mg base) : FnOk P w K mg base CX0 1 T.d2.a_Anchor_out T.d2.d_Anchor_out ["self", "bearer"] (ip_Anchor_out K ⟨T.b.C_Anchor, T.b.C_Meter, T.b.C_UpperSender, T.b.C_UpperReceiver⟩) := by
 refine T.d2.p_Anchor_out.F.ok sc_Anchor_out (fun vs H Q E h => ?_) (fun cdv A outer s H vs Q E hr h => ?_)
 · obtain ⟨A, s', k, o, xss, rfl, ra, ho, hls, hl, q⟩ := un_Anchor_out h
   rfl
 obtain ⟨A, s', k, o, xss, rfl, ra, ho, hls, hl, q⟩ := un_Anchor_out h
 refine ⟨_, (pss_one (ps_ret (pe_lcW (own := [("packet", 2)]) (g := (gName 2)) [2] im_list rfl sc_Anchor_out.nd (pi_list (pe_c (pe_ix ix_listM (pe_fldM (pv 0) T.k0.k_Anchor.cl T.k0.f_Anchor__out) (pv 1) (fun _ _ => rfl)))) (blkOk_by (own := [("packet", 2)]) (N := ["self", "bearer", "packet"]) (sc := defScope S_Anchor_out) (by decide +kernel)) (fun _ _ _ _ _ => (pg_name (i := 2) sc_Anchor_out.nd rfl (Or.inl rfl))) (fun _ _ _ _ _ => pts_nil) (fun _ _ _ _ _ => (pe_callTy (call_listK (K := K) rfl) (by rfl) T.b.n_list (by decide +kernel) (pa_cons (pv 2) pa_nil)))))), ?_⟩
 have hp0 := ra.p
 have hom := List.mem_of_getElem? ho
 have hol := hls.len
 walk_at "R"
 refine rd_lcW ?_
 walk_at "R"
 refine rd_ixL (sq_of ra.b.ol) (ref_at (fun x : Addr × List Addr => x.1) ho) ?_
 walk_at "R"
 refine ⟨⟨_, sq_of (ra.oo o hom)⟩, ?_⟩
 refine wl_copy _ xss (sq_of (ra.oo o hom)) (by rw [List.length_map]; exact hol) (by rw [List.length_map]; omega) (fun i y x hy hx H' R s k => ?_) (fun D qs H1 hD cp => ?_)
 · rw [List.getElem?_map] at hy
   obtain ⟨b, hb, rfl⟩ := Option.map_eq_some_iff.mp hy
   obtain ⟨x2, hx2, e2⟩ := hls.at hb
   rw [hx] at hx2
   cases hx2
   walk_at "R"
   refine rd_list (sq_of (s _ _ e2)) ?_
   exact k
 exact q D qs H1 hD cp
def AnS.give (s : AnS) (k : Nat) (o : Addr × List Addr) (cs : List Addr) (xs : List (List Int)) : AnS := { s with O := s.O.set k (o.1, o.2 ++ cs), mt := s.mt.adL k 1 xs }
theorem AnB.setO {B : Hp} {A : AnA} {s : AnS} (h : AnB B A s) {k : Nat} {o : Addr × List Addr} (ho : s.O[k]? = some o) (cs : List Addr) (mt : MtS) : AnB B A { s with O := s.O.set k (o.1, cs), mt := mt } := ⟨h.sl, h.rl, by
  have e := set_p ho (fun x : Addr × List Addr => x.1) (y := (o.1, cs)) rfl
  refine h.ol.trans ?_
  exact congrArg (fun l => some (HO.lst l)) e.symm, h.so, h.ro⟩
theorem set_self {α : Type} {xs : List α} {k : Nat} {x : α} (h : xs[k]? = some x) : xs.set k x = xs := by
  refine List.ext_getElem? fun i => ?_
  rw [List.getElem?_set]
  split
  · rename_i hi
    subst hi
    rw [if_pos (List.getElem?_eq_some_iff.mp h).1, h]
  · rfl
def sp_Anchor__give_out (K : PySem.W.Frag) (C : AnC) : Sp := fun vs H Q _ => ∃ (A : AnA) (s : AnS) (k : Nat) (o : Addr × List Addr) (D : Addr) (gs : List Addr) (xs : List (List Int)) (B : Hp), vs = [.ref A.p, .int k, .ref D] ∧ Cells H B (ancells C A s) ∧ AnB B A s ∧ MtOk s.mt ∧ s.O[k]? = some o ∧ B D = some (.lst (gs.map V.ref)) ∧ LLs B gs xs ∧ o.2.length + gs.length ≤ 100000 ∧ k < 10 ∧
  ∀ (B' H' : Hp) (cs : List Addr), Own H B (anas C A s) B' (ancells C A (s.give k o cs xs)) H' → AnB B' A (s.give k o cs xs) → LLs B' cs xs → Q (.ref D) H'
@[irreducible] def ip_Anchor__give_out (K : PySem.W.Frag) (C : AnC) : Sp := sp_Anchor__give_out K C
theorem op_Anchor__give_out {K : PySem.W.Frag} {C : AnC} : ∀ {vs H Q E}, sp_Anchor__give_out K C vs H Q E → ip_Anchor__give_out K C vs H Q E := fun h => by unfold ip_Anchor__give_out; exact h
theorem un_Anchor__give_out {K : PySem.W.Frag} {C : AnC} : ∀ {vs H Q E}, ip_Anchor__give_out K C vs H Q E → sp_Anchor__give_out K C vs H Q E := fun h => by unfold ip_Anchor__give_out at h; exact h
theorem ok_Anchor__give_out (T : Tx P w K mg base) : FnOk P w K mg base CX0 3 T.d2.a_Anchor__give_out T.d2.d_Anchor__give_out ["self", "bearer", "packets"] (ip_Anchor__give_out K ⟨T.b.C_Anchor, T.b.C_Meter, T.b.C_UpperSender, T.b.C_UpperReceiver⟩) := by
 have G_Meter_add := ok_Meter_add T
 refine T.d2.p_Anchor__give_out.F.ok sc_Anchor__give_out (fun vs H Q E h => ?_) (fun cdv A outer s H vs Q E hr h => ?_)
 · obtain ⟨A, s', k, o, D, gs, xs, B, rfl, c, ab, mo, ho, hD, hg, hl, hk10, q⟩ := un_Anchor__give_out h
   rfl
 obtain ⟨A, s', k, o, D, gs, xs, B, rfl, c, ab, mo, ho, hD, hg, hl, hk10, q⟩ := un_Anchor__give_out h
 refine ⟨_, (pss_cons (ps_forL PassesOwn.never rfl (pv 2) (pg_name (i := 3) sc_Anchor__give_out.nd rfl (Or.inl rfl)) (pss_cons (ps_expr (meth_weak (pe_meth (pe_c (pe_fldM (pv 0) T.k0.k_Anchor.cl T.k0.f_Anchor_meter)) T.k0.k_Meter.cl T.d0.p_Meter_add.me G_Meter_add (hr.mono (by decide)) T.d0.p_Meter_add.b .nil pass0 (pa_cons (pv 1) (pa_cons (pe_gint rfl T.b.g_UP) (pa_cons (pe_callB call_lenM (by rfl) T.b.n_len PySem.boot_len (pa_cons (pv 3) pa_nil)) pa_nil)))))) (pss_one (ps_expr (pe_app (pe_ix ix_listM (pe_fldM (pv 0) T.k0.k_Anchor.cl T.k0.f_Anchor__out) (pv 1) (fun _ _ => rfl)) (pe_callTy call_listM (by rfl) T.b.n_list (by decide +kernel) (pa_cons (pv 3) pa_nil))))))) (pss_one (ps_ret (pv 2)))), ?_⟩
 have w0 : Own H B (anas _ A s') B (ancells ⟨T.b.C_Anchor, T.b.C_Meter, T.b.C_UpperSender, T.b.C_UpperReceiver⟩ A s') H := c.start
 have hk : k < s'.O.length := (List.getElem?_eq_some_iff.mp ho).1
 refine rd_forL ?_
 walk_at "R"
 have e0 : s'.give k o [] (xs.take 0) = s' := by
   unfold AnS.give
   rw [List.append_nil, set_self ho]
   rfl
 refine ⟨D, gs.map V.ref, fun i σ H' => Stop (∃ (B2 : Hp) (cs : List Addr) (y : Option V), Own H B (anas _ A s') B2 (ancells ⟨T.b.C_Anchor, T.b.C_Meter, T.b.C_UpperSender, T.b.C_UpperReceiver⟩ A (s'.give k o cs (xs.take i))) H' ∧ LLs B2 cs (xs.take i) ∧ Same B B2 ∧ σ = [some (.ref A.p), some (.int k), some (.ref D), y]), rfl, sq_of (w0.imm _ _ hD), .a ⟨B, [], _, by rw [e0]; exact w0, .nil, Same.refl _, rfl⟩, fun i σ' H' hi w => ?_, fun i y σ' H' hi w => ?_, fun σ' H' w => ?_⟩
 · obtain ⟨B2, cs, y, w2, hc2, sB2, _⟩ := w.un
   exact sq_of (w2.imm _ _ (sB2 _ _ hD))
 · obtain ⟨B2, cs, y0, w2, hc2, sB2, rfl⟩ := w.un
   rw [List.getElem?_map] at hi
   obtain ⟨g, hgi, rfl⟩ := Option.map_eq_some_iff.mp hi
   obtain ⟨x, hx, hgx⟩ := hg.at hgi
   have hil := (List.getElem?_eq_some_iff.mp hgi).1
   have hg2 := sB2 _ _ hgx
   have hcl := hc2.len
   rw [List.length_take] at hcl
   have mo2 : MtOk (s'.give k o cs (xs.take i)).mt := MtOk.adL (by omega) (by omega) _ mo
   have hp2 := w2.mem (p := A.p) (.head _)
   have w2m := anM_at (L := []) (by rw [List.append_nil]; exact w2)
   have hml := mo2.len
   walk_at "R"
   refine op_Meter_add ⟨A.M, _, k, 1, x.length, B2, rfl, w2m.cellsL, by omega, by omega, fun B3 H3 w3' => ?_⟩
   have w3 := anM_back (w2m.call (lc := mcells T.b.C_Meter A.M (s'.give k o cs (xs.take i)).mt) w3')
   rw [List.append_nil] at w3
   have hp3 := w3.mem (p := A.p) (.head _)
   have sB3 := w3'.grow
   have hO3 : ((s'.give k o cs (xs.take i)).O)[k]? = some (o.1, o.2 ++ cs) := by
     show (s'.O.set k _)[k]? = _
     rw [List.getElem?_set, if_pos rfl, if_pos hk]
   have hol : B3 A.ol = some (.lst (((s'.give k o cs (xs.take i)).O).map fun x => V.ref x.1)) := sB3 _ _ (((ab.mono sB2).setO ho (o.2 ++ cs) (s'.give k o cs (xs.take i)).mt).ol)
   walk_at "R"
   refine rd_ixL (sq_of (w3.imm _ _ hol)) (ref_at (fun x : Addr × List Addr => x.1) hO3) ?_
   have w3o := anO_at (L := []) (s := { s'.give k o cs (xs.take i) with mt := (s'.give k o cs (xs.take i)).mt.ad k 1 x.length }) (by rw [List.append_nil]; exact w3) hO3
   have hoc := w3o.mem (.head _)
   walk_at "R"
   refine rd_list (sq_of (w3o.imm _ _ (sB3 _ _ hg2))) ?_
   intro c4 H4 n4 s4 e4
   obtain ⟨B4, sB4, hB4, _, w4⟩ := w3o.ro n4 s4 e4
   refine rd_app (w4.mem (.head _)) (by rw [List.length_map, List.length_append]; omega) ?_
   have w5 := w4.set 0 rfl (.lst ((o.2 ++ cs).map V.ref ++ [.ref c4]))
   have e5 : (o.2 ++ cs).map V.ref ++ [V.ref c4] = (o.2 ++ (cs ++ [c4])).map V.ref := by
     rw [← List.append_assoc, List.map_append (l₁ := o.2 ++ cs)]
     rfl
   rw [e5] at w5 ⊢
   have w6 := anO_back (y := (o.1, o.2 ++ (cs ++ [c4]))) w5 (by show k < (s'.O.set k _).length; rw [List.length_set]; exact hk)
   have es : s'.give k o (cs ++ [c4]) (xs.take (i + 1)) = { s'.give k o cs (xs.take i) with mt := (s'.give k o cs (xs.take i)).mt.ad k 1 x.length, O := (s'.give k o cs (xs.take i)).O.set k (o.1, o.2 ++ (cs ++ [c4])) } := by
     unfold AnS.give
     rw [take_snoc hx, MtS.adL_snoc]
     dsimp only
     rw [List.set_set]
   rw [List.append_nil] at w6
   refine .a ⟨B4, cs ++ [c4], _, by rw [es]; exact w6, ?_, sB2.trans (sB3.trans sB4), rfl⟩
   rw [take_snoc hx]
   exact (hc2.mono (sB3.trans sB4)).snoc hB4
 · obtain ⟨B2, cs, y, w2, hc2, sB2, rfl⟩ := w.un
   rw [List.length_map, hg.len, List.take_length] at w2 hc2
   walk_at "R"
   exact q B2 H' cs w2 ((ab.mono sB2).setO ho _ _) hc2
theorem UrQ.take_len (s : UrQ) (n : Int) (x : List Int) : (s.take n x).2.length + (s.take n x).1.K.length ≤ s.K.length + 1 := by
  unfold UrQ.take
  split
  · show 0 + s.K.length ≤ _
    omega
  · have := (clsU_sum (s.K.length + 1) (s.K ++ [(n, x)]) s.first).1
    rw [List.length_append, List.length_singleton] at this
    exact this
def AnS.up (s : AnS) (k : Nat) (x : P3 × UrS) (r : UrS) (o : Addr × List Addr) (cs : List Addr) (xs : List (List Int)) : AnS := { s with R := s.R.set k (x.1, r), O := s.O.set k (o.1, o.2 ++ cs), mt := s.mt.adL k 1 xs }
theorem AnB.setR {B : Hp} {A : AnA} {s : AnS} (h : AnB B A s) {k : Nat} {x : P3 × UrS} (hx : s.R[k]? = some x) {y : UrS} (ok : UrOk y) (pk : PkAt B y.pk) : AnB B A { s with R := s.R.set k (x.1, y) } := ⟨h.sl, by
  have e := set_p hx (fun x : P3 × UrS => x.1.1) (y := (x.1, y)) rfl
  refine h.rl.trans ?_
  exact congrArg (fun l => some (HO.lst l)) e.symm, h.ol, h.so, fun z hz => by
  rcases mem_set hz with e | e
  · rw [e]
    exact ⟨ok, pk⟩
  · exact h.ro z e⟩
def sp_Anchor_take_letter (K : PySem.W.Frag) (C : AnC) : Sp := fun vs H Q _ => ∃ (A : AnA) (s : AnS) (lt : Addr) (st : Int) (B : Hp), vs = [.ref A.p, .ref lt, .int st] ∧ Cells H B (ancells C A s) ∧ AnB B A s ∧ MtOk s.mt ∧
  ((∃ (k : Nat) (c : Int) (a : Addr) (ds : List Int) (x : P3 × UrS) (o : Addr × List Addr), B lt = some (.tup [.str "up", .int k, .int c, .ref a]) ∧ B a = some (.lst (ds.map V.int)) ∧ s.R[k]? = some x ∧ s.O[k]? = some o ∧ x.2.pk.length ≤ 10000 ∧ o.2.length ≤ 50000 ∧ k < 10 ∧
    ∀ (B' H' : Hp) (D : Addr) (gs cs : List Addr) (r : UrS), r.q = (x.2.q.take c ds).1 → Own H B (anas C A s) B' (ancells C A (s.up k x r o cs (x.2.q.take c ds).2)) H' → AnB B' A (s.up k x r o cs (x.2.q.take c ds).2) → LLs B' cs (x.2.q.take c ds).2 → B' D = some (.lst (gs.map V.ref)) → LLs B' gs (x.2.q.take c ds).2 → Q (.ref D) H') ∨
   (∃ (k : Nat) (c : Int) (x : P3 × UsS), B lt = some (.tup [.str "confirmed", .int k, .int c]) ∧ s.S[k]? = some x ∧
    ∀ (B' H' : Hp) (D : Addr), Own H B (anas C A s) B' (ancells C A (if st = s.stay then { s with S := s.S.set k (x.1, x.2.keep fun z => !decide (z = c)) } else s)) H' → AnB B' A (if st = s.stay then { s with S := s.S.set k (x.1, x.2.keep fun z => !decide (z = c)) } else s) → B' D = some (.lst []) → Q (.ref D) H'))
@[irreducible] def ip_Anchor_take_letter (K : PySem.W.Frag) (C : AnC) : Sp := sp_Anchor_take_letter K C
theorem op_Anchor_take_letter {K : PySem.W.Frag} {C : AnC} : ∀ {vs H Q E}, sp_Anchor_take_letter K C vs H Q E → ip_Anchor_take_letter K C vs H Q E := fun h => by unfold ip_Anchor_take_letter; exact h
theorem un_Anchor_take_letter {K : PySem.W.Frag} {C : AnC} : ∀ {vs H Q E}, ip_Anchor_take_letter K C vs H Q E → sp_Anchor_take_letter K C vs H Q E := fun h => by unfold ip_Anchor_take_letter at h; exact h
theorem ok_Anchor_take_letter (T : Tx P w K mg base) : FnOk P w K mg base CX0 4 T.d2.a_Anchor_take_letter T.d2.d_Anchor_take_letter ["self", "letter", "stay"] (ip_Anchor_take_letter K ⟨T.b.C_Anchor, T.b.C_Meter, T.b.C_UpperSender, T.b.C_UpperReceiver⟩) := by
 have G_Anchor__give_out := ok_Anchor__give_out T
 have G_UpperSender_confirm := ok_UpperSender_confirm T
 have G_UpperReceiver_take_count := ok_UpperReceiver_take_count T
 refine T.d2.p_Anchor_take_letter.F.ok sc_Anchor_take_letter (fun vs H Q E h => ?_) (fun cdv A outer s H vs Q E hr h => ?_)
 · obtain ⟨A, s', lt, st, B, rfl, c, ab, mo, h2⟩ := un_Anchor_take_letter h
   rfl
 obtain ⟨A, s', lt, st, B, rfl, c, ab, mo, h2⟩ := un_Anchor_take_letter h
 refine ⟨_, (pss_cons (ps_ifM (pt_cmpR op_eq (pe_ix ix_tupM (pv 1) pe_int (fun _ _ => rfl)) pe_str (nomark _)) (pss_cons (ps_asg (pv 1) (pg_tup rfl (pgs_cons (pg_name (i := 3) sc_Anchor_take_letter.nd rfl (Or.inl rfl)) (pgs_cons (pg_name (i := 4) sc_Anchor_take_letter.nd rfl (Or.inl rfl)) (pgs_cons (pg_name (i := 5) sc_Anchor_take_letter.nd rfl (Or.inl rfl)) (pgs_cons (pg_name (i := 6) sc_Anchor_take_letter.nd rfl (Or.inl rfl)) pgs_nil)))))) (pss_one (ps_ret (meth_weak (pe_meth (pe_c (pv 0)) T.k0.k_Anchor.cl T.d2.p_Anchor__give_out.me G_Anchor__give_out (hr.mono (by decide)) T.d2.p_Anchor__give_out.b .nil pass0 (pa_cons (pv 4) (pa_cons (meth_weak (pe_meth (pe_c (pe_ix ix_listM (pe_fldM (pv 0) T.k0.k_Anchor.cl T.k0.f_Anchor__receivers) (pv 4) (fun _ _ => rfl))) T.k0.k_UpperReceiver.cl T.d1.p_UpperReceiver_take_count.me G_UpperReceiver_take_count (hr.mono (by decide)) T.d1.p_UpperReceiver_take_count.b .nil pass0 (pa_cons (pv 5) (pa_cons (pv 6) pa_nil)))) pa_nil))))))) pss_nil) (pss_cons (ps_ifM (pt_cmpR op_eq (pv 2) (pe_fldM (pv 0) T.k0.k_Anchor.cl T.k0.f_Anchor__stay) (nomark _)) (pss_cons (ps_asg (pv 1) (pg_tup rfl (pgs_cons (pg_name (i := 3) sc_Anchor_take_letter.nd rfl (Or.inl rfl)) (pgs_cons (pg_name (i := 4) sc_Anchor_take_letter.nd rfl (Or.inl rfl)) (pgs_cons (pg_name (i := 5) sc_Anchor_take_letter.nd rfl (Or.inl rfl)) pgs_nil))))) (pss_one (ps_expr (meth_weak (pe_meth (pe_c (pe_ix ix_listM (pe_fldM (pv 0) T.k0.k_Anchor.cl T.k0.f_Anchor__senders) (pv 4) (fun _ _ => rfl))) T.k0.k_UpperSender.cl T.d1.p_UpperSender_confirm.me G_UpperSender_confirm (hr.mono (by decide)) T.d1.p_UpperSender_confirm.b .nil pass0 (pa_cons (pv 5) pa_nil)))))) pss_nil) (pss_one (ps_ret (pe_lstM pa_nil))))), ?_⟩
 have w0 : Own H B (anas _ A s') B (ancells ⟨T.b.C_Anchor, T.b.C_Meter, T.b.C_UpperSender, T.b.C_UpperReceiver⟩ A s') H := c.start
 have hp0 := w0.mem (p := A.p) (.head _)
 rcases h2 with ⟨k, c1, a, ds, x, o, hlt, ha, hx, ho, hpl, hol, hk, q⟩ | ⟨k, c1, x, hlt, hx, q⟩
 · have hlt0 := w0.imm _ _ hlt
   have hro := ab.ro x (List.mem_of_getElem? hx)
   walk_at "R"
   refine rd_ixT (st_of hlt0) rfl ?_
   walk_at "R"
   refine br_t rfl ?_
   walk_at "R"
   refine ⟨lt, _, rfl, st_of hlt0, rfl, _, _, rfl, _, _, rfl, _, _, rfl, _, _, rfl, rfl, ?_⟩
   have w0r := anR_at (L := []) (by rw [List.append_nil]; exact w0) hx
   have hrp := w0r.mem (p := x.1.1) (.head _)
   walk_at "R"
   refine rd_ixL (sq_of (w0.imm _ _ ab.rl)) (ref_at (fun x : P3 × UrS => x.1.1) hx) ?_
   walk_at "R"
   refine op_UpperReceiver_take_count ⟨x.1.1, x.1.2.1, x.1.2.2, x.2, B, c1, a, ds, rfl, w0r.cellsL, hro.1, hro.2, sq_of (w0.imm _ _ ha), hpl, fun B2 H2 D2 gs2 r2 w2' hq2 hpk2 nD2 hD2 hg2 => ?_⟩
   have hok2 : UrOk r2 := hro.1.take hq2
   have w2 := anR_back (y := (x.1, r2)) (w0r.call (lc := rcl T.b.C_UpperReceiver x) w2') (List.getElem?_eq_some_iff.mp hx).1
   rw [List.append_nil] at w2
   have ab2 := (ab.mono w2'.grow).setR hx hok2 hpk2
   have hgl := hg2.len
   have htl := UrQ.take_len x.2.q c1 ds
   have hqk : x.2.q.K.length = x.2.pk.length := by
     show (pkX x.2.pk).length = _
     unfold pkX
     exact List.length_map ..
   refine op_Anchor__give_out ⟨A, _, k, o, D2, gs2, _, B2, rfl, w2.c, ab2, mo, ho, hD2, hg2, by omega, hk, fun B3 H3 cs3 w3' ab3 hc3 => ?_⟩
   exact q B3 H3 D2 gs2 cs3 r2 hq2 (w2.call0 w3') ab3 hc3 (w3'.grow _ _ hD2) (hg2.mono w3'.grow)
 · have hlt0 := w0.imm _ _ hlt
   have hso := ab.so x (List.mem_of_getElem? hx)
   walk_at "R"
   refine rd_ixT (st_of hlt0) rfl ?_
   walk_at "R"
   refine br_f (by decide) ?_
   walk_at "R"
   refine br_eby (fun hst => ?_) (fun hst => ?_)
   · rw [if_pos hst] at q
     walk_at "R"
     refine ⟨lt, _, rfl, st_of hlt0, rfl, _, _, rfl, _, _, rfl, _, _, rfl, rfl, ?_⟩
     have w0s := anS_at (L := []) (by rw [List.append_nil]; exact w0) hx
     have hsp := w0s.mem (p := x.1.1) (.head _)
     walk_at "R"
     refine rd_ixL (sq_of (w0.imm _ _ ab.sl)) (ref_at (fun x : P3 × UsS => x.1.1) hx) ?_
     walk_at "R"
     refine op_UpperSender_confirm ⟨x.1.1, x.1.2.1, x.1.2.2, x.2, B, c1, rfl, w0s.cellsL, fun H2 w2' => ?_⟩
     have w2 := anS_back (y := (x.1, x.2.keep fun z => !decide (z = c1))) (w0s.call (lc := scl T.b.C_UpperSender x) w2') (List.getElem?_eq_some_iff.mp hx).1
     rw [List.append_nil] at w2
     have ab2 := ab.setS hx (hso.1.keep fun z => !decide (z = c1)) (hso.2.filter _) s'.mt
     walk_at "R"
     intro D H3 n3 s3 e3
     obtain ⟨B3, sB3, hB3, _, w3⟩ := w2.ro n3 s3 e3
     exact q B3 H3 D w3 (ab2.mono sB3) hB3
   · rw [if_neg hst] at q
     walk_at "R"
     intro D H3 n3 s3 e3
     obtain ⟨B3, sB3, hB3, _, w3⟩ := w0.ro n3 s3 e3
     exact q B3 H3 D w3 (ab.mono sB3) hB3
/-- reports: a first missing count, and later ones -/
structure RepsAt (B : Hp) (ts : List Addr) (F : List (Int × List Int)) : Prop where
  ln : ts.length = F.length
  at' : ∀ (i : Nat) (t : Addr) (y : Int × List Int), ts[i]? = some t → F[i]? = some y → ∃ la, B t = some (.tup [.int y.1, .ref la]) ∧ B la = some (.lst (y.2.map V.int))
theorem RepsAt.mono {B B' : Hp} {ts : List Addr} {F : List (Int × List Int)} (h : RepsAt B ts F) (s : Same B B') : RepsAt B' ts F := ⟨h.ln, fun i t y h1 h2 => by
  obtain ⟨la, h3, h4⟩ := h.at' i t y h1 h2
  exact ⟨la, s _ _ h3, s _ _ h4⟩⟩
/-- letters with a packet -/
structure LtsAt (w : Str) (B : Hp) (ts : List Addr) (L : List (Int × Int × List Int)) : Prop where
  ln : ts.length = L.length
  at' : ∀ (i : Nat) (t : Addr) (y : Int × Int × List Int), ts[i]? = some t → L[i]? = some y → ∃ q, B t = some (.tup [.str w, .int y.1, .int y.2.1, .ref q]) ∧ B q = some (.lst (y.2.2.map V.int))
theorem LtsAt.mono {w : Str} {B B' : Hp} {ts : List Addr} {L : List (Int × Int × List Int)} (h : LtsAt w B ts L) (s : Same B B') : LtsAt w B' ts L := ⟨h.ln, fun i t y h1 h2 => by
  obtain ⟨la, h3, h4⟩ := h.at' i t y h1 h2
  exact ⟨la, s _ _ h3, s _ _ h4⟩⟩
theorem LtsAt.app {w : Str} {B : Hp} {ts us : List Addr} {L M : List (Int × Int × List Int)} (h : LtsAt w B ts L) (k : LtsAt w B us M) : LtsAt w B (ts ++ us) (L ++ M) := ⟨by rw [List.length_append, List.length_append, h.ln, k.ln], fun i t y h1 h2 => by
  by_cases hi : i < ts.length
  · rw [List.getElem?_append_left hi] at h1
    rw [List.getElem?_append_left (h.ln ▸ hi)] at h2
    exact h.at' i t y h1 h2
  · rw [List.getElem?_append_right (by omega)] at h1
    rw [List.getElem?_append_right (by rw [← h.ln]; omega), ← h.ln] at h2
    exact k.at' _ t y h1 h2⟩
theorem IOs.at' {H : Hp} {ts qs : List Addr} {k : KX} (h : IOs H ts qs k) : ∀ {i : Nat} {t : Addr}, ts[i]? = some t → ∃ c q x, qs[i]? = some q ∧ k[i]? = some (c, x) ∧ H t = some (.tup [.int c, .ref q]) ∧ H q = some (.lst (x.map V.int)) := by
  induction h with
  | nil => exact fun h => (nomatch h)
  | cons h h2 _ ih =>
    intro i t ht
    cases i with
    | zero =>
      cases ht
      exact ⟨_, _, _, rfl, rfl, h, h2⟩
    | succ i => exact ih ht
def kLets (k : Int) (K : KX) : List (Int × Int × List Int) := K.map fun z => (k, z.1, z.2)
def letsF : Int → List (P3 × UsS) → List (Int × Int × List Int)
  | _, [] => []
  | k, x :: r => kLets k (pkX x.2.pk) ++ letsF (k + 1) r
theorem letsF_snoc : ∀ (l : List (P3 × UsS)) (k : Int) (x : P3 × UsS), letsF k (l ++ [x]) = letsF k l ++ kLets (k + l.length) (pkX x.2.pk)
  | [], k, x => by
    show kLets k _ ++ [] = [] ++ kLets (k + (0 : Nat)) _
    rw [List.append_nil, List.nil_append]
    congr 1
    omega
  | y :: r, k, x => by
    show kLets k _ ++ letsF (k + 1) (r ++ [x]) = (kLets k _ ++ letsF (k + 1) r) ++ _
    rw [letsF_snoc r, List.append_assoc, List.length_cons]
    congr 3
    omega
def ltV (w : Str) (k : Int) (K : KX) (qs : List Addr) (j : Nat) : List V := [.str w, .int k, .int (K.getD j (0, [])).1, .ref (qs.getD j 0)]
theorem lts_new {w : Str} {B : Hp} {ts qs ps : List Addr} {K : KX} {k : Int} (io : IOs B ts qs K) (tl : TLs B ps ((List.range ts.length).map (ltV w k K qs))) : LtsAt w B ps (kLets k K) := by
  have hl := tl.len
  rw [List.length_map, List.length_range] at hl
  have hi := io.len
  refine ⟨by unfold kLets; rw [List.length_map]; omega, fun i t y h1 h2 => ?_⟩
  obtain ⟨z, hz, ht⟩ := tl.at h1
  have hil : i < ts.length := by
    have := (List.getElem?_eq_some_iff.mp h1).1
    omega
  rw [List.getElem?_map, List.getElem?_range hil] at hz
  cases hz
  obtain ⟨c, q, x, e1, e2, e3, e4⟩ := io.at' (List.getElem?_eq_getElem hil)
  unfold kLets at h2
  rw [List.getElem?_map, e2] at h2
  cases h2
  refine ⟨q, ?_, e4⟩
  unfold ltV at ht
  rw [List.getD_eq_getElem?_getD, List.getD_eq_getElem?_getD, e1, e2] at ht
  exact ht
def repS (x : P3 × UsS) (y : Int × List Int) : P3 × UsS := (x.1, x.2.keep (repK y.1 y.2))
def begS (S : List (P3 × UsS)) (F : List (Int × List Int)) (i : Nat) : List (P3 × UsS) := List.zipWith repS (S.take i) (F.take i) ++ S.drop i
theorem begS_at {S : List (P3 × UsS)} {F : List (Int × List Int)} {i : Nat} (hl : S.length = F.length) (hi : i < S.length) : (begS S F i)[i]? = S[i]? := by
  unfold begS
  have h1 : (List.zipWith repS (S.take i) (F.take i)).length = i := by
    rw [List.length_zipWith, List.length_take, List.length_take]
    omega
  rw [List.getElem?_append_right (by omega), h1, Nat.sub_self, List.getElem?_drop, Nat.add_zero]
theorem begS_succ {S : List (P3 × UsS)} {F : List (Int × List Int)} {i : Nat} {x : P3 × UsS} {y : Int × List Int} (hx : S[i]? = some x) (hy : F[i]? = some y) : begS S F (i + 1) = (begS S F i).set i (repS x y) ∧ (begS S F (i + 1)).take (i + 1) = (begS S F i).take i ++ [repS x y] := by
  have hxl := (List.getElem?_eq_some_iff.mp hx).1
  have hyl := (List.getElem?_eq_some_iff.mp hy).1
  have h1 : (List.zipWith repS (S.take i) (F.take i)).length = i := by
    rw [List.length_zipWith, List.length_take, List.length_take]
    omega
  have h2 : List.zipWith repS (S.take (i + 1)) (F.take (i + 1)) = List.zipWith repS (S.take i) (F.take i) ++ [repS x y] := by
    rw [take_snoc hx, take_snoc hy, List.zipWith_append (by rw [List.length_take, List.length_take]; omega)]
    rfl
  have h3 : S.drop i = x :: S.drop (i + 1) := by
    rw [List.drop_eq_getElem_cons hxl]
    congr 1
    exact Option.some.inj ((List.getElem?_eq_getElem hxl).symm.trans hx)
  unfold begS
  constructor
  · rw [h2, List.set_append_right _ _ (by omega), h1, Nat.sub_self, h3, List.set_cons_zero, List.append_assoc]
    rfl
  · have e1 : (List.zipWith repS (S.take i) (F.take i) ++ [repS x y]).length = i + 1 := by
      rw [List.length_append, h1]
      rfl
    rw [h2, List.take_left' e1, List.take_left' h1]
theorem begS_len {S : List (P3 × UsS)} {F : List (Int × List Int)} (hl : S.length = F.length) (i : Nat) : (begS S F i).length = S.length := by
  unfold begS
  rw [List.length_append, List.length_zipWith, List.length_take, List.length_take, List.length_drop]
  omega
def AnS.beg (s : AnS) (F : List (Int × List Int)) : AnS := { s with stay := s.stay + 1, S := begS s.S F s.S.length }
def sp_Anchor_begin_stay (K : PySem.W.Frag) (C : AnC) : Sp := fun vs H Q _ => ∃ (A : AnA) (s : AnS) (ta : Addr) (ts : List Addr) (F : List (Int × List Int)) (B : Hp), vs = [.ref A.p, .ref ta] ∧ Cells H B (ancells C A s) ∧ AnB B A s ∧ B ta = some (.lst (ts.map V.ref)) ∧ RepsAt B ts F ∧ s.S.length = F.length ∧ (∀ x ∈ s.S, x.2.pk.length ≤ 1000) ∧ F.length ≤ 10 ∧
  ∀ (B' H' : Hp) (D : Addr) (us : List Addr), Own H B (anas C A s) B' (ancells C A (s.beg F)) H' → AnB B' A (s.beg F) → H D = none → B' D = some (.lst (us.map V.ref)) → LtsAt "down" B' us (letsF 0 (begS s.S F s.S.length)) → Q (.ref D) H'
@[irreducible] def ip_Anchor_begin_stay (K : PySem.W.Frag) (C : AnC) : Sp := sp_Anchor_begin_stay K C
theorem op_Anchor_begin_stay {K : PySem.W.Frag} {C : AnC} : ∀ {vs H Q E}, sp_Anchor_begin_stay K C vs H Q E → ip_Anchor_begin_stay K C vs H Q E := fun h => by unfold ip_Anchor_begin_stay; exact h
theorem un_Anchor_begin_stay {K : PySem.W.Frag} {C : AnC} : ∀ {vs H Q E}, ip_Anchor_begin_stay K C vs H Q E → sp_Anchor_begin_stay K C vs H Q E := fun h => by unfold ip_Anchor_begin_stay at h; exact h
theorem ok_Anchor_begin_stay (T : Tx P w K mg base) : FnOk P w K mg base CX0 4 T.d1.a_Anchor_begin_stay T.d1.d_Anchor_begin_stay ["self", "told"] (ip_Anchor_begin_stay K ⟨T.b.C_Anchor, T.b.C_Meter, T.b.C_UpperSender, T.b.C_UpperReceiver⟩) := by
 have G_UpperSender_take_report := ok_UpperSender_take_report T
 have G_Anchor_unconfirmed := ok_Anchor_unconfirmed T
 refine T.d1.p_Anchor_begin_stay.F.ok sc_Anchor_begin_stay (fun vs H Q E h => ?_) (fun cdv A outer s H vs Q E hr h => ?_)
 · obtain ⟨A, s', ta, ts, F, B, rfl, c, ab, hta, hF, hSF, hpl, hn, q⟩ := un_Anchor_begin_stay h
   rfl
 obtain ⟨A, s', ta, ts, F, B, rfl, c, ab, hta, hF, hSF, hpl, hn, q⟩ := un_Anchor_begin_stay h
 refine ⟨_, (pss_cons (ps_fldaugM (pv 0) pe_int in_add T.k0.k_Anchor.cl T.k0.f_Anchor__stay) (pss_cons (ps_set (i := 2) sc_Anchor_begin_stay.nd rfl (Or.inl rfl) (pe_lstM pa_nil)) (pss_cons (ps_forEG PassesOwn.never rfl rfl T.b.n_enumerate (pa_cons (pv 1) pa_nil) (pg_tup rfl (pgs_cons (pg_name (i := 3) sc_Anchor_begin_stay.nd rfl (Or.inr rfl)) (pgs_cons (pg_tup rfl (pgs_cons (pg_name (i := 4) sc_Anchor_begin_stay.nd rfl (Or.inl rfl)) (pgs_cons (pg_name (i := 5) sc_Anchor_begin_stay.nd rfl (Or.inl rfl)) pgs_nil))) pgs_nil))) (pss_cons (ps_expr (meth_weak (pe_meth (pe_c (pe_ix ix_listM (pe_fldM (pv 0) T.k0.k_Anchor.cl T.k0.f_Anchor__senders) (pv 3) (fun _ _ => rfl))) T.k0.k_UpperSender.cl T.d1.p_UpperSender_take_report.me G_UpperSender_take_report (hr.mono (by decide)) T.d1.p_UpperSender_take_report.b .nil pass0 (pa_cons (pv 4) (pa_cons (pv 5) pa_nil))))) (pss_one (ps_expr (pe_ext (pv 2) (pe_lcW (own := [("count", 6), ("packet", 7)]) (g := (gTup K 2 (gCons (gName 6) (gCons (gName 7) gNil)))) [6, 7] im_list rfl sc_Anchor_begin_stay.nd (pi_list (pe_c (meth_weak (pe_meth (pe_c (pv 0)) T.k0.k_Anchor.cl T.d2.p_Anchor_unconfirmed.me G_Anchor_unconfirmed (hr.mono (by decide)) T.d2.p_Anchor_unconfirmed.b .nil pass0 (pa_cons (pv 3) pa_nil))))) (blkOk_by (own := [("count", 6), ("packet", 7)]) (N := ["self", "told", "letters", "bearer", "first", "later", "count", "packet"]) (sc := defScope S_Anchor_begin_stay) (by decide +kernel)) (fun _ _ _ _ _ => (pg_tup rfl (pgs_cons (pg_name (i := 6) sc_Anchor_begin_stay.nd rfl (Or.inl rfl)) (pgs_cons (pg_name (i := 7) sc_Anchor_begin_stay.nd rfl (Or.inl rfl)) pgs_nil)))) (fun _ _ _ _ _ => pts_nil) (fun _ _ _ _ _ => (pe_tupM (pa_cons pe_str (pa_cons (pv 3) (pa_cons (pv 6) (pa_cons (pv 7) pa_nil)))))))))))) (pss_one (ps_ret (pv 2)))))), ?_⟩
 have w0 : Own H B (anas _ A s') B (ancells ⟨T.b.C_Anchor, T.b.C_Meter, T.b.C_UpperSender, T.b.C_UpperReceiver⟩ A s') H := c.start
 have hp0 := w0.mem (p := A.p) (.head _)
 walk_at "R"
 refine rd_putF hp0 (by exact Nat.le_of_ble_eq_true rfl) rfl ?_
 have w1 : Own H B (anas _ A s') B (ancells ⟨T.b.C_Anchor, T.b.C_Meter, T.b.C_UpperSender, T.b.C_UpperReceiver⟩ A { s' with stay := s'.stay + 1, S := begS s'.S F 0 }) _ := w0.set 0 rfl (.ins T.b.C_Anchor A.dx (({ s' with stay := s'.stay + 1 } : AnS).fs A))
 walk_at "R"
 intro D H2 nD sD eD
 have w2 := w1.addR nD sD eD
 have hDn := (w1.frS nD).1
 clear w1
 walk_at "R"
 refine rd_forEG ?_
 walk_at "R"
 refine ⟨ta, ts.map V.ref, fun i σ H' => Stop (∃ (B2 : Hp) (us : List Addr) (x1 x2 x3 x4 x5 : Option V), Own H B (anas _ A s') B2 (ancells ⟨T.b.C_Anchor, T.b.C_Meter, T.b.C_UpperSender, T.b.C_UpperReceiver⟩ A { s' with stay := s'.stay + 1, S := begS s'.S F i } ++ [(D, .lst (us.map V.ref))]) H' ∧ AnB B2 A { s' with stay := s'.stay + 1, S := begS s'.S F i } ∧ Same B B2 ∧ LtsAt "down" B2 us (letsF 0 ((begS s'.S F i).take i)) ∧ us.length ≤ 1000 * i ∧ σ = [some (.ref A.p), some (.ref ta), some (.ref D), x1, x2, x3, x4, x5]), rfl, sq_of (w2.imm _ _ hta), .a ⟨B, [], _, _, _, _, _, w2, ⟨ab.sl, ab.rl, ab.ol, ab.so, ab.ro⟩, Same.refl _, ⟨rfl, fun i t y h1 => (nomatch h1)⟩, Nat.le_refl _, rfl⟩, fun i σ' H' hi w => ?_, fun i y σ' H' H3 hi w s3 => ?_, fun σ' H' w => ?_⟩
 · obtain ⟨B2, us, x1, x2, x3, x4, x5, w3, ab3, sB, _⟩ := w.un
   exact sq_of (w3.imm _ _ (sB _ _ hta))
 · obtain ⟨B2, us, x1, x2, x3, x4, x5, w3', ab3, sB, hus, hul, rfl⟩ := w.un
   rw [List.getElem?_map] at hi
   obtain ⟨t, hti, rfl⟩ := Option.map_eq_some_iff.mp hi
   have hil := (List.getElem?_eq_some_iff.mp hti).1
   rw [hF.ln] at hil
   have hyi : F[i]? = some F[i] := List.getElem?_eq_getElem hil
   obtain ⟨la, ht, hla⟩ := hF.at' i t _ hti hyi
   generalize F[i] = y at *
   have hxi : s'.S[i]? = some (s'.S[i]'(by omega)) := List.getElem?_eq_getElem (by omega)
   generalize (s'.S[i]'(by omega)) = x at *
   have hpx := hpl x (List.mem_of_getElem? hxi)
   have hbx : (begS s'.S F i)[i]? = some x := (begS_at hSF (by omega)).trans hxi
   have hsox := ab3.so x (List.mem_of_getElem? hbx)
   have w3 := w3'.more s3
   clear w3'
   have ht3 := w3.imm _ _ (sB _ _ ht)
   refine ⟨t, _, rfl, st_of ht3, rfl, ?_⟩
   refine ⟨_, _, rfl, ?_⟩
   refine ⟨_, _, rfl, ?_⟩
   refine ⟨rfl, rfl, ?_⟩
   have hp3 := w3.mem (p := A.p) (.head _)
   have w3s := anS_at w3 hbx
   have hsp := w3s.mem (p := x.1.1) (.head _)
   walk_at "R"
   refine rd_ixL (sq_of (w3.imm _ _ ab3.sl)) (ref_at (fun x : P3 × UsS => x.1.1) hbx) ?_
   walk_at "R"
   refine op_UpperSender_take_report ⟨x.1.1, x.1.2.1, x.1.2.2, x.2, B2, y.1, la, y.2, rfl, w3s.cellsL, hsox.1, sq_of (sB _ _ hla), by omega, fun B4 H4 w4' => ?_⟩
   have w4 := anS_back (C := ⟨T.b.C_Anchor, T.b.C_Meter, T.b.C_UpperSender, T.b.C_UpperReceiver⟩) (y := repS x y) (w3s.call (lc := scl T.b.C_UpperSender x) w4') (List.getElem?_eq_some_iff.mp hbx).1
   have ab4 := (ab3.mono w4'.grow).setS hbx (hsox.1.keep (repK y.1 y.2)) ((hsox.2.mono w4'.grow).filter _) s'.mt
   obtain ⟨eb1, eb2⟩ := begS_succ hxi hyi
   have hbx4 : (begS s'.S F (i + 1))[i]? = some (repS x y) := by
     rw [eb1, List.getElem?_set, if_pos rfl, if_pos (List.getElem?_eq_some_iff.mp hbx).1]
   have w4 : Own H B (anas ⟨T.b.C_Anchor, T.b.C_Meter, T.b.C_UpperSender, T.b.C_UpperReceiver⟩ A s') B4 (ancells ⟨T.b.C_Anchor, T.b.C_Meter, T.b.C_UpperSender, T.b.C_UpperReceiver⟩ A { s' with stay := s'.stay + 1, S := begS s'.S F (i + 1) } ++ [(D, .lst (us.map V.ref))]) H4 := by
     rw [eb1]
     exact w4
   have ab4 : AnB B4 A { s' with stay := s'.stay + 1, S := begS s'.S F (i + 1) } := by
     rw [eb1]
     exact ab4
   have hp4 := w4.mem (p := A.p) (.head _)
   have hD4 := w4.mem (p := D) (List.mem_append_right _ (.head _))
   have hkl : (repS x y).2.pk.length ≤ 1000 := Nat.le_trans (List.length_filter_le ..) hpx
   have gr4 := w4'.grow
   clear w3 w3s w4' hsp hp3 eb1
   walk_at "R"
   refine rd_lcW ?_
   walk_at "R"
   refine op_Anchor_unconfirmed ⟨A, _, i, repS x y, rfl, .of w4 ab4, hbx4, hkl, fun D5 ts5 qs5 H5 hD5 io5 => ?_⟩
   have hil5 := io5.ls.len
   have hkx : (pkX (repS x y).2.pk).length = (repS x y).2.pk.length := by
     unfold pkX
     exact List.length_map ..
   walk_at "R"
   refine ⟨⟨_, sq_of io5.at'⟩, ?_⟩
   refine wl_tupsG (ts5.map V.ref) (ltV "down" i (pkX (repS x y).2.pk) qs5) (sq_of io5.at') (by rw [List.length_map]; omega) (fun j z hz H6 R BB s6 k => ?_) (fun D6 ps6 H6 nD6 nt6 => ?_)
   · rw [List.getElem?_map] at hz
     obtain ⟨tj, htj, rfl⟩ := Option.map_eq_some_iff.mp hz
     obtain ⟨c5, q5, x5', e51, e52, e53, e54⟩ := io5.ls.at' htj
     refine ⟨tj, _, rfl, st_of (s6 _ _ e53), rfl, _, _, rfl, _, _, rfl, rfl, ?_⟩
     refine ⟨rfl, ?_⟩
     walk_at "R"
     intro t7 H7 n7 s7 e7
     refine k t7 H7 n7 s7 ?_
     unfold ltV
     rw [List.getD_eq_getElem?_getD, List.getD_eq_getElem?_getD, e51, e52]
     exact e7
   obtain ⟨B5, sB5, hB5, io5b, w5⟩ := w4.ioR hD5 io5
   obtain ⟨B6, sB6, hB6, tl6, w6⟩ := w5.nt nD6 nt6
   have hD6 := w6.mem (p := D) (List.mem_append_right _ (.head _))
   rw [List.length_map] at tl6
   have hlt := lts_new (io5b.mono sB6) tl6
   have hltl := hlt.ln
   have hkll : (kLets (i : Int) (pkX (repS x y).2.pk)).length = (repS x y).2.pk.length := by
     unfold kLets
     rw [List.length_map]
     exact hkx
   refine rd_ext hD6 (w6.imm _ _ hB6) (by rw [List.length_map, List.length_map]; omega) ?_
   have w7 := ((w6.perm (l' := (D, .lst (us.map V.ref)) :: ancells ⟨T.b.C_Anchor, T.b.C_Meter, T.b.C_UpperSender, T.b.C_UpperReceiver⟩ A { s' with stay := s'.stay + 1, S := begS s'.S F (i + 1) }) (List.perm_append_comm (l₁ := [_]))).set 0 rfl (.lst (us.map V.ref ++ ps6.map V.ref))).perm (l' := ancells ⟨T.b.C_Anchor, T.b.C_Meter, T.b.C_UpperSender, T.b.C_UpperReceiver⟩ A { s' with stay := s'.stay + 1, S := begS s'.S F (i + 1) } ++ [(D, .lst (us.map V.ref ++ ps6.map V.ref))]) List.perm_append_comm
   have sB46 := (sB5.trans sB6)
   refine .a ⟨B6, us ++ ps6, _, _, _, _, _, by rw [List.map_append]; exact w7, ab4.mono sB46, ?_, ?_, ?_, rfl⟩
   · exact sB.trans (gr4.trans sB46)
   · rw [eb2, letsF_snoc, List.length_take, begS_len hSF, Nat.min_eq_left (by omega), Int.zero_add]
     exact LtsAt.app (hus.mono (gr4.trans sB46)) hlt
   · rw [List.length_append]
     omega
 · obtain ⟨B2, us, x1, x2, x3, x4, x5, w3, ab3, sB, hus, hul, rfl⟩ := w.un
   rw [List.length_map, hF.ln, ← hSF] at w3 ab3 hus
   rw [List.take_of_length_le (by rw [begS_len hSF]; exact Nat.le_refl _)] at hus
   walk_at "R"
   obtain ⟨B8, sB8, hB8, w8⟩ := (w3.perm (l' := (D, .lst (us.map V.ref)) :: ancells ⟨T.b.C_Anchor, T.b.C_Meter, T.b.C_UpperSender, T.b.C_UpperReceiver⟩ A { s' with stay := s'.stay + 1, S := begS s'.S F s'.S.length }) (List.perm_append_comm (l₁ := [_]))).ice hDn
   exact q B8 H' D us w8 (ab3.mono sB8) hDn hB8 (hus.mono sB8)
/-- a packet of the law -/
structure PkM (m : Int) (ds : List Int) : Prop where
  l1 : 1 ≤ ds.length
  l2 : (ds.length : Int) ≤ m
  by' : ∀ d ∈ ds, 0 ≤ d ∧ d < 256
theorem PkM.pkB {m : Int} {ds : List Int} (h : PkM m ds) (hm : m ≤ 196) : pkB ds 196 = true := by
  have h1 := h.l1
  have h2 := h.l2
  unfold My.pkB
  rw [decide_eq_true (by omega), decide_eq_true (by omega), Bool.true_and, Bool.true_and]
  refine List.all_eq_true.mpr fun d hd => ?_
  have := h.by' d hd
  rw [decide_eq_true this.1, decide_eq_true (show d ≤ 255 by omega)]
  rfl
def sp_u_law_packet (K : PySem.W.Frag) : Sp := fun vs H Q _ => ∃ (t a : Addr) (ns : List Int) (m : Int), vs = [.ref t, .int m] ∧ (∃ i r z, TapeOk2 ns i r z ∧ H t = some (tapeL a i r z)) ∧ SqL K H a (ns.map V.int) ∧ a ≠ t ∧ (1 ≤ m ∧ m ≤ 200) ∧
  ∀ (ds : List Int) (D : Addr) (H' : Hp), PkM m ds → H D = none → TpN t a ns H H' → H' D = some (.lst (ds.map V.int)) → Q (.ref D) H'
@[irreducible] def ip_u_law_packet (K : PySem.W.Frag) : Sp := sp_u_law_packet K
theorem op_u_law_packet {K : PySem.W.Frag} : ∀ {vs H Q E}, sp_u_law_packet K vs H Q E → ip_u_law_packet K vs H Q E := fun h => by unfold ip_u_law_packet; exact h
theorem un_u_law_packet {K : PySem.W.Frag} : ∀ {vs H Q E}, ip_u_law_packet K vs H Q E → sp_u_law_packet K vs H Q E := fun h => by unfold ip_u_law_packet at h; exact h
theorem ok_u_law_packet (T : Tx P w K mg base) : FnOk P w K mg base CX0 2 T.d2.a_u_law_packet T.d2.d_u_law_packet ["tape", "most"] (ip_u_law_packet K) := by
 have G_u_law_next := ok_u_law_next T
 refine T.d2.p_u_law_packet.F.ok sc_u_law_packet (fun vs H Q E h => ?_) (fun cdv A outer s H vs Q E hr h => ?_)
 · obtain ⟨t, a, ns, m, rfl, hT, hS, hat, hm, q⟩ := un_u_law_packet h
   rfl
 obtain ⟨t, a, ns, m, rfl, hT, hS, hat, hm, q⟩ := un_u_law_packet h
 refine ⟨_, (pss_cons (ps_set (i := 2) sc_u_law_packet.nd rfl (Or.inl rfl) (pe_op op_addM pe_int (pe_call G_u_law_next (hr.mono (by decide)) rfl T.d2.p_u_law_next.m T.d2.p_u_law_next.F.kp T.d2.p_u_law_next.b .nil pass0 (pa_cons (pv 0) (pa_cons (pv 1) pa_nil))))) (pss_cons (ps_set (i := 3) sc_u_law_packet.nd rfl (Or.inr rfl) (pe_call G_u_law_next (hr.mono (by decide)) rfl T.d2.p_u_law_next.m T.d2.p_u_law_next.F.kp T.d2.p_u_law_next.b .nil pass0 (pa_cons (pv 0) (pa_cons pe_int pa_nil)))) (pss_cons (ps_set (i := 4) sc_u_law_packet.nd rfl (Or.inr rfl) (pe_call G_u_law_next (hr.mono (by decide)) rfl T.d2.p_u_law_next.m T.d2.p_u_law_next.F.kp T.d2.p_u_law_next.b .nil pass0 (pa_cons (pv 0) (pa_cons pe_int pa_nil)))) (pss_one (ps_ret (pe_lcR1 rfl sc_u_law_packet.nd rfl T.b.n_range (pa_cons (pv 2) pa_nil) (blkOk_by (own := [("k", 5)]) (N := ["tape", "most", "size", "first", "step", "k"]) (sc := defScope S_u_law_packet) (by decide +kernel)) (fun _ _ _ _ _ => (pg_name (i := 5) sc_u_law_packet.nd rfl (Or.inl rfl))) (fun _ _ _ _ _ => (pe_op op_modM (pe_callTy call_int1 (by rfl) T.b.n_int (by decide +kernel) (pa_cons (pe_op op_addM (pv 3) (pe_op op_mulM (pv 4) (pv 5))) pa_nil)) pe_int)))))))), ?_⟩
 walk_at "R"
 refine next_tp hT hS ⟨hm.1, by omega⟩ fun x1 H1 h10 h11 tp1 => ?_
 walk_at "R"
 refine next_tp tp1.tp (tp1.seq hat hS) ⟨by decide, by decide⟩ fun x2 H2 h20 h21 tp2 => ?_
 have tp12 := tp1.trans tp2
 walk_at "R"
 refine next_tp tp12.tp (tp12.seq hat hS) ⟨by decide, by decide⟩ fun x3 H3 h30 h31 tp3 => ?_
 have tp13 := tp12.trans tp3
 walk_at "R"
 refine rd_lcR1 ?_
 walk_at "R"
 refine ⟨1 + x1, fun (j : Nat) => V.int ((x2 + x3 * (j : Int)) % 256), rfl, ⟨by omega, by omega⟩, fun j hj H' s' => ?_, fun D H4 nD s4 e4 => ?_⟩
 · walk_at "R"
   exact (by walk_at "sm")
 have e4' : H4 D = some (.lst (((List.range (1 + x1).toNat).map fun (j : Nat) => (x2 + x3 * (j : Int)) % 256).map V.int)) := by
   rw [e4, List.map_map]
   rfl
 refine q _ D H4 ⟨?_, ?_, fun d hd => ?_⟩ ?_ (tp13.more s4) e4'
 · rw [List.length_map, List.length_range]
   omega
 · rw [List.length_map, List.length_range]
   omega
 · obtain ⟨j, _, rfl⟩ := List.mem_map.mp hd
   omega
 · cases hHD : H D with
   | none => rfl
   | some o =>
     by_cases hDt : D = t
     · obtain ⟨i, r, z, _, e⟩ := tp13.tp
       rw [hDt, e] at nD
       cases nD
     · rw [tp13.but D o hDt hHD] at nD
       cases nD
def sp_u_law_put (K : PySem.W.Frag) (C : AnC) : Sp := fun vs H Q _ => ∃ (A : AnA) (s : AnS) (k : Nat) (x : P3 × UsS) (a : Addr) (ds : List Int) (B : Hp), vs = [.ref A.p, .int k, .ref a] ∧ Cells H B (ancells C A s) ∧ AnB B A s ∧ s.S[k]? = some x ∧ B a = some (.lst (ds.map V.int)) ∧ ds.length ≤ 10000 ∧ x.2.pk.length ≤ 100000 ∧ s.mt.E.length < 900 ∧
  (pkB ds 196 = false → ∀ H', Same H H' → Q (.bl true) H') ∧
  (pkB ds 196 = true → ¬ x.2.room → ∀ (D : Addr) (H' : Hp), H D = none → Same H H' → H' D = some (.lst [.non]) → Q (.ref D) H') ∧
  (pkB ds 196 = true → x.2.room → ∀ (B' H' : Hp) (c t l D : Addr), Own H B (anas C A s) B' (ancells C A (s.put k x c ds)) H' → AnB B' A (s.put k x c ds) → H D = none → H' D = some (.lst [.ref t]) → B' t = some (.tup [.str "down", .int k, .int x.2.nx, .ref l]) → B' l = some (.lst (ds.map V.int)) → Q (.ref D) H')
@[irreducible] def ip_u_law_put (K : PySem.W.Frag) (C : AnC) : Sp := sp_u_law_put K C
theorem op_u_law_put {K : PySem.W.Frag} {C : AnC} : ∀ {vs H Q E}, sp_u_law_put K C vs H Q E → ip_u_law_put K C vs H Q E := fun h => by unfold ip_u_law_put; exact h
theorem un_u_law_put {K : PySem.W.Frag} {C : AnC} : ∀ {vs H Q E}, ip_u_law_put K C vs H Q E → sp_u_law_put K C vs H Q E := fun h => by unfold ip_u_law_put at h; exact h
theorem ok_u_law_put (T : Tx P w K mg base) : FnOk P w K mg base CX0 6 T.d2.a_u_law_put T.d2.d_u_law_put ["anchor", "bearer", "packet"] (ip_u_law_put K ⟨T.b.C_Anchor, T.b.C_Meter, T.b.C_UpperSender, T.b.C_UpperReceiver⟩) := by
 have G_Anchor_put := ok_Anchor_put T
 refine T.d2.p_u_law_put.F.ok sc_u_law_put (fun vs H Q E h => ?_) (fun cdv A outer s H vs Q E hr h => ?_)
 · obtain ⟨A, s', k, x, a, ds, B, rfl, c, ab, hx, ha, hl, hpl, hel, q1, q2, q3⟩ := un_u_law_put h
   rfl
 obtain ⟨A, s', k, x, a, ds, B, rfl, c, ab, hx, ha, hl, hpl, hel, q1, q2, q3⟩ := un_u_law_put h
 refine ⟨_, (pss_one (ps_try_as (i := 3) rfl rfl sc_u_law_put.nd rfl rfl ⟨rfl, by decide, .inl T.b.g_BearerError⟩ takes0 (fun W pn xe tk po => (pss_one (ps_ret (pe_lstM (pa_cons (pe_methT (pv 0) T.k0.k_Anchor.cl T.d1.p_Anchor_put.me G_Anchor_put (hr.mono (by decide)) T.d1.p_Anchor_put.b (fun σ => passAt tk σ) (pa_cons (pv 1) (pa_cons (pv 2) pa_nil))) pa_nil))))) (fun a oe cls d pn hz hf => (pss_one (ps_ret (pe_callB (call_isEM hz hf) (by rfl) T.b.n_isinstance (by decide +kernel) (pa_cons (pv 3) (pa_cons (pe_glob (v := .ref T.b.C_NotValid) rfl T.b.g_NotValid rfl) pa_nil)))))))), ?_⟩
 have w0 : Own H B (anas _ A s') B (ancells ⟨T.b.C_Anchor, T.b.C_Meter, T.b.C_UpperSender, T.b.C_UpperReceiver⟩ A s') H := c.start
 have hp0 := w0.mem (p := A.p) (.head _)
 walk_at "R"
 refine op_Anchor_put ⟨A, s', k, x, a, ds, B, rfl, c, ab, hx, ha, hl, hpl, hel, fun hb H1 s1 => ⟨true, T.m_NotValid_BearerError, fun _ y hy => ?_, fun z => Bool.noConfusion z⟩, fun hb hr H1 s1 => ?_, fun hb hr B1 H1 c1 t1 l1 w1 ab1 nt1 ht1 hl1 => ?_⟩
 · walk_at "R"
   refine ⟨_, _, _, rfl, rfl, rfl, T.k0.e_NotValid, kit_same, ?_⟩
   walk_at "R"
   exact q1 hb H1 s1
 · walk_at "R"
   intro D H2 nD s2 e2
   exact q2 hb hr D H2 (same_none s1 nD) (s1.trans s2) e2
 · walk_at "R"
   intro D H2 nD s2 e2
   exact q3 hb hr B1 H2 c1 t1 l1 D (w1.more s2) ab1 (w1.frS nD).1 e2 ht1 hl1
def sp_u_law_kept (K : PySem.W.Frag) : Sp := fun vs H Q _ => ∃ (kl : Addr) (kds : List Addr) (k : Nat) (kd : Addr) (pk : Pk), vs = [.ref kl, .int k] ∧ SqL K H kl (kds.map V.ref) ∧ kds[k]? = some kd ∧ H kd = some (.dK (pkK pk)) ∧ PkAt H pk ∧ (pk.map Prod.fst).Pairwise (· < ·) ∧ pk.length ≤ 1000 ∧
  ∀ (D : Addr) (ts qs : List Addr) (H' : Hp), H D = none → IO H D ts qs (pkX pk) H' → Q (.ref D) H'
theorem keys_ownX {k : KX} (nd : (k.map Prod.fst).Nodup) : (k.map Prod.fst).map (fun n => (n, (sget k n).getD [])) = k := by
  rw [List.map_map]
  conv => rhs; rw [← List.map_id k]
  refine List.map_congr_left fun x hx => ?_
  show (x.1, (sget k x.1).getD []) = x
  have : sget k x.1 = some x.2 := by
    induction k with
    | nil => cases hx
    | cons y r ih =>
      have nd2 := List.nodup_cons.mp nd
      rw [sget_cons]
      rcases List.mem_cons.mp hx with e | z
      · rw [e, if_pos rfl]
      · rw [if_neg (fun e => nd2.1 (by rw [e]; exact List.mem_map.mpr ⟨x, z, rfl⟩))]
        exact ih nd2.2 z
  rw [this]
  rfl
theorem asc_self42 {l ys : List Int} (h : l.Pairwise (· < ·)) (hp : ys.Perm l) (ho : ys.Pairwise (· ≤ ·)) : ys = l :=
  List.Perm.eq_of_pairwise (le := fun a b => a ≤ b) (fun a b _ _ h1 h2 => by omega) ho (h.imp fun z => Int.le_of_lt z) hp
@[irreducible] def ip_u_law_kept (K : PySem.W.Frag) : Sp := sp_u_law_kept K
theorem op_u_law_kept {K : PySem.W.Frag} : ∀ {vs H Q E}, sp_u_law_kept K vs H Q E → ip_u_law_kept K vs H Q E := fun h => by unfold ip_u_law_kept; exact h
theorem un_u_law_kept {K : PySem.W.Frag} : ∀ {vs H Q E}, ip_u_law_kept K vs H Q E → sp_u_law_kept K vs H Q E := fun h => by unfold ip_u_law_kept at h; exact h
theorem ok_u_law_kept (T : Tx P w K mg base) : FnOk P w K mg base CX0 1 T.d2.a_u_law_kept T.d2.d_u_law_kept ["kept", "bearer"] (ip_u_law_kept K) := by
 refine T.d2.p_u_law_kept.F.ok sc_u_law_kept (fun vs H Q E h => ?_) (fun cdv A outer s H vs Q E hr h => ?_)
 · obtain ⟨kl, kds, k, kd, pk, rfl, hkl, hkd, hd, hk, asc, hl, q⟩ := un_u_law_kept h
   rfl
 obtain ⟨kl, kds, k, kd, pk, rfl, hkl, hkd, hd, hk, asc, hl, q⟩ := un_u_law_kept h
 refine ⟨_, (pss_one (ps_ret (pe_lcW (own := [("count", 2)]) (g := (gName 2)) [2] im_list rfl sc_u_law_kept.nd (pi_list (pe_c (pe_callB call_sortLIM (by rfl) T.b.n_sorted (by decide +kernel) (pa_cons (pe_callTy (call_listDM rfl) (by rfl) T.b.n_list (by decide +kernel) (pa_cons (pe_ix ix_listM (pv 0) (pv 1) (fun _ _ => rfl)) pa_nil)) pa_nil)))) (blkOk_by (own := [("count", 2)]) (N := ["kept", "bearer", "count"]) (sc := defScope S_u_law_kept) (by decide +kernel)) (fun _ _ _ _ _ => (pg_name (i := 2) sc_u_law_kept.nd rfl (Or.inl rfl))) (fun _ _ _ _ _ => pts_nil) (fun _ _ _ _ _ => (pe_tupM (pa_cons (pv 2) (pa_cons (pe_callTy (call_listK (K := K) rfl) (by rfl) T.b.n_list (by decide +kernel) (pa_cons (pe_dgetM (hu_of hr) (pe_ix (ix_listK (K := K) rfl) (pv 0) (pv 1) (fun _ _ => rfl)) (pv 2)) pa_nil)) pa_nil))))))), ?_⟩
 have hat := ref_at (fun z : Addr => z) hkd
 walk_at "R"
 refine rd_lcW ?_
 walk_at "R"
 refine rd_ixL hkl hat ?_
 walk_at "R"
 refine rd_listD hd (pkK_keys _) ?_
 intro l1 H1 n1 s1 e1
 walk_at "R"
 refine rd_sortLI (sq_of e1) (fun ys hp ho => ?_)
 have := asc_self42 asc hp ho
 subst this
 intro l2 H2 n2 s2 e2
 walk_at "R"
 refine ⟨⟨_, sq_of e2⟩, ?_⟩
 have nd : (pk.map Prod.fst).Nodup := asc.imp fun z => Int.ne_of_lt z
 refine wl_io (pk.map Prod.fst) (fun n => (sget (pkX pk) n).getD []) (sq_of e2) (by rw [List.length_map]; omega) (fun n hn H4 R s4 kk => ?_) (fun D ts qs H4 hD io => ?_)
 · have s14 := (s1.trans s2).trans s4
   obtain ⟨z, hz, ez⟩ := List.mem_map.mp hn
   have hv := pk_val nd hz
   have hsg := pk_sget nd hz
   rw [ez] at hv hsg
   walk_at "R"
   refine rd_ixL (s14.seq hkl) hat ?_
   walk_at "R"
   refine rd_dget (s14 _ _ hd) hv ?_
   walk_at "R"
   refine rd_list (sq_of (s14 _ _ (hk z hz))) ?_
   intro q1 H5 n5 s5 e6
   walk_at "R"
   intro t H6 n6 s6 e7
   rw [hsg] at kk
   exact kk q1 H5 t H6 n5 s5 e6 n6 s6 e7
 · have s12 := s1.trans s2
   rw [← pkX_keys, keys_ownX (by rw [pkX_keys]; exact nd)] at io
   exact q D ts qs H4 (same_none s12 hD) ⟨s12.trans io.sm, io.at', io.ls, fun t ht => same_none s12 (io.frt t ht), fun q hq => ⟨same_none s12 (io.frq q hq).1, (io.frq q hq).2⟩, io.nd⟩
/-! ### the law's own state beside the anchor -/
structure BeK where
  kd : Addr
  kp : Pk
  hd : Addr
  hk : List Int
  oa : Addr
  oq : List Addr
  ua : Addr
  uq : List Addr
  U : List (List Int)
structure LwA where
  kl : Addr
  nl : Addr
  ml : Addr
  m0 : Addr
  m1 : Addr
  ul : Addr
  hl : Addr
  ol : Addr
structure Lw where
  A : AnA
  s : AnS
  bs : List BeK
  nx : List Int
  M0 : List Int
  M1 : List Int
def hkK (hk : List Int) : List (Key × V) := hk.map fun n => (.inl n, .bl true)
def bcl (x : BeK) : List (Addr × HO) := [(x.kd, .dK (pkK x.kp)), (x.hd, .dK (hkK x.hk)), (x.oa, .lst (x.oq.map V.ref))]
def lhead (P : LwA) (w : Lw) : List (Addr × HO) := [(P.nl, .lst (w.nx.map V.int)), (P.m0, .lst (w.M0.map V.int)), (P.m1, .lst (w.M1.map V.int))]
def lwcells (C : AnC) (P : LwA) (w : Lw) : List (Addr × HO) := lhead P w ++ (w.bs.flatMap bcl ++ ancells C w.A w.s)
structure BeR (B : Hp) (bits : Int) (i : Nat) (j : Nat) (b : BeK) (x : UsS) (r : UrS) (oq : List Addr) (nx m0 m1 : Int) (E : List PK) : Prop where
  xb : x.bits = bits
  rb : r.bits = bits
  ks : pkX b.kp = pkX x.pk
  kb : PkAt B b.kp
  nx : nx = x.nx
  lim : x.nx ≤ (j : Int)
  m0 : m0 = (tget E ((i : Int), 0)).getD 0
  m1 : m1 = (tget E ((i : Int), 1)).getD 0
  hk : ∀ m, m ∈ b.hk ↔ (0 ≤ m ∧ m < r.first) ∨ m ∈ r.pk.map Prod.fst
  hn : b.hk.Nodup
  rk : ∀ y ∈ r.pk, y.1 < 40 ∧ y.2.2 = b.U.getD y.1.toNat []
  rf : r.first ≤ 40
  ul : b.U.length = 40
  up : ∀ u ∈ b.U, PkM 9 u
  uq : LLs B b.uq b.U
  ua : B b.ua = some (.lst (b.uq.map V.ref))
  o1 : LLs B b.oq (b.U.take r.first.toNat)
  o2 : LLs B oq (b.U.take r.first.toNat)
structure BeOk (B : Hp) (bits : Int) (w : Lw) (j : Nat) (i : Nat) : Prop where
  ex : ∃ b x r o, w.bs[i]? = some b ∧ w.s.S[i]? = some x ∧ w.s.R[i]? = some r ∧ w.s.O[i]? = some o ∧ BeR B bits i j b x.2 r.2 o.2 (w.nx.getD i 0) (w.M0.getD i 0) (w.M1.getD i 0) w.s.mt.E
structure LwOk (B : Hp) (P : LwA) (w : Lw) (n : Nat) (bits : Int) (j : Nat) : Prop where
  n3 : 1 ≤ n ∧ n ≤ 3
  bb : 4 ≤ bits ∧ bits ≤ 7
  j6 : j ≤ 100
  an : AnB B w.A w.s
  mo : MtOk w.s.mt
  lb : w.bs.length = n
  lS : w.s.S.length = n
  lR : w.s.R.length = n
  lO : w.s.O.length = n
  lx : w.nx.length = n
  l0 : w.M0.length = n
  l1 : w.M1.length = n
  kl : B P.kl = some (.lst (w.bs.map fun b => V.ref b.kd))
  hl : B P.hl = some (.lst (w.bs.map fun b => V.ref b.hd))
  ol : B P.ol = some (.lst (w.bs.map fun b => V.ref b.oa))
  ul : B P.ul = some (.lst (w.bs.map fun b => V.ref b.ua))
  ml : B P.ml = some (.lst [.ref P.m0, .ref P.m1])
  ok : ∀ i, i < n → BeOk B bits w j i
theorem BeR.mono {B B' : Hp} {bits : Int} {i j : Nat} {b : BeK} {x : UsS} {r : UrS} {oq : List Addr} {nx m0 m1 : Int} {E : List PK} (h : BeR B bits i j b x r oq nx m0 m1 E) (s : Same B B') : BeR B' bits i j b x r oq nx m0 m1 E := ⟨h.xb, h.rb, h.ks, h.kb.mono s, h.nx, h.lim, h.m0, h.m1, h.hk, h.hn, h.rk, h.rf, h.ul, h.up, h.uq.mono s, s _ _ h.ua, h.o1.mono s, h.o2.mono s⟩
theorem LwOk.mono {B B' : Hp} {P : LwA} {w : Lw} {n : Nat} {bits : Int} {j : Nat} (h : LwOk B P w n bits j) (s : Same B B') : LwOk B' P w n bits j := ⟨h.n3, h.bb, h.j6, h.an.mono s, h.mo, h.lb, h.lS, h.lR, h.lO, h.lx, h.l0, h.l1, s _ _ h.kl, s _ _ h.hl, s _ _ h.ol, s _ _ h.ul, s _ _ h.ml, fun i hi => by
  obtain ⟨b, x, r, o, h1, h2, h3, h4, h5⟩ := (h.ok i hi).ex
  exact ⟨b, x, r, o, h1, h2, h3, h4, h5.mono s⟩⟩
theorem lw_pos (b : Int) : (4 ≤ b ∧ b ≤ 7) → (2 : Int) ^ (b - 1).toNat = 8 ∨ (2 : Int) ^ (b - 1).toNat = 16 ∨ (2 : Int) ^ (b - 1).toNat = 32 ∨ (2 : Int) ^ (b - 1).toNat = 64 := fun hb => by
  have h : b = 4 ∨ b = 5 ∨ b = 6 ∨ b = 7 := by omega
  rcases h with e | e | e | e <;> subst e <;> decide
section
variable {S B0 B H : Hp} {as : List Addr} {C : AnC} {P : LwA} {w : Lw} {L : List (Addr × HO)}
/-- one bearer of the law's, in front -/
theorem lw_at (o : Own S B0 as B (lwcells C P w ++ L) H) {k : Nat} {b : BeK} (h : w.bs[k]? = some b) : Own S B0 as B (bcl b ++ (lhead P w ++ ((w.bs.eraseIdx k).flatMap bcl ++ (ancells C w.A w.s ++ L)))) H := by
  unfold lwcells at o
  rw [List.append_assoc, List.append_assoc] at o
  exact o.at h
theorem lw_back {k : Nat} {b : BeK} (o : Own S B0 as B (bcl b ++ (lhead P w ++ ((w.bs.eraseIdx k).flatMap bcl ++ (ancells C w.A w.s ++ L)))) H) (h : k < w.bs.length) : Own S B0 as B (lwcells C P { w with bs := w.bs.set k b } ++ L) H := by
  have o2 := o.back h
  unfold lwcells
  rw [List.append_assoc, List.append_assoc]
  exact o2
/-- one cell of one bearer of the law's is changed -/
theorem lw_set {X : List (Addr × HO)} (o : Own S B0 as B (X ++ lwcells C P w) H) {k : Nat} {b : BeK} (h : w.bs[k]? = some b) (m : Nat) {p : Addr} {u : HO} (hm : (bcl b)[m]? = some (p, u)) (v : HO) (b' : BeK) (e : bcl b' = (bcl b).set m (p, v)) :
    H p = some u ∧ Own S B0 as B (X ++ lwcells C P { w with bs := w.bs.set k b' }) (upd H p v) := by
  have o1 := lw_at (o.perm (l' := lwcells C P w ++ X) List.perm_append_comm) h
  have hml : m < (bcl b).length := (List.getElem?_eq_some_iff.mp hm).1
  refine ⟨o1.mem (List.mem_append_left _ (List.mem_of_getElem? hm)), ?_⟩
  have o2 := o1.set m ((List.getElem?_append_left hml).trans hm) v
  rw [List.set_append_left _ _ hml, ← e] at o2
  exact (lw_back o2 (List.getElem?_eq_some_iff.mp h).1).perm List.perm_append_comm
/-- the anchor, in front -/
theorem lw_an (o : Own S B0 as B (lwcells C P w ++ L) H) : Own S B0 as B (ancells C w.A w.s ++ ((lhead P w ++ w.bs.flatMap bcl) ++ L)) H := by
  refine o.perm ?_
  refine (perm_mid _ (lhead P w ++ w.bs.flatMap bcl) L).trans (List.Perm.of_eq ?_)
  unfold lwcells
  simp only [List.append_assoc]
theorem lw_anb {A' : AnA} {s' : AnS} (o : Own S B0 as B (ancells C A' s' ++ ((lhead P w ++ w.bs.flatMap bcl) ++ L)) H) : Own S B0 as B (lwcells C P { w with A := A', s := s' } ++ L) H := by
  refine o.perm (List.Perm.trans (List.Perm.of_eq ?_) (perm_mid (lhead P w ++ w.bs.flatMap bcl) _ L))
  unfold lwcells
  simp only [List.append_assoc]
  rfl
end
def lwas (C : AnC) (P : LwA) (w : Lw) : List Addr := (lwcells C P w).map Prod.fst
theorem mnL_app {l : List Int} {d : Int} (h : l.Pairwise (· < ·)) (hd : ∀ x ∈ l, x < d) : ∀ m, m ∈ l ++ [d] → (∀ y ∈ l ++ [d], m ≤ y) → m = l.headD d := by
  intro m hm hle
  cases l with
  | nil => exact List.mem_singleton.mp hm
  | cons x r =>
    have h1 := hle x (.head _)
    have asc := List.pairwise_cons.mp h
    show m = x
    rcases List.mem_append.mp hm with z | z
    · rcases List.mem_cons.mp z with e | e
      · exact e
      · have := asc.1 _ e
        omega
    · rw [List.mem_singleton.mp z] at h1 ⊢
      have := hd x (.head _)
      omega
theorem UsS.base_mem (s : UsS) : s.base ∈ s.pk.map Prod.fst ∨ (s.pk = [] ∧ s.base = s.nx) := by
  obtain ⟨b, nx, pk⟩ := s
  cases pk with
  | nil => exact .inr ⟨rfl, rfl⟩
  | cons x r => exact .inl (.head _)
theorem UsOk.base_nx {s : UsS} (h : UsOk s) : 0 ≤ s.base ∧ s.base ≤ s.nx := by
  rcases s.base_mem with e | ⟨_, e⟩
  · have := h.lt _ e
    omega
  · have := h.n0
    omega
theorem UsS.base_head (s : UsS) : s.base = (s.pk.map Prod.fst).headD s.nx := by
  obtain ⟨b, nx, pk⟩ := s
  cases pk <;> rfl
theorem getD_set_eq {l : List Int} {k : Nat} {v : Int} (h : k < l.length) : (l.set k v).getD k 0 = v := by
  rw [List.getD_eq_getElem?_getD, List.getElem?_set, if_pos rfl, if_pos h]
  rfl
theorem getD_set_ne {l : List Int} {k i : Nat} {v : Int} (h : i ≠ k) : (l.set k v).getD i 0 = l.getD i 0 := by
  rw [List.getD_eq_getElem?_getD, List.getElem?_set, if_neg (fun z => h z.symm), List.getD_eq_getElem?_getD]
theorem set_ne' {α : Type} {l : List α} {k i : Nat} {v : α} (h : i ≠ k) : (l.set k v)[i]? = l[i]? := by
  rw [List.getElem?_set, if_neg (fun z => h z.symm)]
theorem set_eq' {α : Type} {l : List α} {k : Nat} {v : α} (h : k < l.length) : (l.set k v)[k]? = some v := by
  rw [List.getElem?_set, if_pos rfl, if_pos h]
def Lw.down (w : Lw) (k : Nat) (b : BeK) (x : P3 × UsS) (a c : Addr) (ds : List Int) : Lw := { w with s := w.s.put k x c ds, bs := w.bs.set k { b with kp := b.kp ++ [(x.2.nx, a, ds)] }, nx := w.nx.set k (x.2.nx + 1), M0 := w.M0.set k (w.M0.getD k 0 + ds.length) }
theorem LwOk.down {B B' : Hp} {P : LwA} {w : Lw} {n : Nat} {bits : Int} {j k : Nat} (h : LwOk B P w n bits j) (s : Same B B') (hk : k < n) (hj : j < 100) {b : BeK} {x : P3 × UsS} {r : P3 × UrS} {o : Addr × List Addr} (hb : w.bs[k]? = some b) (hx : w.s.S[k]? = some x) (hr : w.s.R[k]? = some r) (ho : w.s.O[k]? = some o)
    (be : BeR B bits k j b x.2 r.2 o.2 (w.nx.getD k 0) (w.M0.getD k 0) (w.M1.getD k 0) w.s.mt.E) {a c : Addr} {ds : List Int} (ha : B' a = some (.lst (ds.map V.int))) (an : AnB B' w.A (w.s.put k x c ds)) : LwOk B' P (w.down k b x a c ds) n bits (j + 1) := by
  have h3 := h.n3
  have lx := h.lx
  have l0 := h.l0
  have lb := h.lb
  have lS := h.lS
  have hbs : ∀ f : BeK → Addr, f { b with kp := b.kp ++ [(x.2.nx, a, ds)] } = f b → ((w.bs.set k { b with kp := b.kp ++ [(x.2.nx, a, ds)] }).map fun b => V.ref (f b)) = w.bs.map fun b => V.ref (f b) := fun f e => set_p hb f e
  refine ⟨h.n3, h.bb, by omega, an, h.mo.ad (by omega) (by omega), ?_, ?_, h.lR, h.lO, ?_, ?_, h.l1, ?_, ?_, ?_, ?_, s _ _ h.ml, fun i hi => ?_⟩
  · show (w.bs.set k _).length = n
    rw [List.length_set, lb]
  · show (w.s.S.set k _).length = n
    rw [List.length_set, lS]
  · show (w.nx.set k _).length = n
    rw [List.length_set, lx]
  · show (w.M0.set k _).length = n
    rw [List.length_set, l0]
  · exact (s _ _ h.kl).trans (congrArg (fun l => some (HO.lst l)) (hbs (fun b => b.kd) rfl).symm)
  · exact (s _ _ h.hl).trans (congrArg (fun l => some (HO.lst l)) (hbs (fun b => b.hd) rfl).symm)
  · exact (s _ _ h.ol).trans (congrArg (fun l => some (HO.lst l)) (hbs (fun b => b.oa) rfl).symm)
  · exact (s _ _ h.ul).trans (congrArg (fun l => some (HO.lst l)) (hbs (fun b => b.ua) rfl).symm)
  · by_cases e : i = k
    · subst e
      have bm := be.mono s
      refine ⟨{ b with kp := b.kp ++ [(x.2.nx, a, ds)] }, (x.1, x.2.put c ds), r, o, set_eq' (by omega), set_eq' (by omega), hr, ho, ⟨bm.xb, bm.rb, ?_, bm.kb.snoc ha, ?_, ?_, ?_, ?_, bm.hk, bm.hn, bm.rk, bm.rf, bm.ul, bm.up, bm.uq, bm.ua, bm.o1, bm.o2⟩⟩
      · show pkX (b.kp ++ [(x.2.nx, a, ds)]) = pkX (x.2.pk ++ [(x.2.nx, c, ds)])
        have := bm.ks
        unfold pkX at this ⊢
        rw [List.map_append, List.map_append, this]
        rfl
      · show (w.nx.set i (x.2.nx + 1)).getD i 0 = x.2.nx + 1
        exact getD_set_eq (by omega)
      · have := bm.lim
        show x.2.nx + 1 ≤ ((j + 1 : Nat) : Int)
        omega
      · show (w.M0.set i _).getD i 0 = (tget (w.s.mt.ad i 0 ds.length).E ((i : Int), 0)).getD 0
        rw [getD_set_eq (by omega), MtS.ad_val (by omega), if_pos rfl, ← bm.m0]
      · show w.M1.getD i 0 = (tget (w.s.mt.ad i 0 ds.length).E ((i : Int), 1)).getD 0
        rw [MtS.ad_val (by omega), if_neg (fun z => by cases z), Int.add_zero]
        exact bm.m1
    · obtain ⟨b2, x2, r2, o2, h1, h2, h3, h4, h5⟩ := (h.ok i hi).ex
      have bm := h5.mono s
      have hne : ∀ y : Int, ((i : Int), y) ≠ ((k : Int), (0 : Int)) := fun y z => e (by
        have := congrArg Prod.fst z
        have : (i : Int) = (k : Int) := this
        omega)
      refine ⟨b2, x2, r2, o2, (set_ne' e).trans h1, (set_ne' e).trans h2, h3, h4, ⟨bm.xb, bm.rb, bm.ks, bm.kb, ?_, ?_, ?_, ?_, bm.hk, bm.hn, bm.rk, bm.rf, bm.ul, bm.up, bm.uq, bm.ua, bm.o1, bm.o2⟩⟩
      · exact (getD_set_ne e).trans bm.nx
      · have := bm.lim
        omega
      · refine (getD_set_ne e).trans (bm.m0.trans ?_)
        show _ = (tget (w.s.mt.ad k 0 ds.length).E ((i : Int), 0)).getD 0
        rw [MtS.ad_val (by omega), if_neg (hne 0), Int.add_zero]
      · refine bm.m1.trans ?_
        show _ = (tget (w.s.mt.ad k 0 ds.length).E ((i : Int), 1)).getD 0
        rw [MtS.ad_val (by omega), if_neg (hne 1), Int.add_zero]
def sp_u_law_down (K : PySem.W.Frag) (C : AnC) : Sp := fun vs H Q _ => ∃ (P : LwA) (w : Lw) (n : Nat) (bits : Int) (j k : Nat) (a : Addr) (ds : List Int) (B : Hp), vs = [.ref w.A.p, .ref P.kl, .ref P.nl, .ref P.ml, .int (2 ^ (bits - 1).toNat), .int k, .ref a] ∧ Cells H B (lwcells C P w) ∧ LwOk B P w n bits j ∧ k < n ∧ j < 100 ∧ B a = some (.lst (ds.map V.int)) ∧ PkM 196 ds ∧
  ∀ (B' H' : Hp) (w' : Lw), Own H B (lwas C P w) B' (lwcells C P w') H' → LwOk B' P w' n bits (j + 1) → w'.A = w.A → w'.s.stay = w.s.stay → Q (.bl true) H'
@[irreducible] def ip_u_law_down (K : PySem.W.Frag) (C : AnC) : Sp := sp_u_law_down K C
theorem op_u_law_down {K : PySem.W.Frag} {C : AnC} : ∀ {vs H Q E}, sp_u_law_down K C vs H Q E → ip_u_law_down K C vs H Q E := fun h => by unfold ip_u_law_down; exact h
theorem un_u_law_down {K : PySem.W.Frag} {C : AnC} : ∀ {vs H Q E}, ip_u_law_down K C vs H Q E → sp_u_law_down K C vs H Q E := fun h => by unfold ip_u_law_down at h; exact h
theorem ok_u_law_down (T : Tx P w K mg base) : FnOk P w K mg base CX0 7 T.d2.a_u_law_down T.d2.d_u_law_down ["anchor", "kept", "nexts", "meters", "half", "bearer", "packet"] (ip_u_law_down K ⟨T.b.C_Anchor, T.b.C_Meter, T.b.C_UpperSender, T.b.C_UpperReceiver⟩) := by
 have G_u_law_put := ok_u_law_put T
 refine T.d2.p_u_law_down.F.ok sc_u_law_down (fun vs H Q E h => ?_) (fun cdv A outer s H vs Q E hr h => ?_)
 · obtain ⟨P, w, n, bits, j, k, a, ds, B, rfl, c, lw, hk, hj, ha, hm, q⟩ := un_u_law_down h
   rfl
 obtain ⟨P, w, n, bits, j, k, a, ds, B, rfl, c, lw, hk, hj, ha, hm, q⟩ := un_u_law_down h
 refine ⟨_, (pss_cons (ps_set (i := 7) sc_u_law_down.nd rfl (Or.inl rfl) (pe_callB (call_minLM rfl) (by rfl) T.b.n_min (by decide +kernel) (pa_cons (pe_op op_catM (pe_callTy (call_listDM rfl) (by rfl) T.b.n_list (by decide +kernel) (pa_cons (pe_ix ix_listM (pv 1) (pv 5) (fun _ _ => rfl)) pa_nil)) (pe_lstM (pa_cons (pe_ix ix_listM (pv 2) (pv 5) (fun _ _ => rfl)) pa_nil))) pa_nil))) (pss_cons (ps_set (i := 8) sc_u_law_down.nd rfl (Or.inl rfl) (pe_call G_u_law_put (hr.mono (by decide)) rfl T.d2.p_u_law_put.m T.d2.p_u_law_put.F.kp T.d2.p_u_law_put.b .nil pass0 (pa_cons (pv 0) (pa_cons (pv 5) (pa_cons (pe_callTy call_listM (by rfl) T.b.n_list (by decide +kernel) (pa_cons (pv 6) pa_nil)) pa_nil))))) (pss_cons (ps_ifM (pt_cmpR op_geM (pe_op op_subM (pe_ix ix_listM (pv 2) (pv 5) (fun _ _ => rfl)) (pv 7)) (pv 4) (nomark _)) (pss_one (ps_ret (pe_cmpR (op_eqDM hr.units) (pv 8) (pe_lstM (pa_cons pe_non pa_nil)) (nomark _)))) pss_nil) (pss_cons (ps_ifM (pt_cmpR (op_neDM hr.units) (pv 8) (pe_lstM (pa_cons (pe_tupM (pa_cons pe_str (pa_cons (pv 5) (pa_cons (pe_ix ix_listM (pv 2) (pv 5) (fun _ _ => rfl)) (pa_cons (pv 6) pa_nil))))) pa_nil)) (nomark _)) (pss_one (ps_ret pe_bl)) pss_nil) (pss_cons (ps_set (i := 9) sc_u_law_down.nd rfl (Or.inl rfl) (pe_ix ix_listM (pv 1) (pv 5) (fun _ _ => rfl))) (pss_cons (ps_dputM (hu_of hr) (pv 9) (pe_ix ix_listM (pv 2) (pv 5) (fun _ _ => rfl)) (pv 6)) (pss_cons (ps_asg (pe_op op_addM (pe_ix ix_listM (pv 2) (pv 5) (fun _ _ => rfl)) pe_int) (pg_sub (pv 2) (pv 5) set_listM)) (pss_cons (ps_asg (pe_op op_addM (pe_ix ix_listM (pe_ix ix_listM (pv 3) pe_int (fun _ _ => rfl)) (pv 5) (fun _ _ => rfl)) (pe_callB call_lenM (by rfl) T.b.n_len PySem.boot_len (pa_cons (pv 6) pa_nil))) (pg_sub (pe_ix ix_listM (pv 3) pe_int (fun _ _ => rfl)) (pv 5) set_listM)) (pss_one (ps_ret pe_bl)))))))))), ?_⟩
 obtain ⟨b, x, r, o, hb, hx, hr, ho, be⟩ := (lw.ok k hk).ex
 have w0 : Own H B (lwas ⟨T.b.C_Anchor, T.b.C_Meter, T.b.C_UpperSender, T.b.C_UpperReceiver⟩ P w) B (lwcells ⟨T.b.C_Anchor, T.b.C_Meter, T.b.C_UpperSender, T.b.C_UpperReceiver⟩ P w) H := c.start
 have w0b := lw_at (L := []) (by rw [List.append_nil]; exact w0) hb
 have hkd := w0b.mem (p := b.kd) (.head _)
 have hnl := w0.mem (p := P.nl) (.head _)
 have hkl := w0.imm _ _ lw.kl
 have hso := lw.an.so x (List.mem_of_getElem? hx)
 have hkk : b.kp.map Prod.fst = x.2.pk.map Prod.fst := by rw [← pkX_keys, be.ks, pkX_keys]
 have hxl := kx_len hso.1
 have hlim := be.lim
 have hj6 := lw.j6
 have hxn := hso.1.n0
 have hlx := lw.lx
 walk_at "R"
 refine rd_ixL (sq_of hkl) (ref_at (fun b : BeK => b.kd) hb) ?_
 walk_at "R"
 refine rd_listD hkd (pkK_keys _) ?_
 intro l1 H1 n1 s1 e1
 walk_at "R"
 refine rd_ixI (sq_of (s1 _ _ hnl)) (by omega) (by omega) ?_
 walk_at "R"
 intro l2 H2 n2 s2 e2
 refine rd_cat (s2 _ _ e1) e2 (by rw [List.length_map, List.length_map]; have := congrArg List.length hkk; rw [List.length_map, List.length_map] at this; show _ + 1 ≤ _; omega) ?_
 intro l3 H3 n3 s3 e3
 have e3 : H3 l3 = some (.lst ((b.kp.map Prod.fst ++ [x.2.nx]).map V.int)) := by
   rw [e3, List.map_append, be.nx.symm]
   rfl
 walk_at "R"
 refine rd_minL (sq_of e3) (by rw [List.length_append]; show 0 < _ + 1; omega) (fun m hm1 hm2 => ?_)
 have hmb : m = x.2.base := by
   rw [UsS.base_head, ← hkk]
   exact mnL_app (by rw [hkk]; exact hso.1.asc) (fun y hy => (hso.1.lt y (by rw [← hkk]; exact hy)).2) m hm1 hm2
 subst hmb
 have s123 := (s1.trans s2).trans s3
 have w3 := w0.more s123
 have ha3 := w3.imm _ _ ha
 walk_at "R"
 refine rd_list (sq_of ha3) ?_
 intro pa H4 n4 s4 e4
 obtain ⟨B4, sB4, hB4, _, w4⟩ := w3.ro n4 s4 e4
 have w4a := lw_an (L := []) (by rw [List.append_nil]; exact w4)
 walk_at "R"
 have hl1 := hm.l1
 have hl2 := hm.l2
 have hml := lw.mo.len
 refine op_u_law_put ⟨w.A, w.s, k, x, pa, ds, B4, rfl, w4a.cellsL, lw.an.mono sB4, hx, hB4, by omega, by omega, by omega, fun hb2 => ?_, fun hb2 hro D H5 nD s5 e5 => ?_, fun hb2 hro B5 H5 c5 t5 q5 D w5' ab5 nD eD ht5 hq5 => ?_⟩
 · rw [hm.pkB (Int.le_refl _)] at hb2
   cases hb2
 · have w5 := w4.more s5
   have hnl5 := w5.mem (p := P.nl) (.head _)
   walk_at "R"
   refine rd_ixI (sq_of hnl5) (by omega) (by omega) ?_
   walk_at "R"
   rw [Int.toNat_natCast, be.nx]
   refine br_t (by
     unfold UsS.room at hro
     rw [be.xb] at hro
     omega) ?_
   walk_at "R"
   intro D2 H6 n6 s6 e6
   refine rd_eqS (n := 2) (.list [.none]) (.lst (sq_of (s6 _ _ e5)) (.cons .non .nil)) (.lst (sq_of e6) (.cons .non .nil)) (sh_lst (sh_cons sh_non sh_nil)) ?_
   have hjj : LwOk B4 P w n bits (j + 1) := by
     have h4 := lw.mono sB4
     exact ⟨h4.n3, h4.bb, by omega, h4.an, h4.mo, h4.lb, h4.lS, h4.lR, h4.lO, h4.lx, h4.l0, h4.l1, h4.kl, h4.hl, h4.ol, h4.ul, h4.ml, fun i hi => by
       obtain ⟨b2, x2, r2, o2, h1, h2, h3, h4, h5⟩ := (h4.ok i hi).ex
       exact ⟨b2, x2, r2, o2, h1, h2, h3, h4, ⟨h5.xb, h5.rb, h5.ks, h5.kb, h5.nx, by have := h5.lim; omega, h5.m0, h5.m1, h5.hk, h5.hn, h5.rk, h5.rf, h5.ul, h5.up, h5.uq, h5.ua, h5.o1, h5.o2⟩⟩⟩
   exact q B4 H6 w (w5.more s6) hjj rfl rfl
 have w5 := lw_anb (s' := w.s.put k x c5 ds) (A' := w.A) (w4a.call (lc := ancells ⟨T.b.C_Anchor, T.b.C_Meter, T.b.C_UpperSender, T.b.C_UpperReceiver⟩ w.A w.s) w5')
 have gr5 := w5'.grow
 have hnl5 := w5.mem (p := P.nl) (.head _)
 walk_at "R"
 refine rd_ixI (sq_of hnl5) (by omega) (by show (k : Int) < (w.nx.length : Int); omega) ?_
 walk_at "R"
 rw [Int.toNat_natCast]
 refine br_f (by
   show ¬ w.nx.getD k 0 - x.2.base ≥ _
   rw [be.nx]
   unfold UsS.room at hro
   rw [be.xb] at hro
   omega) ?_
 walk_at "R"
 refine rd_ixI (sq_of hnl5) (by omega) (by show (k : Int) < (w.nx.length : Int); omega) ?_
 walk_at "R"
 intro t6 H6 n6 s6 e6
 walk_at "R"
 intro l7 H7 n7 s7 e7
 have s67 := s6.trans s7
 have w7 := w5.more s67
 have enx : w.nx.getD (k : Int).toNat 0 = x.2.nx := be.nx
 have e6 : H6 t6 = some (.tup [.str "down", .int k, .int x.2.nx, .ref a]) := by
   rw [← enx]
   exact e6
 refine rd_neS (n := 3) (.list [.tuple [.str "down", .int k, .int x.2.nx, .list (ds.map PyData.int)]]) (.lst (sq_of (s67 _ _ eD)) (.cons (.tup (st_of (w7.imm _ _ ht5)) (.cons (.str _) (.cons (.int _) (.cons (.int _) (.cons (dp_ints (sq_of (w7.imm _ _ hq5))) .nil))))) .nil)) (.lst (sq_of e7) (.cons (.tup (st_of (s7 _ _ e6)) (.cons (.str _) (.cons (.int _) (.cons (.int _) (.cons (dp_ints (sq_of (w7.imm _ _ (gr5 _ _ (sB4 _ _ ha))))) .nil))))) .nil)) (sh_lst (sh_cons (sh_tup (sh_cons (sh_str (by decide +kernel)) (sh_cons sh_int (sh_cons sh_int (sh_cons (sh_lst (sh_ints ds)) sh_nil))))) sh_nil)) ?_
 have hkl7 := w7.imm _ _ (gr5 _ _ (sB4 _ _ lw.kl))
 walk_at "R"
 refine rd_ixL (sq_of hkl7) (ref_at (fun b : BeK => b.kd) hb) ?_
 have w7b := lw_at (w := { w with A := w.A, s := w.s.put k x c5 ds }) w7 hb
 have hkd7 := w7b.mem (p := b.kd) (.head _)
 have hnl7 := w7.mem (p := P.nl) (.head _)
 walk_at "R"
 refine rd_ixI (sq_of hnl7) (by omega) (by show (k : Int) < (w.nx.length : Int); omega) ?_
 have hfr : x.2.nx ∉ b.kp.map Prod.fst := by
   rw [hkk]
   exact hso.1.fresh
 have hkpl : b.kp.length ≤ 1000 := by
   have := congrArg List.length hkk
   rw [List.length_map, List.length_map] at this
   omega
 rw [show ({ w with A := w.A, s := w.s.put k x c5 ds } : Lw).nx.getD (k : Int).toNat 0 = x.2.nx from enx]
 refine rd_dput hkd7 (by unfold pkK; rw [List.length_map]; omega) ?_
 rw [pk_put hfr (x := ds)]
 have w8b := w7b.set 0 rfl (.dK (pkK (b.kp ++ [(x.2.nx, a, ds)])))
 have w8 := lw_back (b := { b with kp := b.kp ++ [(x.2.nx, a, ds)] }) w8b (List.getElem?_eq_some_iff.mp hb).1
 have hnl8 := w8.mem (p := P.nl) (.head _)
 walk_at "R"
 refine rd_ixI (sq_of hnl8) (by omega) (by show (k : Int) < (w.nx.length : Int); omega) ?_
 walk_at "R"
 rw [show ({ w with A := w.A, s := w.s.put k x c5 ds, bs := w.bs.set k { b with kp := b.kp ++ [(x.2.nx, a, ds)] } } : Lw).nx.getD (k : Int).toNat 0 = x.2.nx from enx]
 refine rd_setL hnl8 (by omega) (by rw [List.length_map]; show (k : Int) < (w.nx.length : Int); omega) ?_
 have w9 := w8.set 0 rfl (.lst ((w.nx.map V.int).set (k : Int).toNat (.int (x.2.nx + 1))))
 rw [Int.toNat_natCast, ← List.map_set] at w9 ⊢
 have hm09 := w9.mem (p := P.m0) (.tail _ (.head _))
 have hml9 := w9.imm _ _ (gr5 _ _ (sB4 _ _ lw.ml))
 have ha9 := w9.imm _ _ (gr5 _ _ (sB4 _ _ ha))
 have l0 := lw.l0
 walk_at "R"
 refine rd_ixL (sq_of hml9) rfl ?_
 walk_at "R"
 refine rd_ixI (sq_of hm09) (by omega) (by show (k : Int) < (w.M0.length : Int); omega) ?_
 walk_at "R"
 refine rd_ixL (sq_of hml9) rfl ?_
 walk_at "R"
 refine rd_setL hm09 (by omega) (by rw [List.length_map]; show (k : Int) < (w.M0.length : Int); omega) ?_
 have w10 := w9.set 1 rfl (.lst ((w.M0.map V.int).set (k : Int).toNat (.int (w.M0.getD (k : Int).toNat 0 + (ds.length : Int)))))
 rw [Int.toNat_natCast, ← List.map_set] at w10 ⊢
 walk_at "R"
 rw [List.append_nil] at w10
 exact q B5 _ (w.down k b x a c5 ds) w10 (lw.down (sB4.trans gr5) hk hj hb hx hr ho be (gr5 _ _ (sB4 _ _ ha)) ab5) rfl rfl
def zup {α β : Type} (g : α → β → α) (S : List α) (F : List β) : List α := List.zipWith g S F ++ S.drop F.length
theorem zup_nil {α β : Type} (g : α → β → α) (S : List α) : zup g S [] = S := by
  unfold zup
  rw [List.zipWith_nil_right]
  rfl
theorem zup_len {α β : Type} (g : α → β → α) {S : List α} {F : List β} (h : F.length ≤ S.length) : (zup g S F).length = S.length := by
  unfold zup
  rw [List.length_append, List.length_zipWith, List.length_drop]
  omega
theorem zup_snoc {α β : Type} (g : α → β → α) {S : List α} {F : List β} {x : α} {y : β} (hx : S[F.length]? = some x) : zup g S (F ++ [y]) = (zup g S F).set F.length (g x y) ∧ (zup g S F)[F.length]? = some x := by
  have hxl := (List.getElem?_eq_some_iff.mp hx).1
  have h1 : (List.zipWith g S F).length = F.length := by
    rw [List.length_zipWith]
    omega
  have h3 : S.drop F.length = x :: S.drop (F.length + 1) := by
    rw [List.drop_eq_getElem_cons hxl]
    congr 1
    exact Option.some.inj ((List.getElem?_eq_getElem hxl).symm.trans hx)
  have h4 : List.zipWith g S F = List.zipWith g (S.take F.length) F := by
    refine List.ext_getElem? fun i => ?_
    rw [List.getElem?_zipWith, List.getElem?_zipWith]
    by_cases hi : i < F.length
    · rw [List.getElem?_take, if_pos hi]
    · rw [List.getElem?_eq_none (l := F) (by omega)]
      cases S[i]? <;> cases (S.take F.length)[i]? <;> rfl
  have h2 : List.zipWith g S (F ++ [y]) = List.zipWith g S F ++ [g x y] := by
    have e : S = S.take F.length ++ (x :: S.drop (F.length + 1)) := by
      rw [← h3, List.take_append_drop]
    conv => lhs; rw [e]
    rw [List.zipWith_append (by rw [List.length_take]; omega), h4, List.zipWith_cons_cons, List.zipWith_nil_right]
  unfold zup
  constructor
  · rw [h2, List.set_append_right _ _ (by omega), h1, Nat.sub_self, h3, List.set_cons_zero, List.length_append, List.append_assoc]
    rfl
  · rw [List.getElem?_append_right (by omega), h1, Nat.sub_self, h3]
    rfl
theorem zup_at {α β : Type} (g : α → β → α) {S : List α} {F : List β} (hl : F.length = S.length) {i : Nat} {x : α} (hx : S[i]? = some x) : ∃ y, F[i]? = some y ∧ (zup g S F)[i]? = some (g x y) := by
  have hxl := (List.getElem?_eq_some_iff.mp hx).1
  refine ⟨F[i], List.getElem?_eq_getElem (by omega), ?_⟩
  unfold zup
  rw [List.getElem?_append_left (by rw [List.length_zipWith]; omega), List.getElem?_zipWith, hx, List.getElem?_eq_getElem (by omega)]
theorem zup_map {α β γ : Type} (g : α → β → α) (p : α → γ) (hp : ∀ x y, p (g x y) = p x) : ∀ (S : List α) (F : List β), (zup g S F).map p = S.map p
  | [], F => by
    unfold zup
    rw [List.zipWith_nil_left, List.drop_nil]
    rfl
  | x :: S, [] => by
    unfold zup
    rw [List.zipWith_nil_right]
    rfl
  | x :: S, y :: F => by
    have := zup_map g p hp S F
    unfold zup at this ⊢
    rw [List.zipWith_cons_cons, List.length_cons, List.drop_succ_cons, List.cons_append, List.map_cons, List.map_cons, this, hp]
theorem begS_zup {S : List (P3 × UsS)} {F : List (Int × List Int)} (h : S.length = F.length) : begS S F S.length = zup repS S F := by
  unfold begS zup
  rw [List.take_of_length_le (Nat.le_refl _), List.take_of_length_le (by omega), h]
def letsK : Int → List KX → List (Int × Int × List Int)
  | _, [] => []
  | k, K :: r => kLets k K ++ letsK (k + 1) r
theorem letsK_snoc : ∀ (l : List KX) (k : Int) (x : KX), letsK k (l ++ [x]) = letsK k l ++ kLets (k + l.length) x
  | [], k, x => by
    show kLets k _ ++ [] = [] ++ kLets (k + (0 : Nat)) _
    rw [List.append_nil, List.nil_append]
    congr 1
    omega
  | y :: r, k, x => by
    show kLets k _ ++ letsK (k + 1) (r ++ [x]) = (kLets k _ ++ letsK (k + 1) r) ++ _
    rw [letsK_snoc r, List.append_assoc, List.length_cons]
    congr 3
    omega
theorem letsF_K : ∀ (S : List (P3 × UsS)) (k : Int), letsF k S = letsK k (S.map fun x => pkX x.2.pk)
  | [], _ => rfl
  | x :: r, k => by
    show kLets k _ ++ letsF (k + 1) r = kLets k _ ++ letsK (k + 1) _
    rw [letsF_K r]
def ltD (w : Str) (y : Int × Int × List Int) : PyData := .tuple [.str w, .int y.1, .int y.2.1, .list (y.2.2.map PyData.int)]
theorem sh_down {n : Nat} (y : Int × Int × List Int) : Sh (n + 2) (ltD "down" y) := sh_tup (sh_cons (sh_str (by decide +kernel)) (sh_cons sh_int (sh_cons sh_int (sh_cons (sh_lst (sh_ints y.2.2)) sh_nil))))
theorem LtsAt.un {w : Str} {B : Hp} {t : Addr} {ts : List Addr} {y : Int × Int × List Int} {L : List (Int × Int × List Int)} (h : LtsAt w B (t :: ts) (y :: L)) : (∃ q, B t = some (.tup [.str w, .int y.1, .int y.2.1, .ref q]) ∧ B q = some (.lst (y.2.2.map V.int))) ∧ LtsAt w B ts L := ⟨h.at' 0 t y rfl rfl, Nat.succ.inj h.ln, fun i t y h1 h2 => h.at' (i + 1) t y h1 h2⟩
theorem LtsAt.dps {K : PySem.W.Frag} {w : Str} {B : Hp} : ∀ {ts : List Addr} {L : List (Int × Int × List Int)}, LtsAt w B ts L → DpAll K B (ts.map V.ref) (L.map (ltD w))
  | [], [], _ => .nil
  | [], _ :: _, h => (nomatch h.ln)
  | _ :: _, [], h => (nomatch h.ln)
  | t :: ts, y :: L, h => by
    obtain ⟨⟨q, h1, h2⟩, h3⟩ := h.un
    exact .cons (.tup (st_of h1) (.cons (.str _) (.cons (.int _) (.cons (.int _) (.cons (dp_ints (sq_of h2)) .nil))))) h3.dps
/-- [n for n in range(lo, hi) if ..], the test moves the tape alone -/
theorem wl_filtT {t a : Addr} {ns : List Int} {j : Nat} {tt : TT} {te : TE} {σ : L2.St} {H1 : Hp} {Q : VK} {lo : Int} {n : Nat} (hn : n ≤ 100000) (h0 : TpN t a ns H1 H1)
    (ht : ∀ i : Nat, i < n → ∀ (H' : Hp) (R : Bool → Hp → Prop), TpN t a ns H1 H' → (∀ b H4, TpN t a ns H' H4 → R b H4) → tt ((wipe σ [j]).set j (some (.int (lo + (i : Nat))))) H' R)
    (he : ∀ i : Nat, i < n → ∀ (H' : Hp) (R : VK), R (.int (lo + (i : Nat))) H' → te ((wipe σ [j]).set j (some (.int (lo + (i : Nat))))) H' R)
    (hq : ∀ D (xs : List Int) H', H1 D = none → xs.length ≤ n → TpN t a ns H1 H' → H' D = some (.lst (xs.map V.int)) → Q (.ref D) H') : LcWP (Itr lo n) (gName j) tt te [j] σ Q H1 := by
  have ht0 : ∃ o, H1 t = some o := by
    obtain ⟨i, r, z, ok, e⟩ := h0.tp
    exact ⟨_, e⟩
  have updn : ∀ {D : Addr} {o : HO} {H2 : Hp}, H1 D = none → TpN t a ns H1 H2 → TpN t a ns H1 (upd H2 D o) := fun {D o H2} hD h => by
    obtain ⟨i, r, z, ok, e⟩ := h.tp
    have hDt : t ≠ D := fun z => by
      obtain ⟨o, ho⟩ := ht0
      rw [z, hD] at ho
      cases ho
    refine ⟨⟨i, r, z, ok, by rw [upd_ne hDt]; exact e⟩, fun b o hb hh => ?_⟩
    have hbD : b ≠ D := fun z => by
      rw [z, hD] at hh
      cases hh
    rw [upd_ne hbD]
    exact h.but b o hb hh
  refine wl_rng hn fun D hD => ⟨fun i acc H' => (∃ xs : List Int, acc = xs.map V.int ∧ xs.length ≤ i) ∧ TpN t a ns H1 H', ⟨⟨[], rfl, Nat.le_refl _⟩, updn hD h0⟩, fun i acc H' hi ha h2 p => ?_, fun acc H' ha h2 p => ?_⟩
  · obtain ⟨⟨xs, rfl, hxl⟩, p3⟩ := p
    have hDt : D ≠ t := fun z => by
      obtain ⟨o, ho⟩ := ht0
      rw [← z, hD] at ho
      cases ho
    show _ ∧ _
    refine ⟨wipe_set rfl, ht i hi H' _ p3 fun b H4 h4 => ?_⟩
    have hD4 := h4.but _ _ hDt h2
    cases b with
    | true => exact br_T (he i hi H4 _ ⟨hD4, ⟨xs ++ [lo + (i : Nat)], by rw [List.map_append]; rfl, by rw [List.length_append]; show xs.length + 1 ≤ _; omega⟩, updn hD (p3.trans h4)⟩)
    | false => exact br_F ⟨hD4, ⟨xs, rfl, by omega⟩, p3.trans h4⟩
  · obtain ⟨⟨xs, rfl, hxl⟩, p3⟩ := p
    exact hq D xs H' hD hxl p3 h2
def repB (b : BeK) (y : Int × List Int) : BeK := { b with kp := b.kp.filter fun x => repK y.1 y.2 x.1 }
def Lw.beg (w : Lw) (F : List (Int × List Int)) : Lw := { w with s := w.s.beg F, bs := zup repB w.bs F }
theorem LwOk.beg {B B' : Hp} {P : LwA} {w : Lw} {n : Nat} {bits : Int} {j : Nat} (h : LwOk B P w n bits j) (s : Same B B') (hj : j < 100) {F : List (Int × List Int)} (hF : F.length = n) (an : AnB B' w.A (w.s.beg F)) : LwOk B' P (w.beg F) n bits (j + 1) ∧ (zup repB w.bs F).map (fun b => pkX b.kp) = (begS w.s.S F w.s.S.length).map fun x => pkX x.2.pk := by
  have lS := h.lS
  have lb := h.lb
  have ez : begS w.s.S F w.s.S.length = zup repS w.s.S F := begS_zup (by omega)
  have main : ∀ i, i < n → ∃ b x y r o, w.bs[i]? = some b ∧ w.s.S[i]? = some x ∧ w.s.R[i]? = some r ∧ w.s.O[i]? = some o ∧ (zup repB w.bs F)[i]? = some (repB b y) ∧ (zup repS w.s.S F)[i]? = some (repS x y) ∧ pkX (repB b y).kp = pkX (repS x y).2.pk ∧ BeR B bits i j b x.2 r.2 o.2 (w.nx.getD i 0) (w.M0.getD i 0) (w.M1.getD i 0) w.s.mt.E := fun i hi => by
    obtain ⟨b, x, r, o, h1, h2, h3, h4, h5⟩ := (h.ok i hi).ex
    obtain ⟨y, hy, e1⟩ := zup_at repB (F := F) (by omega) h1
    obtain ⟨y2, hy2, e2⟩ := zup_at repS (F := F) (by omega) h2
    rw [hy] at hy2
    cases hy2
    refine ⟨b, x, y, r, o, h1, h2, h3, h4, e1, e2, ?_, h5⟩
    show pkX (b.kp.filter fun x => repK y.1 y.2 x.1) = pkX (x.2.pk.filter fun x => repK y.1 y.2 x.1)
    rw [pkX_filt, pkX_filt, h5.ks]
  have hm : ∀ p : BeK → Addr, (∀ b y, p (repB b y) = p b) → ((w.beg F).bs.map fun b => V.ref (p b)) = w.bs.map fun b => V.ref (p b) := fun p hp => zup_map repB (fun b => V.ref (p b)) (fun b y => congrArg V.ref (hp b y)) _ _
  refine ⟨⟨h.n3, h.bb, by omega, an, h.mo, ?_, ?_, h.lR, h.lO, h.lx, h.l0, h.l1, ?_, ?_, ?_, ?_, s _ _ h.ml, fun i hi => ?_⟩, ?_⟩
  · exact (zup_len repB (by omega)).trans lb
  · exact (begS_len (by omega) _).trans lS
  · exact (s _ _ h.kl).trans (congrArg (fun l => some (HO.lst l)) (hm (fun b => b.kd) fun _ _ => rfl).symm)
  · exact (s _ _ h.hl).trans (congrArg (fun l => some (HO.lst l)) (hm (fun b => b.hd) fun _ _ => rfl).symm)
  · exact (s _ _ h.ol).trans (congrArg (fun l => some (HO.lst l)) (hm (fun b => b.oa) fun _ _ => rfl).symm)
  · exact (s _ _ h.ul).trans (congrArg (fun l => some (HO.lst l)) (hm (fun b => b.ua) fun _ _ => rfl).symm)
  · obtain ⟨b, x, y, r, o, h1, h2, h3, h4, e1, e2, e3, h5⟩ := main i hi
    have bm := h5.mono s
    exact ⟨repB b y, repS x y, r, o, e1, by show (begS w.s.S F w.s.S.length)[i]? = _; rw [ez]; exact e2, h3, h4, ⟨bm.xb, bm.rb, e3, bm.kb.filter _, bm.nx, by have := bm.lim; show x.2.nx ≤ _; omega, bm.m0, bm.m1, bm.hk, bm.hn, bm.rk, bm.rf, bm.ul, bm.up, bm.uq, bm.ua, bm.o1, bm.o2⟩⟩
  · rw [ez]
    refine List.ext_getElem? fun i => ?_
    rw [List.getElem?_map, List.getElem?_map]
    by_cases hi : i < n
    · obtain ⟨b, x, y, r, o, h1, h2, h3, h4, e1, e2, e3, h5⟩ := main i hi
      rw [e1, e2]
      exact congrArg some e3
    · rw [List.getElem?_eq_none (by rw [zup_len repB (by omega)]; omega), List.getElem?_eq_none (by rw [zup_len repS (by omega)]; omega)]
      rfl
def sp_u_law_begin (K : PySem.W.Frag) (C : AnC) : Sp := fun vs H Q _ => ∃ (P : LwA) (w : Lw) (n : Nat) (bits : Int) (j : Nat) (t a : Addr) (ns : List Int) (i0 r0 z0 : Int) (B : Hp), vs = [.ref w.A.p, .ref P.kl, .ref P.nl, .ref t] ∧ Cells H B ((t, tapeL a i0 r0 z0) :: lwcells C P w) ∧ LwOk B P w n bits j ∧ TapeOk2 ns i0 r0 z0 ∧ SqL K B a (ns.map V.int) ∧ a ≠ t ∧ j < 100 ∧
  ∀ (B' H' : Hp) (w' : Lw) (i r z : Int), Own H B (t :: lwas C P w) B' ((t, tapeL a i r z) :: lwcells C P w') H' → TapeOk2 ns i r z → LwOk B' P w' n bits (j + 1) → w'.A = w.A → w'.s.stay = w.s.stay + 1 → Q (.bl true) H'
@[irreducible] def ip_u_law_begin (K : PySem.W.Frag) (C : AnC) : Sp := sp_u_law_begin K C
theorem op_u_law_begin {K : PySem.W.Frag} {C : AnC} : ∀ {vs H Q E}, sp_u_law_begin K C vs H Q E → ip_u_law_begin K C vs H Q E := fun h => by unfold ip_u_law_begin; exact h
theorem un_u_law_begin {K : PySem.W.Frag} {C : AnC} : ∀ {vs H Q E}, ip_u_law_begin K C vs H Q E → sp_u_law_begin K C vs H Q E := fun h => by unfold ip_u_law_begin at h; exact h
theorem ok_u_law_begin (T : Tx P w K mg base) : FnOk P w K mg base CX0 5 T.d2.a_u_law_begin T.d2.d_u_law_begin ["anchor", "kept", "nexts", "tape"] (ip_u_law_begin K ⟨T.b.C_Anchor, T.b.C_Meter, T.b.C_UpperSender, T.b.C_UpperReceiver⟩) := by
 have G_Anchor_begin_stay := ok_Anchor_begin_stay T
 have G_u_law_next := ok_u_law_next T
 have G_u_law_kept := ok_u_law_kept T
 refine T.d2.p_u_law_begin.F.ok sc_u_law_begin (fun vs H Q E h => ?_) (fun cdv A outer s H vs Q E hr h => ?_)
 · obtain ⟨P, w, n, bits, j, t, a, ns, i0, r0, z0, B, rfl, c, lw, tok, haB, hat, hj, q⟩ := un_u_law_begin h
   rfl
 obtain ⟨P, w, n, bits, j, t, a, ns, i0, r0, z0, B, rfl, c, lw, tok, haB, hat, hj, q⟩ := un_u_law_begin h
 refine ⟨_, (pss_cons (ps_set (i := 4) sc_u_law_begin.nd rfl (Or.inl rfl) (pe_lstM pa_nil)) (pss_cons (ps_forR1 PassesOwn.never rfl rfl T.b.n_range (pa_cons (pe_callB call_lenM (by rfl) T.b.n_len PySem.boot_len (pa_cons (pv 1) pa_nil)) pa_nil) (pg_name (i := 5) sc_u_law_begin.nd rfl (Or.inr rfl)) (pss_cons (ps_set (i := 6) sc_u_law_begin.nd rfl (Or.inl rfl) (pe_callB (call_minLM rfl) (by rfl) T.b.n_min (by decide +kernel) (pa_cons (pe_op op_catM (pe_callTy (call_listDM rfl) (by rfl) T.b.n_list (by decide +kernel) (pa_cons (pe_ix ix_listM (pv 1) (pv 5) (fun _ _ => rfl)) pa_nil)) (pe_lstM (pa_cons (pe_ix ix_listM (pv 2) (pv 5) (fun _ _ => rfl)) pa_nil))) pa_nil))) (pss_cons (ps_set (i := 7) sc_u_law_begin.nd rfl (Or.inl rfl) (pe_op op_addM (pv 6) (pe_call G_u_law_next (hr.mono (by decide)) rfl T.d2.p_u_law_next.m T.d2.p_u_law_next.F.kp T.d2.p_u_law_next.b .nil pass0 (pa_cons (pv 3) (pa_cons (pe_op op_addM (pe_op op_subM (pe_ix ix_listM (pv 2) (pv 5) (fun _ _ => rfl)) (pv 6)) pe_int) pa_nil))))) (pss_cons (ps_setLcW (i := 8) (own := [("count", 10)]) (g := (gName 10)) [10] im_rng2 rfl sc_u_law_begin.nd rfl rfl (sw_true rfl rfl rfl (by decide +kernel)) (pi_range2 (by rfl) T.b.n_range (pa_c (pa_cons (pe_op op_addM (pv 7) pe_int) (pa_cons (pe_ix ix_listM (pv 2) (pv 5) (fun _ _ => rfl)) pa_nil)))) (blkOk_by (own := [("count", 10)]) (N := ["anchor", "kept", "nexts", "tape", "told", "bearer", "base", "first", "later", "own", "count", "due", "row"]) (sc := defScope S_u_law_begin) (by decide +kernel)) (fun _ _ _ _ _ => (pg_name (i := 10) sc_u_law_begin.nd rfl (Or.inl rfl))) (fun _ _ _ _ _ => (pts_one (pt_cmpR op_eq (pe_call G_u_law_next (hr.mono (by decide)) rfl T.d2.p_u_law_next.m T.d2.p_u_law_next.F.kp T.d2.p_u_law_next.b .nil pass0 (pa_cons (pv 3) (pa_cons pe_int pa_nil))) pe_int (nomark _)))) (fun _ _ _ _ _ => (pv 10))) (pss_cons (ps_expr (pe_app (pv 4) (pe_tupM (pa_cons (pv 7) (pa_cons (pv 8) pa_nil))))) (pss_cons (ps_set (i := 9) sc_u_law_begin.nd rfl (Or.inl rfl) (pe_ix ix_listM (pv 1) (pv 5) (fun _ _ => rfl))) (pss_one (ps_forL PassesOwn.never rfl (pe_callB call_sortLIM (by rfl) T.b.n_sorted (by decide +kernel) (pa_cons (pe_callTy (call_listDM rfl) (by rfl) T.b.n_list (by decide +kernel) (pa_cons (pv 9) pa_nil)) pa_nil)) (pg_name (i := 10) sc_u_law_begin.nd rfl (Or.inl rfl)) (pss_one (ps_ifM (PW.pt (pw_orM (pt_cmpR op_ltM (pv 10) (pv 7) (nomark _)) (pw_or1 (pt_cmpR (op_inDM (hu65 hr)) (pv 10) (pv 8) (by rfl))))) (pss_one (ps_expr (pe_dpopM (pv 9) (pv 10)))) pss_nil)))))))))) (pss_cons (ps_set (i := 11) sc_u_law_begin.nd rfl (Or.inl rfl) (pe_lstM pa_nil)) (pss_cons (ps_forR1 PassesOwn.never rfl rfl T.b.n_range (pa_cons (pe_callB call_lenM (by rfl) T.b.n_len PySem.boot_len (pa_cons (pv 1) pa_nil)) pa_nil) (pg_name (i := 5) sc_u_law_begin.nd rfl (Or.inr rfl)) (pss_one (ps_set (i := 11) sc_u_law_begin.nd rfl (Or.inl rfl) (pe_op op_catM (pv 11) (pe_lcW (own := [("row", 12)]) (g := (gName 12)) [12] im_list rfl sc_u_law_begin.nd (pi_list (pe_c (pe_call G_u_law_kept (hr.mono (by decide)) rfl T.d2.p_u_law_kept.m T.d2.p_u_law_kept.F.kp T.d2.p_u_law_kept.b .nil pass0 (pa_cons (pv 1) (pa_cons (pv 5) pa_nil))))) (blkOk_by (own := [("row", 12)]) (N := ["anchor", "kept", "nexts", "tape", "told", "bearer", "base", "first", "later", "own", "count", "due", "row"]) (sc := defScope S_u_law_begin) (by decide +kernel)) (fun _ _ _ _ _ => (pg_name (i := 12) sc_u_law_begin.nd rfl (Or.inl rfl))) (fun _ _ _ _ _ => pts_nil) (fun _ _ _ _ _ => (pe_tupM (pa_cons pe_str (pa_cons (pv 5) (pa_cons (pe_ix (ix_tupK (K := K) rfl) (pv 12) pe_int (fun _ _ => rfl)) (pa_cons (pe_ix (ix_tupK (K := K) rfl) (pv 12) pe_int (fun _ _ => rfl)) pa_nil))))))))))) (pss_one (ps_ret (pe_cmpR (op_eqDM hr.units) (meth_weak (pe_meth (pe_c (pv 0)) T.k0.k_Anchor.cl T.d1.p_Anchor_begin_stay.me G_Anchor_begin_stay (hr.mono (by decide)) T.d1.p_Anchor_begin_stay.b .nil pass0 (pa_cons (pv 4) pa_nil))) (pv 11) (nomark _)))))))), ?_⟩
 have w0 : Own H B (t :: lwas ⟨T.b.C_Anchor, T.b.C_Meter, T.b.C_UpperSender, T.b.C_UpperReceiver⟩ P w) B ((t, tapeL a i0 r0 z0) :: lwcells ⟨T.b.C_Anchor, T.b.C_Meter, T.b.C_UpperSender, T.b.C_UpperReceiver⟩ P w) H := c.start
 have hn3 := lw.n3
 have hj6 := lw.j6
 have lS := lw.lS
 have lb := lw.lb
 have lx := lw.lx
 walk_at "R"
 intro D H1 nD sD eD
 have w1 := w0.addR nD sD eD
 have hkl1 := w1.imm _ _ lw.kl
 have hDn := (w0.frS nD).1
 walk_at "R"
 refine frG (σ' := [some (.ref w.A.p), some (.ref P.kl), some (.ref P.nl), some (.ref t), some (.ref D), none, none, none, none, none, none, none, none]) rfl ?_
 walk_at "R"
 refine rd_forR1 ?_
 walk_at "R"
 rw [List.length_map, lb]
 have ez : ({ w with bs := zup repB w.bs [] } : Lw) = w := by rw [zup_nil]
 refine ⟨n, fun i σ H' => Stop (∃ (B2 : Hp) (F : List (Int × List Int)) (ts : List Addr) (i1 r1 z1 : Int) (x5 x6 x7 x8 x9 x10 : Option V), Own H B (t :: lwas ⟨T.b.C_Anchor, T.b.C_Meter, T.b.C_UpperSender, T.b.C_UpperReceiver⟩ P w) B2 ((t, tapeL a i1 r1 z1) :: (D, .lst (ts.map V.ref)) :: lwcells ⟨T.b.C_Anchor, T.b.C_Meter, T.b.C_UpperSender, T.b.C_UpperReceiver⟩ P { w with bs := zup repB w.bs F }) H' ∧ Same B B2 ∧ RepsAt B2 ts F ∧ F.length = i ∧ TapeOk2 ns i1 r1 z1 ∧
   σ = [some (.ref w.A.p), some (.ref P.kl), some (.ref P.nl), some (.ref t), some (.ref D), x5, x6, x7, x8, x9, x10, none, none]), rfl, ⟨by omega, by omega⟩, .a ⟨B, [], [], i0, r0, z0, _, _, _, _, _, _, by rw [ez]; exact w1.perm (List.Perm.cons _ (List.perm_append_comm (l₁ := [_]))), Same.refl _, ⟨rfl, fun i t y h1 => (nomatch h1)⟩, rfl, tok, rfl⟩, fun i σ' H' hi wz => ?_, fun σ' H' wz => ?_⟩
 · obtain ⟨B2, F, ts, i1, r1, z1, x5, x6, x7, x8, x9, x10, w2, sB2, hts, hFl, tok2, rfl⟩ := wz.un
   have hi : i < n := by omega
   obtain ⟨b, x, r, o, hb, hx, hr, ho, be⟩ := (lw.ok i hi).ex
   have hbz := (zup_snoc repB (S := w.bs) (F := F) (x := b) (y := (0, [])) (by rw [hFl]; exact hb)).2
   rw [hFl] at hbz
   have hso := lw.an.so x (List.mem_of_getElem? hx)
   have hkk : b.kp.map Prod.fst = x.2.pk.map Prod.fst := by rw [← pkX_keys, be.ks, pkX_keys]
   have hxl := kx_len hso.1
   have hlim := be.lim
   have hxn := hso.1.n0
   have hbn := hso.1.base_nx
   have hkpl : b.kp.length ≤ 100 := by
     have := congrArg List.length hkk
     rw [List.length_map, List.length_map] at this
     omega
   have w2l := w2.perm (l' := lwcells ⟨T.b.C_Anchor, T.b.C_Meter, T.b.C_UpperSender, T.b.C_UpperReceiver⟩ P { w with bs := zup repB w.bs F } ++ [(t, tapeL a i1 r1 z1), (D, .lst (ts.map V.ref))]) (List.perm_append_comm (l₂ := [_, _]))
   have w2b := lw_at w2l hbz
   have hkd := w2b.mem (p := b.kd) (.head _)
   have hnl := w2l.mem (p := P.nl) (.head _)
   have hkl := w2.imm _ _ (sB2 _ _ lw.kl)
   walk_at "R"
   refine rd_ixL (sq_of hkl) (ref_at (fun b : BeK => b.kd) hb) ?_
   walk_at "R"
   refine rd_listD hkd (pkK_keys _) ?_
   intro l1 H1 n1 s1 e1
   walk_at "R"
   refine rd_ixI (sq_of (s1 _ _ hnl)) (by omega) (by show (i : Int) < (w.nx.length : Int); omega) ?_
   walk_at "R"
   intro l2 H2 n2 s2 e2
   refine rd_cat (s2 _ _ e1) e2 (by rw [List.length_map, List.length_map]; show _ + 1 ≤ _; omega) ?_
   intro l3 H3 n3 s3 e3
   have e3 : H3 l3 = some (.lst ((b.kp.map Prod.fst ++ [x.2.nx]).map V.int)) := by
     rw [e3, List.map_append, be.nx.symm]
     rfl
   walk_at "R"
   refine rd_minL (sq_of e3) (by rw [List.length_append]; show 0 < _ + 1; omega) (fun m hm1 hm2 => ?_)
   have hmb : m = x.2.base := by
     rw [UsS.base_head, ← hkk]
     exact mnL_app (by rw [hkk]; exact hso.1.asc) (fun y hy => (hso.1.lt y (by rw [← hkk]; exact hy)).2) m hm1 hm2
   subst hmb
   refine frG (σ' := [some (.ref w.A.p), some (.ref P.kl), some (.ref P.nl), some (.ref t), some (.ref D), some (.int (i : Nat)), some (.int x.2.base), x7, x8, x9, x10, none, none]) rfl ?_
   have w3 := w2.more ((s1.trans s2).trans s3)
   have hnl3 := ((s1.trans s2).trans s3) _ _ hnl
   have haS3 : SqL K H3 a (ns.map V.int) := (sB2.trans w3.imm).seq haB
   walk_at "R"
   refine rd_ixI (sq_of hnl3) (by omega) (by show (i : Int) < (w.nx.length : Int); omega) ?_
   have enx : w.nx.getD (i : Int).toNat 0 = x.2.nx := be.nx
   rw [show ({ w with bs := zup repB w.bs F } : Lw).nx.getD (i : Int).toNat 0 = x.2.nx from enx]
   walk_at "R"
   refine next_tp ⟨i1, r1, z1, tok2, w3.mem (.head _)⟩ haS3 ⟨by omega, by omega⟩ fun x4 H4 h40 h41 tp4 => ?_
   obtain ⟨i4, r4, z4, tok4, w4⟩ := w3.tape tp4
   walk_at "R"
   refine frG (σ' := [some (.ref w.A.p), some (.ref P.kl), some (.ref P.nl), some (.ref t), some (.ref D), some (.int (i : Nat)), some (.int x.2.base), some (.int (x.2.base + x4)), x8, x9, x10, none, none]) rfl ?_
   generalize hfi : x.2.base + x4 = fi
   have hnl4 := w4.mem (p := P.nl) (.tail _ (.tail _ (.head _)))
   walk_at "R"
   refine rd_lcW ?_
   walk_at "R"
   refine rd_ixI (sq_of hnl4) (by omega) (by show (i : Int) < (w.nx.length : Int); omega) ?_
   rw [show ({ w with bs := zup repB w.bs F } : Lw).nx.getD (i : Int).toNat 0 = x.2.nx from enx]
   refine ⟨fi + 1, x.2.nx, rfl, rng2_ok (by omega) ?_⟩
   refine wl_filtT (t := t) (a := a) (ns := ns) (by omega) (TpN.start tok4 (w4.mem (.head _))) (fun i5 hi5 H5 R tp5 kk => ?_) (fun i5 hi5 H5 R kk => ?_) (fun l5 ls H5 nl5 hll tp5 el5 => ?_)
   · walk_at "R"
     refine next_tp tp5.tp (tp5.seq hat (tp4.seq hat haS3)) ⟨by decide, by decide⟩ fun x6 H6 h60 h61 tp6 => ?_
     walk_at "R"
     exact kk _ H6 tp6
   · walk_at "R"
     exact kk
   obtain ⟨B5, i5, r5, z5, sB5, hl5, tok5, w5⟩ := w4.tapeD tp5 nl5 el5
   refine frG (σ' := [some (.ref w.A.p), some (.ref P.kl), some (.ref P.nl), some (.ref t), some (.ref D), some (.int (i : Nat)), some (.int x.2.base), some (.int fi), some (.ref l5), x9, x10, none, none]) rfl ?_
   have hD5 := w5.mem (p := D) (.tail _ (.head _))
   walk_at "R"
   intro t6 H6 n6 s6 e6
   obtain ⟨B6, sB6, hB6, _, w6⟩ := w5.ro n6 s6 e6
   have htl := hts.ln
   refine rd_app (w6.mem (p := D) (.tail _ (.head _))) (by rw [List.length_map]; omega) ?_
   have w7 := w6.set 1 rfl (.lst (ts.map V.ref ++ [.ref t6]))
   have hkl7 := w7.imm _ _ ((sB2.trans (sB5.trans sB6)) _ _ lw.kl)
   walk_at "R"
   refine rd_ixL (sq_of hkl7) (ref_at (fun b : BeK => b.kd) hb) ?_
   refine frG (σ' := [some (.ref w.A.p), some (.ref P.kl), some (.ref P.nl), some (.ref t), some (.ref D), some (.int (i : Nat)), some (.int x.2.base), some (.int fi), some (.ref l5), some (.ref b.kd), x10, none, none]) rfl ?_
   have hnd : (b.kp.map Prod.fst).Nodup := by
     rw [hkk]
     exact hso.1.nd
   have hzi : i < (zup repB w.bs F).length := (List.getElem?_eq_some_iff.mp hbz).1
   have w7x : Own H B (t :: lwas ⟨T.b.C_Anchor, T.b.C_Meter, T.b.C_UpperSender, T.b.C_UpperReceiver⟩ P w) B6 ([(t, tapeL a i5 r5 z5), (D, .lst (ts.map V.ref ++ [.ref t6]))] ++ lwcells ⟨T.b.C_Anchor, T.b.C_Meter, T.b.C_UpperSender, T.b.C_UpperReceiver⟩ P { w with bs := zup repB w.bs F }) _ := w7
   generalize hH7 : upd H6 D (.lst (ts.map V.ref ++ [.ref t6])) = H7 at w7x ⊢
   have hkd7 := (lw_set w7x hbz 0 rfl (.dK []) { b with kp := [] } rfl).1
   clear w7
   refine rd_forL ?_
   walk_at "R"
   refine rd_listD hkd7 (pkK_keys _) ?_
   intro l8 H8 n8 s8 e8
   walk_at "R"
   refine rd_sortLI (sq_of e8) (fun ys hp ho => ?_)
   have := asc_self42 (by rw [hkk]; exact hso.1.asc) hp ho
   subst this
   intro l9 H9 n9 s9 e9
   obtain ⟨B9, sB9, hB9, _, w9⟩ := (w7x.more s8).ro n9 s9 e9
   have e00 : (b.kp.filter fun z => !(decide (z.1 ∈ (b.kp.map Prod.fst).take 0) && !repK fi ls z.1)) = b.kp := List.filter_eq_self.mpr fun z _ => by
     rw [List.take_zero, decide_eq_false (fun z => (nomatch z))]
     rfl
   refine ⟨l9, (b.kp.map Prod.fst).map V.int, fun i' σ H' => Stop (Own H B (t :: lwas ⟨T.b.C_Anchor, T.b.C_Meter, T.b.C_UpperSender, T.b.C_UpperReceiver⟩ P w) B9 ([(t, tapeL a i5 r5 z5), (D, .lst (ts.map V.ref ++ [.ref t6]))] ++ lwcells ⟨T.b.C_Anchor, T.b.C_Meter, T.b.C_UpperSender, T.b.C_UpperReceiver⟩ P { w with bs := (zup repB w.bs F).set i { b with kp := b.kp.filter fun z => !(decide (z.1 ∈ (b.kp.map Prod.fst).take i') && !repK fi ls z.1) } }) H' ∧
     ∃ x10, σ = [some (.ref w.A.p), some (.ref P.kl), some (.ref P.nl), some (.ref t), some (.ref D), some (.int (i : Nat)), some (.int x.2.base), some (.int fi), some (.ref l5), some (.ref b.kd), x10, none, none]), rfl, sq_of (w9.imm _ _ hB9), .a ⟨?_, _, rfl⟩, fun i' σ' H' hi' wy => sq_of (wy.un.1.imm _ _ hB9), fun i' y σ' H' hi' wy => ?_, fun σ' H' wy => ?_⟩
   · rw [e00, show ({ b with kp := b.kp } : BeK) = b from rfl, set_self hbz]
     exact w9
   · obtain ⟨w10, x10', rfl⟩ := wy.un
     rw [List.getElem?_map] at hi'
     obtain ⟨cn, hcn, rfl⟩ := Option.map_eq_some_iff.mp hi'
     have hst := rep_step b.kp _ i' cn (repK fi ls) hcn
     have hnt : cn ∉ (b.kp.map Prod.fst).take i' := fun z => by
       obtain ⟨jj, hj⟩ := List.getElem?_of_mem z
       rw [List.getElem?_take] at hj
       split at hj
       · have hil := (List.getElem?_eq_some_iff.mp hj).1
         have := (List.getElem?_inj hil hnd).mp (hj.trans hcn.symm)
         omega
       · cases hj
     have hin : cn ∈ (b.kp.filter fun z => !(decide (z.1 ∈ (b.kp.map Prod.fst).take i') && !repK fi ls z.1)).map Prod.fst := by
       obtain ⟨z, hz, ez⟩ := List.mem_map.mp (List.mem_of_getElem? hcn)
       refine List.mem_map.mpr ⟨z, List.mem_filter.mpr ⟨hz, ?_⟩, ez⟩
       rw [ez, decide_eq_false hnt]
       rfl
     generalize (b.kp.filter fun z => !(decide (z.1 ∈ (b.kp.map Prod.fst).take i') && !repK fi ls z.1)) = pki at *
     have hbi : ((zup repB w.bs F).set i { b with kp := pki })[i]? = some { b with kp := pki } := set_eq' hzi
     have hset := lw_set w10 hbi 0 rfl (.dK (pkK (pki.filter fun z => !decide (z.1 = cn)))) { b with kp := pki.filter fun z => !decide (z.1 = cn) } rfl
     have hkd10 : H' b.kd = some (.dK (pkK pki)) := hset.1
     have w11 := hset.2
     have hls10 : SqL K H' l5 (ls.map V.int) := sq_of (w10.imm _ _ (sB9 _ _ (sB6 _ _ hl5)))
     obtain ⟨v, hv⟩ : ∃ v, valV (pkK pki) (.inl cn) = some v := Option.isSome_iff_exists.mp (by rw [pk_is]; exact decide_eq_true hin)
     have popd : ∀ (Q2 : VK), Q2 v (upd H' b.kd (.dK (pkK (pki.filter fun z => !decide (z.1 = cn))))) → mDPop (.ref b.kd) (.int cn) H' Q2 := fun Q2 k2 => by
       refine rd_dpop hkd10 hv ?_
       rw [pk_drop]
       exact k2
     walk_at "R"
     refine br_by (fun h => ?_) (fun h => ?_)
     · have hr2 : ¬ repK fi ls cn = true := by
         unfold repK
         rw [decide_eq_true h]
         exact fun z => by cases z
       walk_at "R"
       refine popd _ ?_
       refine .a ⟨?_, _, rfl⟩
       rw [hst, if_neg hr2]
       rw [List.set_set] at w11
       exact w11
     · walk_at "R"
       refine rd_inI hls10 ?_
       walk_at "R"
       refine br_by (fun h2 => ?_) (fun h2 => ?_)
       · have hr2 : ¬ repK fi ls cn = true := by
           unfold repK
           rw [decide_eq_true h2, Bool.or_true]
           exact fun z => by cases z
         walk_at "R"
         refine popd _ ?_
         refine .a ⟨?_, _, rfl⟩
         rw [hst, if_neg hr2]
         rw [List.set_set] at w11
         exact w11
       · have hr2 : repK fi ls cn = true := by
           unfold repK
           rw [decide_eq_false h, decide_eq_false h2]
           rfl
         refine .a ⟨?_, _, rfl⟩
         rw [hst, if_pos hr2]
         exact w10
   · obtain ⟨w10, x10', rfl⟩ := wy.un
     have er := rep_end b.kp (repK fi ls)
     rw [List.length_map, er] at w10
     have gr : Same B2 B9 := sB5.trans (sB6.trans sB9)
     have ez2 := (zup_snoc repB (S := w.bs) (F := F) (x := b) (y := (fi, ls)) (by rw [hFl]; exact hb)).1
     rw [hFl] at ez2
     refine .a ⟨B9, F ++ [(fi, ls)], ts ++ [t6], i5, r5, z5, _, _, _, _, _, _, ?_, sB2.trans gr, ?_, by rw [List.length_append, hFl]; rfl, tok5, rfl⟩
     · rw [ez2, List.map_append]
       exact w10
     · refine ⟨by rw [List.length_append, List.length_append, htl]; rfl, fun jj tt yy h1 h2 => ?_⟩
       by_cases hjj : jj < ts.length
       · rw [List.getElem?_append_left hjj] at h1
         rw [List.getElem?_append_left (htl ▸ hjj)] at h2
         exact (hts.mono gr).at' jj tt yy h1 h2
       · rw [List.getElem?_append_right (by omega)] at h1
         rw [List.getElem?_append_right (by omega), ← htl] at h2
         cases hj2 : jj - ts.length with
         | zero =>
           rw [hj2] at h1 h2
           cases h1
           cases h2
           exact ⟨l5, sB9 _ _ hB6, sB9 _ _ (sB6 _ _ hl5)⟩
         | succ j2 =>
           rw [hj2] at h1
           cases h1
 · obtain ⟨B2, F, ts, i1, r1, z1, x5, x6, x7, x8, x9, x10, w2, sB2, hts, hFl, tok2, rfl⟩ := wz.un
   have hFl : F.length = n := by omega
   have hbl : (zup repB w.bs F).length = n := (zup_len repB (by omega)).trans lb
   have hkds : ((zup repB w.bs F).map fun b => V.ref b.kd) = w.bs.map fun b => V.ref b.kd := zup_map repB (fun b => V.ref b.kd) (fun _ _ => rfl) _ _
   have hmain : ∀ i, i < n → ∃ (b : BeK) (kp : Pk), (zup repB w.bs F)[i]? = some { b with kp := kp } ∧ PkAt B kp ∧ (kp.map Prod.fst).Pairwise (· < ·) ∧ kp.length ≤ 100 := fun i hi => by
     obtain ⟨b, x, r, o, h1, h2, h3, h4, h5⟩ := (lw.ok i hi).ex
     obtain ⟨y, hy, e1⟩ := zup_at repB (F := F) (by omega) h1
     have hso := lw.an.so x (List.mem_of_getElem? h2)
     have hkk : b.kp.map Prod.fst = x.2.pk.map Prod.fst := by rw [← pkX_keys, h5.ks, pkX_keys]
     have hxl := kx_len hso.1
     have hlim := h5.lim
     have hxn := hso.1.n0
     have hl := congrArg List.length hkk
     rw [List.length_map, List.length_map] at hl
     refine ⟨b, b.kp.filter fun x => repK y.1 y.2 x.1, e1, h5.kb.filter _, ?_, Nat.le_trans (List.length_filter_le ..) (by omega)⟩
     rw [keep_keys, hkk]
     exact hso.1.asc.filter _
   walk_at "R"
   intro dl0 H3 n3 s3 e3
   refine frG (σ' := [some (.ref w.A.p), some (.ref P.kl), some (.ref P.nl), some (.ref t), some (.ref D), x5, x6, x7, x8, x9, x10, some (.ref dl0), none]) rfl ?_
   obtain ⟨B3, sB23, hB3, _, w3⟩ := w2.ro n3 s3 e3
   have sB3 := sB2.trans sB23
   have hkl3 := w3.imm _ _ (sB3 _ _ lw.kl)
   clear w2
   walk_at "R"
   refine rd_forR1 ?_
   walk_at "R"
   rw [List.length_map, lb]
   refine ⟨n, fun i σ H' => Stop (∃ (B4 : Hp) (dl : Addr) (dts : List Addr) (x5 x12 : Option V), Own H B (t :: lwas ⟨T.b.C_Anchor, T.b.C_Meter, T.b.C_UpperSender, T.b.C_UpperReceiver⟩ P w) B4 ([(t, tapeL a i1 r1 z1), (D, .lst (ts.map V.ref))] ++ lwcells ⟨T.b.C_Anchor, T.b.C_Meter, T.b.C_UpperSender, T.b.C_UpperReceiver⟩ P { w with bs := zup repB w.bs F }) H' ∧ Same B3 B4 ∧ B4 dl = some (.lst (dts.map V.ref)) ∧ LtsAt "down" B4 dts (letsK 0 (((zup repB w.bs F).map fun b => pkX b.kp).take i)) ∧ dts.length ≤ 100 * i ∧
     σ = [some (.ref w.A.p), some (.ref P.kl), some (.ref P.nl), some (.ref t), some (.ref D), x5, x6, x7, x8, x9, x10, some (.ref dl), x12]), rfl, ⟨by omega, by omega⟩, .a ⟨B3, dl0, [], _, _, w3, Same.refl _, hB3, ⟨rfl, fun i t y h1 => (nomatch h1)⟩, Nat.le_refl _, rfl⟩, fun i σ' H' hi wy => ?_, fun σ' H' wy => ?_⟩
   · obtain ⟨B4, dl, dts, x5, x12, w4x, sB4, hdl, hlt, hdlen, rfl⟩ := wy.un
     have hi : i < n := by omega
     obtain ⟨b, kp, hbz, hkb, hasc, hkpl⟩ := hmain i hi
     have hkd4 : H' b.kd = some (.dK (pkK kp)) := (lw_set w4x hbz 0 rfl (.dK []) { b with kp := [] } rfl).1
     have hkl4 := w4x.imm _ _ ((sB3.trans sB4) _ _ lw.kl)
     have hkls : SqL K H' P.kl (((zup repB w.bs F).map fun b => b.kd).map V.ref) := by
       rw [List.map_map]
       exact sq_of (hkl4.trans (congrArg (fun l => some (HO.lst l)) hkds.symm))
     walk_at "R"
     refine rd_lcW ?_
     walk_at "R"
     refine op_u_law_kept ⟨P.kl, (zup repB w.bs F).map fun b => b.kd, i, b.kd, kp, rfl, hkls, by rw [List.getElem?_map, hbz]; rfl, hkd4, (hkb.mono (sB3.trans sB4)).mono w4x.imm, hasc, by omega, fun D5 ts5 qs5 H5 hD5 io5 => ?_⟩
     have hil5 := io5.ls.len
     have hkx : (pkX kp).length = kp.length := by
       unfold pkX
       exact List.length_map ..
     walk_at "R"
     refine ⟨⟨_, sq_of io5.at'⟩, ?_⟩
     refine wl_tups (ts5.map V.ref) (ltV "down" i (pkX kp) qs5) (sq_of io5.at') (by rw [List.length_map]; omega) (fun jj z hz H6 R s6 kk => ?_) (fun D6 ps6 H6 nD6 nt6 => ?_)
     · rw [List.getElem?_map] at hz
       obtain ⟨tj, htj, rfl⟩ := Option.map_eq_some_iff.mp hz
       obtain ⟨c5, q5, x5', e51, e52, e53, e54⟩ := io5.ls.at' htj
       walk_at "R"
       refine rd_ixT (st_of (s6 _ _ e53)) rfl ?_
       walk_at "R"
       refine rd_ixT (st_of (s6 _ _ e53)) rfl ?_
       walk_at "R"
       intro t7 H7 n7 s7 e7
       refine kk t7 H7 n7 s7 ?_
       unfold ltV
       rw [List.getD_eq_getElem?_getD, List.getD_eq_getElem?_getD, e51, e52]
       exact e7
     obtain ⟨B5, sB5, hB5, io5b, w5⟩ := w4x.ioR hD5 io5
     obtain ⟨B6, sB6, hB6, tl6, w6⟩ := w5.nt nD6 nt6
     rw [List.length_map] at tl6
     have hlt6 := lts_new (io5b.mono sB6) tl6
     have hltl := hlt6.ln
     have hkll : (kLets (i : Int) (pkX kp)).length = kp.length := by
       unfold kLets
       rw [List.length_map]
       exact hkx
     have sB46 := sB5.trans sB6
     refine rd_cat (w6.imm _ _ (sB46 _ _ hdl)) nt6.at' (by rw [List.length_map, List.length_map]; omega) ?_
     intro dl7 H7 n7 s7 e7
     obtain ⟨B7, sB7, hB7, _, w7⟩ := w6.ro n7 s7 e7
     refine .a ⟨B7, dl7, dts ++ ps6, _, _, w7, sB4.trans (sB46.trans sB7), by rw [List.map_append]; exact hB7, ?_, by rw [List.length_append]; omega, rfl⟩
     have hK : ((zup repB w.bs F).map fun b => pkX b.kp)[i]? = some (pkX kp) := by
       rw [List.getElem?_map, hbz]
       rfl
     rw [take_snoc hK, letsK_snoc, List.length_take, List.length_map, hbl, Nat.min_eq_left (by omega), Int.zero_add]
     exact (hlt.mono (sB46.trans sB7)).app (hlt6.mono sB7)
   · obtain ⟨B4, dl, dts, x5, x12, w4x, sB4, hdl, hlt, hdlen, rfl⟩ := wy.un
     obtain ⟨B5, sB5, hB5, w5⟩ := (w4x.perm (l' := (D, .lst (ts.map V.ref)) :: (t, tapeL a i1 r1 z1) :: lwcells ⟨T.b.C_Anchor, T.b.C_Meter, T.b.C_UpperSender, T.b.C_UpperReceiver⟩ P { w with bs := zup repB w.bs F }) (List.Perm.swap ..)).ice hDn
     have w5a := lw_an (L := [(t, tapeL a i1 r1 z1)]) (w5.perm (l' := lwcells ⟨T.b.C_Anchor, T.b.C_Meter, T.b.C_UpperSender, T.b.C_UpperReceiver⟩ P { w with bs := zup repB w.bs F } ++ [(t, tapeL a i1 r1 z1)]) (List.perm_append_comm (l₂ := [_])))
     have hpA := w5a.mem (p := w.A.p) (.head _)
     have sB05 := sB3.trans (sB4.trans sB5)
     have hpl : ∀ x ∈ w.s.S, x.2.pk.length ≤ 1000 := fun x hx => by
       obtain ⟨k, hk⟩ := List.getElem?_of_mem hx
       have hkn := (List.getElem?_eq_some_iff.mp hk).1
       obtain ⟨b, x2, r, o, h1, h2, h3, h4, h5⟩ := (lw.ok k (by omega)).ex
       rw [hk] at h2
       cases h2
       have := kx_len (lw.an.so x hx).1
       have := h5.lim
       have := (lw.an.so x hx).1.n0
       omega
     walk_at "R"
     refine op_Anchor_begin_stay ⟨w.A, w.s, D, ts, F, B5, rfl, w5a.cellsL, lw.an.mono sB05, hB5, hts.mono (sB23.trans (sB4.trans sB5)), by omega, hpl, by omega, fun B6 H6 D6 us6 w6' ab6 nD6 hD6 hlt6 => ?_⟩
     have w6 := (lw_anb (w := { w with bs := zup repB w.bs F }) (A' := w.A) (s' := w.s.beg F) (w5a.call (lc := ancells ⟨T.b.C_Anchor, T.b.C_Meter, T.b.C_UpperSender, T.b.C_UpperReceiver⟩ w.A w.s) w6')).perm (l' := (t, tapeL a i1 r1 z1) :: lwcells ⟨T.b.C_Anchor, T.b.C_Meter, T.b.C_UpperSender, T.b.C_UpperReceiver⟩ P (w.beg F)) (List.perm_append_comm (l₁ := [_]))
     have gr6 := w6'.grow
     obtain ⟨lw6, ek6⟩ := lw.beg (sB05.trans gr6) hj hFl ab6
     have hlt7 := hlt.mono (sB5.trans gr6)
     rw [List.take_of_length_le (by rw [List.length_map, hbl]; exact Nat.le_refl _), ek6, ← letsF_K] at hlt7
     walk_at "R"
     refine rd_eqS (n := 4) (.list ((letsF 0 (begS w.s.S F w.s.S.length)).map (ltD "down"))) (.lst (sq_of (w6.imm _ _ hD6)) (hlt6.mono w6.imm).dps) (.lst (sq_of (w6.imm _ _ (gr6 _ _ (sB5 _ _ hdl)))) (hlt7.mono w6.imm).dps) (sh_lst (sh_map (fun y => sh_down (n := 1) y) _)) ?_
     exact q B6 H6 (w.beg F) i1 r1 z1 w6 tok2 lw6 rfl rfl
def fromU (U : List (List Int)) (f : Int) (n : Nat) : List (List Int) := (List.range n).map fun i => U.getD (f.toNat + i) []
theorem fromU_succ (U : List (List Int)) (f : Int) (n : Nat) : fromU U f (n + 1) = fromU U f n ++ [U.getD (f.toNat + n) []] := by
  unfold fromU
  rw [List.range_succ, List.map_append]
  rfl
theorem fromU_len (U : List (List Int)) (f : Int) (n : Nat) : (fromU U f n).length = n := by
  unfold fromU
  rw [List.length_map, List.length_range]
theorem take_fromU (U : List (List Int)) (f : Int) : ∀ n : Nat, f.toNat + n ≤ U.length → U.take f.toNat ++ fromU U f n = U.take (f.toNat + n)
  | 0, _ => List.append_nil _
  | n + 1, h => by
    rw [fromU_succ, ← List.append_assoc, take_fromU U f n (by omega), ← Nat.add_assoc, List.take_add_one, List.getD_eq_getElem?_getD, List.getElem?_eq_getElem (by omega)]
    rfl
theorem fromU_cons (U : List (List Int)) {f : Int} (h : 0 ≤ f) (n : Nat) : fromU U f (n + 1) = U.getD f.toNat [] :: fromU U (f + 1) n := by
  unfold fromU
  rw [List.range_succ_eq_map, List.map_cons, List.map_map, Nat.add_zero]
  congr 1
  refine List.map_congr_left fun i _ => ?_
  show U.getD (f.toNat + (i + 1)) [] = U.getD ((f + 1).toNat + i) []
  congr 1
  omega
theorem clsU_from (U : List (List Int)) : ∀ (n : Nat) (K : KX) (f : Int), 0 ≤ f → (∀ y ∈ K, y.2 = U.getD y.1.toNat []) → (clsU n K f).2.2 = fromU U f (clsU n K f).2.2.length
  | 0, K, f, _, _ => rfl
  | n + 1, K, f, h0, h => by
    by_cases hf : f ∈ K.map Prod.fst
    · obtain ⟨x, hx⟩ := sget_some hf
      rw [clsU_yes hx]
      have ih := clsU_from U n (K.filter fun y => !decide (y.1 = f)) (f + 1) (by omega) fun y hy => h y (List.mem_filter.mp hy).1
      dsimp only
      rw [List.length_cons, fromU_cons U h0, ← ih]
      have := h _ (sget_in hx)
      rw [← this]
    · rw [clsU_no hf]
      rfl
def hkUp (hk : List Int) (f c : Int) : List Int := if c < f then hk else if c ∈ hk then hk else hk ++ [c]
structure UpTo (r r' : UrS) (hk : List Int) (c : Int) (U : List (List Int)) (G : List (List Int)) : Prop where
  ok : UrOk r'
  g : G = fromU U r.first G.length
  f : r'.first = r.first + (G.length : Int)
  hks : ∀ m, m ∈ hkUp hk r.first c ↔ (0 ≤ m ∧ m < r'.first) ∨ m ∈ r'.pk.map Prod.fst
  hns : (hkUp hk r.first c).Nodup
  rk : ∀ y ∈ r'.pk, y.1 < 40 ∧ y.2.2 = U.getD y.1.toNat []
  rf : r'.first ≤ 40
  rb : r'.bits = r.bits
theorem up_to {r r' : UrS} {hk : List Int} {c : Int} {U : List (List Int)} (ok : UrOk r) (h1 : ∀ m, m ∈ hk ↔ (0 ≤ m ∧ m < r.first) ∨ m ∈ r.pk.map Prod.fst) (hn : hk.Nodup) (h2 : ∀ y ∈ r.pk, y.1 < 40 ∧ y.2.2 = U.getD y.1.toNat []) (h3 : r.first ≤ 40) (hc : 0 ≤ c ∧ c < 40)
    (e : r'.q = (r.q.take c (U.getD c.toNat [])).1) : UpTo r r' hk c U (r.q.take c (U.getD c.toNat [])).2 := by
  have ok' := ok.take e
  have e1 : r'.bits = (r.q.take c (U.getD c.toNat [])).1.bits := congrArg UrQ.bits e
  have e2 : r'.first = (r.q.take c (U.getD c.toNat [])).1.first := congrArg UrQ.first e
  have e3 : pkX r'.pk = (r.q.take c (U.getD c.toNat [])).1.K := congrArg UrQ.K e
  have f0 := ok.f0
  unfold UrQ.take at e1 e2 e3 ⊢
  by_cases hcc : c < r.q.first ∨ c ∈ r.q.K.map Prod.fst
  · rw [if_pos hcc] at e1 e2 e3 ⊢
    have ek : r'.pk.map Prod.fst = r.pk.map Prod.fst := by
      rw [← pkX_keys, ← pkX_keys, e3]
      rfl
    have e2 : r'.first = r.first := e2
    have hck : c < r.first ∨ c ∈ r.pk.map Prod.fst := hcc.elim .inl fun z => .inr (by
      have z : c ∈ (pkX r.pk).map Prod.fst := z
      rw [pkX_keys] at z
      exact z)
    have hup : hkUp hk r.first c = hk := by
      unfold hkUp
      split
      · rfl
      · rename_i hlt
        rw [if_pos ((h1 c).mpr (.inr (hck.resolve_left hlt)))]
    refine ⟨ok', rfl, by rw [e2]; exact (Int.add_zero _).symm, fun m => by rw [hup, e2, ek]; exact h1 m, by rw [hup]; exact hn, fun y hy => ?_, by omega, e1⟩
    have hy2 : (y.1, y.2.2) ∈ pkX r'.pk := List.mem_map.mpr ⟨y, hy, rfl⟩
    rw [e3] at hy2
    obtain ⟨z, hz, ez⟩ := List.mem_map.mp (show (y.1, y.2.2) ∈ pkX r.pk from hy2)
    have := h2 z hz
    obtain ⟨e5, e6⟩ := Prod.mk.inj ez
    rw [← e5, ← e6]
    exact this
  · rw [if_neg hcc] at e1 e2 e3 ⊢
    have hnf : ¬ c < r.first := fun z => hcc (.inl z)
    have hnk : c ∉ r.pk.map Prod.fst := fun z => hcc (.inr (by
      show c ∈ (pkX r.pk).map Prod.fst
      rw [pkX_keys]
      exact z))
    have hnh : c ∉ hk := fun z => by
      rcases (h1 c).mp z with h | h
      · omega
      · exact hnk h
    have hup : hkUp hk r.first c = hk ++ [c] := by
      unfold hkUp
      rw [if_neg hnf, if_neg hnh]
    have hge : ∀ y ∈ pkX r.pk ++ [(c, U.getD c.toNat [])], r.first ≤ y.1 := fun y hy => by
      rcases List.mem_append.mp hy with hy | hy
      · have := ok.gt y.1 (by rw [← pkX_keys]; exact List.mem_map.mpr ⟨y, hy, rfl⟩)
        omega
      · rw [List.mem_singleton.mp hy]
        show r.first ≤ c
        omega
    have hcon : ∀ y ∈ pkX r.pk ++ [(c, U.getD c.toNat [])], y.1 < 40 ∧ y.2 = U.getD y.1.toNat [] := fun y hy => by
      rcases List.mem_append.mp hy with hy | hy
      · obtain ⟨z, hz, rfl⟩ := List.mem_map.mp hy
        exact h2 z hz
      · rw [List.mem_singleton.mp hy]
        exact ⟨hc.2, rfl⟩
    obtain ⟨k1, k2, k3, k4⟩ := clsU_ks ((pkX r.pk).length + 1) (pkX r.pk ++ [(c, U.getD c.toNat [])]) r.first (by rw [List.length_append]; exact Nat.le_refl _) hge
    have k5 := (clsU_sum ((pkX r.pk).length + 1) (pkX r.pk ++ [(c, U.getD c.toNat [])]) r.first).2
    have k6 := clsU_from U ((pkX r.pk).length + 1) (pkX r.pk ++ [(c, U.getD c.toNat [])]) r.first f0 fun y hy => (hcon y hy).2
    have e2 : r'.first = (clsU ((pkX r.pk).length + 1) (pkX r.pk ++ [(c, U.getD c.toNat [])]) r.first).2.1 := e2
    have e3 : pkX r'.pk = (clsU ((pkX r.pk).length + 1) (pkX r.pk ++ [(c, U.getD c.toNat [])]) r.first).1 := e3
    show UpTo r r' hk c U (clsU ((pkX r.pk).length + 1) (pkX r.pk ++ [(c, U.getD c.toNat [])]) r.first).2.2
    have hkeys : ∀ m, m ∈ (pkX r.pk ++ [(c, U.getD c.toNat [])]).map Prod.fst ↔ m ∈ r.pk.map Prod.fst ∨ m = c := fun m => by
      rw [List.map_append, List.mem_append, pkX_keys]
      exact ⟨fun h => h.elim .inl fun h => .inr (List.mem_singleton.mp h), fun h => h.elim .inl fun h => .inr (List.mem_singleton.mpr h)⟩
    generalize (clsU ((pkX r.pk).length + 1) (pkX r.pk ++ [(c, U.getD c.toNat [])]) r.first) = R at *
    have ek : ∀ m, m ∈ r'.pk.map Prod.fst ↔ R.2.1 ≤ m ∧ (m ∈ r.pk.map Prod.fst ∨ m = c) := fun m => by
      rw [← pkX_keys, e3, k2, ← hkeys m]
      refine ⟨fun h => ?_, fun h => ?_⟩
      · obtain ⟨y, hy, rfl⟩ := List.mem_map.mp h
        have := List.mem_filter.mp hy
        exact ⟨of_decide_eq_true this.2, List.mem_map.mpr ⟨y, this.1, rfl⟩⟩
      · obtain ⟨y, hy, rfl⟩ := List.mem_map.mp h.2
        exact List.mem_map.mpr ⟨y, List.mem_filter.mpr ⟨hy, decide_eq_true h.1⟩, rfl⟩
    refine ⟨ok', k6, by rw [e2]; exact k5, fun m => ?_, ?_, fun y hy => ?_, ?_, e1⟩
    · rw [hup, List.mem_append, List.mem_singleton, h1 m, ek m, e2]
      constructor
      · rintro ((h | h) | h)
        · exact .inl ⟨h.1, by omega⟩
        · by_cases hm : m < R.2.1
          · exact .inl ⟨by have := ok.gt m h; omega, hm⟩
          · exact .inr ⟨by omega, .inl h⟩
        · by_cases hm : m < R.2.1
          · exact .inl ⟨by omega, hm⟩
          · exact .inr ⟨by omega, .inr h⟩
      · rintro (h | h)
        · by_cases hm : m < r.first
          · exact .inl (.inl ⟨h.1, hm⟩)
          · rcases (hkeys m).mp (k4 m (by omega) h.2) with h5 | h5
            · exact .inl (.inr h5)
            · exact .inr h5
        · exact h.2.elim (fun h5 => .inl (.inr h5)) .inr
    · rw [hup]
      refine List.nodup_append.mpr ⟨hn, List.nodup_cons.mpr ⟨fun z => (nomatch z), List.nodup_nil⟩, fun a ha b hb e => hnh ?_⟩
      rw [List.mem_singleton.mp hb] at e
      rw [← e]
      exact ha
    · have hy2 : (y.1, y.2.2) ∈ pkX r'.pk := List.mem_map.mpr ⟨y, hy, rfl⟩
      rw [e3, k2] at hy2
      exact hcon _ (List.mem_filter.mp hy2).1
    · rw [e2]
      by_cases h0 : R.2.1 = r.first
      · omega
      · obtain ⟨y, hy, ey⟩ := List.mem_map.mp (k4 (R.2.1 - 1) (by omega) (by omega))
        have := (hcon y hy).1
        omega
theorem hk_is (hk : List Int) (n : Int) : (valV (hkK hk) (.inl n)).isSome = decide (n ∈ hk) := by
  induction hk with
  | nil => rfl
  | cons y r ih =>
    unfold hkK
    rw [List.map_cons]
    by_cases e : y = n
    · rw [valV_pos (congrArg Sum.inl e), e]
      exact (decide_eq_true (.head _)).symm
    · rw [valV_neg (fun z => e (Sum.inl.inj z))]
      refine ih.trans ?_
      refine decide_eq_decide.mpr ⟨fun z => .tail _ z, fun z => ?_⟩
      rcases List.mem_cons.mp z with z | z
      · exact absurd z.symm e
      · exact z
theorem hk_put (hk : List Int) (c : Int) : putK (hkK hk) (.inl c) (.bl true) = hkK (if c ∈ hk then hk else hk ++ [c]) := by
  by_cases h : c ∈ hk
  · rw [if_pos h]
    unfold putK
    have : ((hkK hk).any fun kv => decide (kv.1 = Sum.inl c)) = true := by
      refine List.any_eq_true.mpr ⟨(.inl c, .bl true), List.mem_map.mpr ⟨c, h, rfl⟩, decide_eq_true rfl⟩
    rw [this, if_pos rfl]
    conv => rhs; rw [← List.map_id (hkK hk)]
    refine List.map_congr_left fun x hx => ?_
    obtain ⟨n, hn, rfl⟩ := List.mem_map.mp hx
    by_cases e : n = c
    · rw [e]
      exact if_pos rfl
    · exact if_neg fun z => e (Sum.inl.inj z)
  · rw [if_neg h, putK_new _ (by
      have := hk_is hk c
      rw [decide_eq_false h] at this
      cases e : valV (hkK hk) (.inl c) with
      | none => rfl
      | some v =>
        rw [e] at this
        cases this)]
    unfold hkK
    rw [List.map_append]
    rfl
def llenU (o : Option HO) : Nat := match o with
  | some (.lst k) => k.length
  | _ => 0
def Lw.up (w : Lw) (k : Nat) (b : BeK) (r : P3 × UrS) (r' : UrS) (o : Addr × List Addr) (cs : List Addr) (hk : List Int) (oq : List Addr) (G : List (List Int)) : Lw := { w with s := w.s.up k r r' o cs G, bs := w.bs.set k { b with hk := hk, oq := oq }, M1 := w.M1.set k (w.M1.getD k 0 + sumL G) }
theorem LwOk.up {B B' : Hp} {P : LwA} {w : Lw} {n : Nat} {bits : Int} {j k : Nat} (h : LwOk B P w n bits j) (s : Same B B') (hk : k < n) (hj : j < 100) {b : BeK} {x : P3 × UsS} {r : P3 × UrS} {o : Addr × List Addr} (hb : w.bs[k]? = some b) (hx : w.s.S[k]? = some x) (hr : w.s.R[k]? = some r) (ho : w.s.O[k]? = some o)
    (be : BeR B bits k j b x.2 r.2 o.2 (w.nx.getD k 0) (w.M0.getD k 0) (w.M1.getD k 0) w.s.mt.E) {r' : UrS} {c : Int} {G : List (List Int)} (ut : UpTo r.2 r' b.hk c b.U G) {cs oq : List Addr} (hcs : LLs B' cs G) (hoq : LLs B' oq (b.U.take r'.first.toNat)) (an : AnB B' w.A (w.s.up k r r' o cs G)) :
    LwOk B' P (w.up k b r r' o cs (hkUp b.hk r.2.first c) oq G) n bits (j + 1) := by
  have h3 := h.n3
  have l1 := h.l1
  have lb := h.lb
  have lR := h.lR
  have lO := h.lO
  have f0 := (h.an.ro r (List.mem_of_getElem? hr)).1.f0
  have hbs : ∀ f : BeK → Addr, f { b with hk := hkUp b.hk r.2.first c, oq := oq } = f b → ((w.bs.set k { b with hk := hkUp b.hk r.2.first c, oq := oq }).map fun b => V.ref (f b)) = w.bs.map fun b => V.ref (f b) := fun f e => set_p hb f e
  refine ⟨h.n3, h.bb, by omega, an, MtOk.adL (by omega) (by omega) _ h.mo, ?_, h.lS, ?_, ?_, h.lx, h.l0, ?_, ?_, ?_, ?_, ?_, s _ _ h.ml, fun i hi => ?_⟩
  · show (w.bs.set k _).length = n
    rw [List.length_set, lb]
  · show (w.s.R.set k _).length = n
    rw [List.length_set, lR]
  · show (w.s.O.set k _).length = n
    rw [List.length_set, lO]
  · show (w.M1.set k _).length = n
    rw [List.length_set, l1]
  · exact (s _ _ h.kl).trans (congrArg (fun l => some (HO.lst l)) (hbs (fun b => b.kd) rfl).symm)
  · exact (s _ _ h.hl).trans (congrArg (fun l => some (HO.lst l)) (hbs (fun b => b.hd) rfl).symm)
  · exact (s _ _ h.ol).trans (congrArg (fun l => some (HO.lst l)) (hbs (fun b => b.oa) rfl).symm)
  · exact (s _ _ h.ul).trans (congrArg (fun l => some (HO.lst l)) (hbs (fun b => b.ua) rfl).symm)
  · by_cases e : i = k
    · subst e
      have bm := be.mono s
      have hf := ut.f
      have hgl := fromU_len b.U r.2.first G.length
      have et : b.U.take r'.first.toNat = b.U.take r.2.first.toNat ++ G := by
        rw [ut.g, take_fromU _ _ _ (by have := ut.rf; have := be.ul; omega)]
        congr 1
        omega
      refine ⟨{ b with hk := hkUp b.hk r.2.first c, oq := oq }, x, (r.1, r'), (o.1, o.2 ++ cs), set_eq' (by omega), hx, set_eq' (by omega), set_eq' (by omega), ⟨bm.xb, ut.rb.trans bm.rb, bm.ks, bm.kb, bm.nx, by have := bm.lim; omega, ?_, ?_, ut.hks, ut.hns, ut.rk, ut.rf, bm.ul, bm.up, bm.uq, bm.ua, hoq, ?_⟩⟩
      · show w.M0.getD i 0 = (tget (w.s.mt.adL i 1 G).E ((i : Int), 0)).getD 0
        rw [MtS.adL_val, if_neg (fun z => by cases z), Int.add_zero]
        exact bm.m0
      · show (w.M1.set i _).getD i 0 = (tget (w.s.mt.adL i 1 G).E ((i : Int), 1)).getD 0
        rw [getD_set_eq (by omega), MtS.adL_val, if_pos rfl, ← bm.m1]
      · rw [et]
        exact bm.o2.app hcs
    · obtain ⟨b2, x2, r2, o2, h1, h2, h3, h4, h5⟩ := (h.ok i hi).ex
      have bm := h5.mono s
      have hne : ∀ y : Int, ((i : Int), y) ≠ ((k : Int), (1 : Int)) := fun y z => e (by
        have := congrArg Prod.fst z
        have : (i : Int) = (k : Int) := this
        omega)
      refine ⟨b2, x2, r2, o2, (set_ne' e).trans h1, h2, (set_ne' e).trans h3, (set_ne' e).trans h4, ⟨bm.xb, bm.rb, bm.ks, bm.kb, bm.nx, by have := bm.lim; omega, ?_, ?_, bm.hk, bm.hn, bm.rk, bm.rf, bm.ul, bm.up, bm.uq, bm.ua, bm.o1, bm.o2⟩⟩
      · refine bm.m0.trans ?_
        show _ = (tget (w.s.mt.adL k 1 G).E ((i : Int), 0)).getD 0
        rw [MtS.adL_val, if_neg (hne 0), Int.add_zero]
      · refine (getD_set_ne e).trans (bm.m1.trans ?_)
        show _ = (tget (w.s.mt.adL k 1 G).E ((i : Int), 1)).getD 0
        rw [MtS.adL_val, if_neg (hne 1), Int.add_zero]
def sp_u_law_up (K : PySem.W.Frag) (C : AnC) : Sp := fun vs H Q _ => ∃ (P : LwA) (w : Lw) (n : Nat) (bits : Int) (j k : Nat) (cn st : Int) (B : Hp), vs = [.ref w.A.p, .ref P.ul, .ref P.hl, .ref P.ol, .ref P.ml, .int k, .int cn, .int st] ∧ Cells H B (lwcells C P w) ∧ LwOk B P w n bits j ∧ k < n ∧ j < 100 ∧ (0 ≤ cn ∧ cn < 40) ∧
  ∀ (B' H' : Hp) (w' : Lw), Own H B (lwas C P w) B' (lwcells C P w') H' → LwOk B' P w' n bits (j + 1) → w'.A = w.A → w'.s.stay = w.s.stay → Q (.bl true) H'
@[irreducible] def ip_u_law_up (K : PySem.W.Frag) (C : AnC) : Sp := sp_u_law_up K C
theorem op_u_law_up {K : PySem.W.Frag} {C : AnC} : ∀ {vs H Q E}, sp_u_law_up K C vs H Q E → ip_u_law_up K C vs H Q E := fun h => by unfold ip_u_law_up; exact h
theorem un_u_law_up {K : PySem.W.Frag} {C : AnC} : ∀ {vs H Q E}, ip_u_law_up K C vs H Q E → sp_u_law_up K C vs H Q E := fun h => by unfold ip_u_law_up at h; exact h
theorem ok_u_law_up (T : Tx P w K mg base) : FnOk P w K mg base CX0 5 T.d2.a_u_law_up T.d2.d_u_law_up ["anchor", "ups", "held", "outs", "meters", "bearer", "count", "stay"] (ip_u_law_up K ⟨T.b.C_Anchor, T.b.C_Meter, T.b.C_UpperSender, T.b.C_UpperReceiver⟩) := by
 have G_Anchor_take_letter := ok_Anchor_take_letter T
 refine T.d2.p_u_law_up.F.ok sc_u_law_up (fun vs H Q E h => ?_) (fun cdv A outer s H vs Q E hr h => ?_)
 · obtain ⟨P, w, n, bits, j, k, cn, st, B, rfl, c, lw, hk, hj, hc, q⟩ := un_u_law_up h
   rfl
 obtain ⟨P, w, n, bits, j, k, cn, st, B, rfl, c, lw, hk, hj, hc, q⟩ := un_u_law_up h
 refine ⟨_, (pss_cons (ps_set (i := 8) sc_u_law_up.nd rfl (Or.inl rfl) (pe_ix ix_listM (pe_ix ix_listM (pv 1) (pv 5) (fun _ _ => rfl)) (pv 6) (fun _ _ => rfl))) (pss_cons (ps_set (i := 9) sc_u_law_up.nd rfl (Or.inl rfl) (meth_weak (pe_meth (pe_c (pv 0)) T.k0.k_Anchor.cl T.d2.p_Anchor_take_letter.me G_Anchor_take_letter (hr.mono (by decide)) T.d2.p_Anchor_take_letter.b .nil pass0 (pa_cons (pe_tupM (pa_cons pe_str (pa_cons (pv 5) (pa_cons (pv 6) (pa_cons (pe_callTy call_listM (by rfl) T.b.n_list (by decide +kernel) (pa_cons (pv 8) pa_nil)) pa_nil))))) (pa_cons (pv 7) pa_nil))))) (pss_cons (ps_set (i := 10) sc_u_law_up.nd rfl (Or.inl rfl) (pe_lstM pa_nil)) (pss_cons (ps_ifJ (pt_cmpR op_geM (pv 6) (pe_callB call_lenM (by rfl) T.b.n_len PySem.boot_len (pa_cons (pe_ix ix_listM (pv 3) (pv 5) (fun _ _ => rfl)) pa_nil)) (nomark _)) (pss_one (ps_dputM (hu_of hr) (pe_ix ix_listM (pv 2) (pv 5) (fun _ _ => rfl)) (pv 6) pe_bl)) pss_nil) (pss_cons (ps_whileM PassesOwn.never (pt_cmp (pc_dinM (hu_of hr) (pe_callB call_lenM (by rfl) T.b.n_len PySem.boot_len (pa_cons (pe_ix ix_listM (pv 3) (pv 5) (fun _ _ => rfl)) pa_nil)) (pe_ix ix_listM (pv 2) (pv 5) (fun _ _ => rfl)))) (pss_cons (ps_set (i := 8) sc_u_law_up.nd rfl (Or.inl rfl) (pe_ix ix_listM (pe_ix ix_listM (pv 1) (pv 5) (fun _ _ => rfl)) (pe_callB call_lenM (by rfl) T.b.n_len PySem.boot_len (pa_cons (pe_ix ix_listM (pv 3) (pv 5) (fun _ _ => rfl)) pa_nil)) (fun _ _ => rfl))) (pss_cons (ps_expr (pe_app (pv 10) (pv 8))) (pss_cons (ps_expr (pe_app (pe_ix ix_listM (pv 3) (pv 5) (fun _ _ => rfl)) (pv 8))) (pss_one (ps_asg (pe_op op_addM (pe_ix ix_listM (pe_ix ix_listM (pv 4) pe_int (fun _ _ => rfl)) (pv 5) (fun _ _ => rfl)) (pe_callB call_lenM (by rfl) T.b.n_len PySem.boot_len (pa_cons (pv 8) pa_nil))) (pg_sub (pe_ix ix_listM (pv 4) pe_int (fun _ _ => rfl)) (pv 5) set_listM))))))) (pss_one (ps_ret (pe_cmpR (op_eqDM hr.units) (pv 9) (pv 10) (nomark _))))))))), ?_⟩
 obtain ⟨b, x, r, o, hb, hx, hr, ho, be⟩ := (lw.ok k hk).ex
 have w0 : Own H B (lwas ⟨T.b.C_Anchor, T.b.C_Meter, T.b.C_UpperSender, T.b.C_UpperReceiver⟩ P w) B (lwcells ⟨T.b.C_Anchor, T.b.C_Meter, T.b.C_UpperSender, T.b.C_UpperReceiver⟩ P w) H := c.start
 have hul := be.ul
 have hro := lw.an.ro r (List.mem_of_getElem? hr)
 have hf0 := hro.1.f0
 have hrf := be.rf
 have hn3 := lw.n3
 have hul0 := w0.imm _ _ lw.ul
 have hua0 := w0.imm _ _ be.ua
 have huql := be.uq.len
 have hci : b.U[cn.toNat]? = some (b.U.getD cn.toNat []) := by
   rw [List.getD_eq_getElem?_getD, List.getElem?_eq_getElem (by omega)]
   rfl
 obtain ⟨ca, hca⟩ : ∃ ca, b.uq[cn.toNat]? = some ca := ⟨_, List.getElem?_eq_getElem (by omega)⟩
 obtain ⟨cx, hcx, hcaB⟩ := be.uq.at hca
 rw [hci] at hcx
 cases hcx
 have hpA0 := (lw_an (L := []) (by rw [List.append_nil]; exact w0)).mem (p := w.A.p) (.head _)
 walk_at "R"
 refine rd_ixL (sq_of hul0) (ref_at (fun b : BeK => b.ua) hb) ?_
 walk_at "R"
 refine rd_ixL (sq_of hua0) (at_of (j := cn.toNat) (by omega) (by rw [List.getElem?_map, hca]; rfl)) ?_
 walk_at "R"
 refine rd_list (sq_of (w0.imm _ _ hcaB)) ?_
 intro pa H1 n1 s1 e1
 obtain ⟨B1, sB1, hB1, _, w1⟩ := w0.ro n1 s1 e1
 walk_at "R"
 intro lt H2 n2 s2 e2
 obtain ⟨B2, sB2, hB2, _, w2⟩ := w1.ro n2 s2 e2
 have w2a := lw_an (L := []) (by rw [List.append_nil]; exact w2)
 have hpA := w2a.mem (p := w.A.p) (.head _)
 have sB12 := sB1.trans sB2
 have hrpl : r.2.pk.length ≤ 10000 := by
   have h1 := nodup_code (fun m : Int => m.toNat) 40 _ hro.1.nd (fun m hm => by
     obtain ⟨y, hy, rfl⟩ := List.mem_map.mp hm
     have := (be.rk y hy).1
     have := hro.1.gt y.1 hm
     show y.1.toNat < 40
     omega) (fun m1 hm1 m2 hm2 e => by
     have h5 := hro.1.gt m1 hm1
     have h6 := hro.1.gt m2 hm2
     have e : m1.toNat = m2.toNat := e
     omega)
   rw [List.length_map] at h1
   omega
 have hol2 : o.2.length ≤ 50000 := by
   rw [be.o2.len, List.length_take]
   omega
 walk_at "R"
 refine op_Anchor_take_letter ⟨w.A, w.s, lt, st, B2, rfl, w2a.cellsL, lw.an.mono sB12, lw.mo, .inl ⟨k, cn, pa, _, r, o, hB2, sB2 _ _ hB1, hr, ho, hrpl, hol2, by omega, fun B3 H3 D gs cs r' hq w3' ab3 hcs hD hgs => ?_⟩⟩
 have ut := up_to hro.1 be.hk be.hn be.rk hrf hc hq
 generalize hG : (r.2.q.take cn (b.U.getD cn.toNat [])).2 = G at *
 have w3 := lw_anb (w := w) (w2a.call (lc := ancells ⟨T.b.C_Anchor, T.b.C_Meter, T.b.C_UpperSender, T.b.C_UpperReceiver⟩ w.A w.s) w3')
 rw [List.append_nil] at w3
 have sB3 := sB12.trans w3'.grow
 have lf := fun (oq : List Addr) => lw.up (oq := oq) sB3 hk hj hb hx hr ho be ut hcs
 clear w3' w2a w2 w1 w0 s1 s2 e1 e2 hul0 hua0 hpA hpA0
 walk_at "R"
 intro dl H4 n4 s4 e4
 have w4 : Own H B (lwas ⟨T.b.C_Anchor, T.b.C_Meter, T.b.C_UpperSender, T.b.C_UpperReceiver⟩ P w) B3 ([(dl, .lst [])] ++ lwcells ⟨T.b.C_Anchor, T.b.C_Meter, T.b.C_UpperSender, T.b.C_UpperReceiver⟩ P { w with A := w.A, s := w.s.up k r r' o cs G }) H4 := w3.add n4 s4 e4
 have hdn := (w3.frS n4).1
 have hol4 := w4.imm _ _ (sB3 _ _ lw.ol)
 have hhl4 := w4.imm _ _ (sB3 _ _ lw.hl)
 have hoa4 : H4 b.oa = some (.lst (b.oq.map V.ref)) := (lw_set w4 hb 2 rfl (.lst []) { b with oq := [] } rfl).1
 have hhd4 : H4 b.hd = some (.dK (hkK b.hk)) := (lw_set w4 hb 1 rfl (.dK []) { b with hk := [] } rfl).1
 have hoql := be.o1.len
 rw [List.length_take] at hoql
 have hof : (b.oq.length : Int) = r.2.first := by omega
 have hhkl : b.hk.length ≤ 100 := by
   have := nodup_code (fun m : Int => m.toNat) 100 _ be.hn (fun m hm => by
     rcases (be.hk m).mp hm with h | h
     · show m.toNat < 100
       omega
     · obtain ⟨y, hy, rfl⟩ := List.mem_map.mp h
       have := (be.rk y hy).1
       show y.1.toNat < 100
       omega) (fun m1 hm1 m2 hm2 e => by
     have pos : ∀ m ∈ b.hk, 0 ≤ m := fun m hm => by
       rcases (be.hk m).mp hm with h | h
       · exact h.1
       · have := hro.1.gt m h
         omega
     have h5 := pos m1 hm1
     have h6 := pos m2 hm2
     have e : m1.toNat = m2.toNat := e
     omega)
   exact this
 have hbk : k < w.bs.length := (List.getElem?_eq_some_iff.mp hb).1
 refine frG (σ' := [some (.ref w.A.p), some (.ref P.ul), some (.ref P.hl), some (.ref P.ol), some (.ref P.ml), some (.int k), some (.int cn), some (.int st), some (.ref ca), some (.ref D), some (.ref dl)]) rfl ?_
 walk_at "R"
 refine rd_ixL (sq_of hol4) (ref_at (fun b : BeK => b.oa) hb) ?_
 walk_at "R"
 refine rd_ifJ (fun σ' H' => Stop (Own H B (lwas ⟨T.b.C_Anchor, T.b.C_Meter, T.b.C_UpperSender, T.b.C_UpperReceiver⟩ P w) B3 ([(dl, .lst [])] ++ lwcells ⟨T.b.C_Anchor, T.b.C_Meter, T.b.C_UpperSender, T.b.C_UpperReceiver⟩ P { w with A := w.A, s := w.s.up k r r' o cs G, bs := w.bs.set k { b with hk := hkUp b.hk r.2.first cn } }) H' ∧
   σ' = [some (.ref w.A.p), some (.ref P.ul), some (.ref P.hl), some (.ref P.ol), some (.ref P.ml), some (.int k), some (.int cn), some (.int st), some (.ref ca), some (.ref D), some (.ref dl)])) (fun h => ?_) (fun h => ?_) (fun σ' H' wy => ?_)
 · have h := of_decide_eq_true h
   rw [List.length_map] at h
   walk_at "R"
   refine rd_ixL (sq_of hhl4) (ref_at (fun b : BeK => b.hd) hb) ?_
   walk_at "R"
   refine rd_dput hhd4 (by unfold hkK; rw [List.length_map]; omega) ?_
   rw [hk_put]
   have e : (if cn ∈ b.hk then b.hk else b.hk ++ [cn]) = hkUp b.hk r.2.first cn := by
     unfold hkUp
     rw [if_neg (show ¬ cn < r.2.first by omega)]
   rw [e]
   exact .a ⟨(lw_set w4 hb 1 rfl (.dK (hkK (hkUp b.hk r.2.first cn))) { b with hk := hkUp b.hk r.2.first cn } rfl).2, rfl⟩
 · have h := of_decide_eq_false h
   rw [List.length_map] at h
   have e : hkUp b.hk r.2.first cn = b.hk := if_pos (by omega)
   refine .a ⟨?_, rfl⟩
   rw [e, show ({ b with hk := b.hk } : BeK) = b from rfl, set_self hb]
   exact w4
 obtain ⟨w5, rfl⟩ := wy.un
 clear wy w4 hol4 hhl4 hoa4 hhd4
 have hgl : r'.first = r.2.first + (G.length : Int) := ut.f
 have hl1 := lw.l1
 have eM : w.M1.set k (w.M1.getD k 0 + sumL (fromU b.U r.2.first 0)) = w.M1 := by
   show w.M1.set k (w.M1.getD k 0 + 0) = w.M1
   rw [Int.add_zero]
   refine set_self ?_
   rw [List.getD_eq_getElem?_getD, List.getElem?_eq_getElem (by omega)]
   rfl
 walk_at "R"
 refine rd_while (fun σ H' => Stop (∃ (i : Nat) (ds : List Addr) (x8 : Option V), i ≤ G.length ∧ ds.length = i ∧ Own H B (lwas ⟨T.b.C_Anchor, T.b.C_Meter, T.b.C_UpperSender, T.b.C_UpperReceiver⟩ P w) B3 ([(dl, .lst (ds.map V.ref))] ++ lwcells ⟨T.b.C_Anchor, T.b.C_Meter, T.b.C_UpperSender, T.b.C_UpperReceiver⟩ P { w with A := w.A, s := w.s.up k r r' o cs G, bs := w.bs.set k { b with hk := hkUp b.hk r.2.first cn, oq := b.oq ++ ds }, M1 := w.M1.set k (w.M1.getD k 0 + sumL (fromU b.U r.2.first i)) }) H' ∧ LLs B3 ds (fromU b.U r.2.first i) ∧
   σ = [some (.ref w.A.p), some (.ref P.ul), some (.ref P.hl), some (.ref P.ol), some (.ref P.ml), some (.int k), some (.int cn), some (.int st), x8, some (.ref D), some (.ref dl)])) (fun _ H' => 1000 - llenU (H' b.oa)) (.a ⟨0, [], _, Nat.zero_le _, rfl, by rw [eM, List.append_nil]; exact w5, .nil, rfl⟩) (fun σ' H' wy => ?_)
 obtain ⟨i, ds, x8, hig, hdl, w6, hds, rfl⟩ := wy.un
 have hbi : ({ w with A := w.A, s := w.s.up k r r' o cs G, bs := w.bs.set k { b with hk := hkUp b.hk r.2.first cn, oq := b.oq ++ ds }, M1 := w.M1.set k (w.M1.getD k 0 + sumL (fromU b.U r.2.first i)) } : Lw).bs[k]? = some { b with hk := hkUp b.hk r.2.first cn, oq := b.oq ++ ds } := set_eq' hbk
 have hoa6 : H' b.oa = some (.lst ((b.oq ++ ds).map V.ref)) := (lw_set w6 hbi 2 rfl (.lst []) { b with hk := hkUp b.hk r.2.first cn, oq := [] } rfl).1
 have hhd6 : H' b.hd = some (.dK (hkK (hkUp b.hk r.2.first cn))) := (lw_set w6 hbi 1 rfl (.dK []) { b with hk := [], oq := b.oq ++ ds } rfl).1
 have hol6 := w6.imm _ _ (sB3 _ _ lw.ol)
 have hhl6 := w6.imm _ _ (sB3 _ _ lw.hl)
 have hul6 := w6.imm _ _ (sB3 _ _ lw.ul)
 have hml6 := w6.imm _ _ (sB3 _ _ lw.ml)
 have hua6 := w6.imm _ _ (sB3 _ _ be.ua)
 have elen : (((b.oq ++ ds).map V.ref).length : Int) = r.2.first + (i : Int) := by
   rw [List.length_map, List.length_append]
   omega
 have hrf' := ut.rf
 walk_at "R"
 refine rd_ixL (sq_of hol6) (ref_at (fun b : BeK => b.oa) hb) ?_
 walk_at "R"
 refine rd_ixL (sq_of hhl6) (ref_at (fun b : BeK => b.hd) hb) ?_
 walk_at "R"
 rw [hk_is, elen]
 refine br_by (fun h => ?_) (fun h => ?_)
 · have hlt : i < G.length := by
     rcases (ut.hks _).mp h with h5 | h5
     · omega
     · have := ut.ok.gt _ h5
       omega
   have hui : b.U[r.2.first.toNat + i]? = some (b.U.getD (r.2.first.toNat + i) []) := by
     rw [List.getD_eq_getElem?_getD, List.getElem?_eq_getElem (by omega)]
     rfl
   obtain ⟨qa, hqa⟩ : ∃ qa, b.uq[r.2.first.toNat + i]? = some qa := ⟨_, List.getElem?_eq_getElem (by omega)⟩
   obtain ⟨qx, hqx, hqB⟩ := be.uq.at hqa
   rw [hui] at hqx
   cases hqx
   have hq6 := w6.imm _ _ (sB3 _ _ hqB)
   walk_at "R"
   refine rd_ixL (sq_of hul6) (ref_at (fun b : BeK => b.ua) hb) ?_
   walk_at "R"
   refine rd_ixL (sq_of hol6) (ref_at (fun b : BeK => b.oa) hb) ?_
   walk_at "R"
   rw [elen]
   refine rd_ixL (sq_of hua6) (at_of (j := r.2.first.toNat + i) (by omega) (by rw [List.getElem?_map, hqa]; rfl)) ?_
   refine frG (σ' := [some (.ref w.A.p), some (.ref P.ul), some (.ref P.hl), some (.ref P.ol), some (.ref P.ml), some (.int k), some (.int cn), some (.int st), some (.ref qa), some (.ref D), some (.ref dl)]) rfl ?_
   have hdl6 := w6.mem (p := dl) (.head _)
   walk_at "R"
   refine rd_app hdl6 (by rw [List.length_map]; omega) ?_
   have w7 : Own H B (lwas ⟨T.b.C_Anchor, T.b.C_Meter, T.b.C_UpperSender, T.b.C_UpperReceiver⟩ P w) B3 ([(dl, .lst (ds.map V.ref ++ [V.ref qa]))] ++ lwcells ⟨T.b.C_Anchor, T.b.C_Meter, T.b.C_UpperSender, T.b.C_UpperReceiver⟩ P { w with A := w.A, s := w.s.up k r r' o cs G, bs := w.bs.set k { b with hk := hkUp b.hk r.2.first cn, oq := b.oq ++ ds }, M1 := w.M1.set k (w.M1.getD k 0 + sumL (fromU b.U r.2.first i)) }) _ := w6.set 0 rfl (.lst (ds.map V.ref ++ [V.ref qa]))
   generalize hH7 : upd H' dl (.lst (ds.map V.ref ++ [V.ref qa])) = H7 at w7 ⊢
   have hset := lw_set w7 hbi 2 rfl (.lst ((b.oq ++ ds).map V.ref ++ [V.ref qa])) { b with hk := hkUp b.hk r.2.first cn, oq := b.oq ++ (ds ++ [qa]) } (by
     unfold bcl
     dsimp only
     rw [← List.append_assoc, List.map_append (l₁ := b.oq ++ ds)]
     rfl)
   have hoa7 : H7 b.oa = some (.lst ((b.oq ++ ds).map V.ref)) := hset.1
   have w8 := hset.2
   have hol7 := w7.imm _ _ (sB3 _ _ lw.ol)
   walk_at "R"
   refine rd_ixL (sq_of hol7) (ref_at (fun b : BeK => b.oa) hb) ?_
   walk_at "R"
   refine rd_app hoa7 (by rw [List.length_map, List.length_append]; omega) ?_
   rw [List.set_set] at w8
   generalize hH8 : upd H7 b.oa (.lst ((b.oq ++ ds).map V.ref ++ [V.ref qa])) = H8 at w8 ⊢
   have hml8 := w8.imm _ _ (sB3 _ _ lw.ml)
   have hq8 := w8.imm _ _ (sB3 _ _ hqB)
   have hm18 : H8 P.m1 = some (.lst ((w.M1.set k (w.M1.getD k 0 + sumL (fromU b.U r.2.first i))).map V.int)) := w8.mem (.tail _ (.tail _ (.tail _ (.head _))))
   walk_at "R"
   refine rd_ixL (sq_of hml8) rfl ?_
   walk_at "R"
   refine rd_ixI (sq_of hm18) (by omega) (by rw [List.length_set]; omega) ?_
   walk_at "R"
   refine rd_ixL (sq_of hml8) rfl ?_
   walk_at "R"
   refine rd_setL hm18 (by omega) (by rw [List.length_map, List.length_set]; omega) ?_
   rw [Int.toNat_natCast, getD_set_eq (by omega), ← List.map_set, List.set_set]
   have w9 := w8.set 3 rfl (.lst ((w.M1.set k (w.M1.getD k 0 + sumL (fromU b.U r.2.first i) + ((b.U.getD (r.2.first.toNat + i) []).length : Int))).map V.int))
   have esum : w.M1.getD k 0 + sumL (fromU b.U r.2.first i) + ((b.U.getD (r.2.first.toNat + i) []).length : Int) = w.M1.getD k 0 + sumL (fromU b.U r.2.first (i + 1)) := by
     rw [fromU_succ]
     unfold sumL
     rw [List.map_append, List.sum_append, List.map_cons, List.sum_cons]
     show _ = _ + (_ + (_ + 0))
     omega
   rw [esum] at w9 ⊢
   refine ⟨.a ⟨i + 1, ds ++ [qa], _, by omega, by rw [List.length_append, hdl]; rfl, ?_, ?_, rfl⟩, ?_⟩
   · have e5 : (ds ++ [qa]).map V.ref = ds.map V.ref ++ [V.ref qa] := List.map_append
     rw [e5]
     exact w9
   · rw [fromU_succ]
     exact hds.snoc (sB3 _ _ hqB)
   · have hoa9 : (upd H8 P.m1 (.lst ((w.M1.set k (w.M1.getD k 0 + sumL (fromU b.U r.2.first (i + 1)))).map V.int))) b.oa = some (.lst ((b.oq ++ (ds ++ [qa])).map V.ref)) := by
       have hbi9 : ({ w with A := w.A, s := w.s.up k r r' o cs G, bs := w.bs.set k { b with hk := hkUp b.hk r.2.first cn, oq := b.oq ++ (ds ++ [qa]) }, M1 := w.M1.set k (w.M1.getD k 0 + sumL (fromU b.U r.2.first (i + 1))) } : Lw).bs[k]? = some { b with hk := hkUp b.hk r.2.first cn, oq := b.oq ++ (ds ++ [qa]) } := set_eq' hbk
       have w9' : Own H B (lwas ⟨T.b.C_Anchor, T.b.C_Meter, T.b.C_UpperSender, T.b.C_UpperReceiver⟩ P w) B3 ([(dl, .lst (ds.map V.ref ++ [V.ref qa]))] ++ lwcells ⟨T.b.C_Anchor, T.b.C_Meter, T.b.C_UpperSender, T.b.C_UpperReceiver⟩ P { w with A := w.A, s := w.s.up k r r' o cs G, bs := w.bs.set k { b with hk := hkUp b.hk r.2.first cn, oq := b.oq ++ (ds ++ [qa]) }, M1 := w.M1.set k (w.M1.getD k 0 + sumL (fromU b.U r.2.first (i + 1))) }) _ := w9
       exact (lw_set w9' hbi9 2 rfl (.lst []) { b with hk := hkUp b.hk r.2.first cn, oq := [] } rfl).1
     have m1 : llenU (some (.lst ((b.oq ++ (ds ++ [qa])).map V.ref))) = b.oq.length + i + 1 := by
       show ((b.oq ++ (ds ++ [qa])).map V.ref).length = _
       rw [List.length_map, List.length_append, List.length_append, hdl]
       show b.oq.length + (i + 1) = _
       omega
     have m2 : llenU (some (.lst ((b.oq ++ ds).map V.ref))) = b.oq.length + i := by
       show ((b.oq ++ ds).map V.ref).length = _
       rw [List.length_map, List.length_append, hdl]
     show 1000 - llenU _ < 1000 - llenU _
     rw [hoa9, hoa6, m1, m2]
     omega
 · have hie : i = G.length := by
     by_cases hlt : i < G.length
     · exact absurd ((ut.hks _).mpr (.inl ⟨by omega, by omega⟩)) h
     · omega
   subst hie
   have hg2 := ut.g
   walk_at "R"
   refine rd_eqLL (sq_of (w6.imm _ _ hD)) (hgs.mono w6.imm) (sq_of (w6.mem (.head _))) (hds.mono w6.imm) ?_
   rw [decide_eq_true hg2]
   rw [← hg2] at w6
   have hoq : LLs B3 (b.oq ++ ds) (b.U.take r'.first.toNat) := by
     have et : b.U.take r'.first.toNat = b.U.take r.2.first.toNat ++ fromU b.U r.2.first G.length := by
       rw [take_fromU _ _ _ (by omega)]
       congr 1
       omega
     rw [et]
     exact (be.o1.mono sB3).app hds
   have w10 := w6.perm (l' := lwcells ⟨T.b.C_Anchor, T.b.C_Meter, T.b.C_UpperSender, T.b.C_UpperReceiver⟩ P (w.up k b r r' o cs (hkUp b.hk r.2.first cn) (b.oq ++ ds) G) ++ [(dl, .lst (ds.map V.ref))]) List.perm_append_comm
   exact q B3 H' _ w10.pre (lf (b.oq ++ ds) hoq ab3) rfl rfl
theorem rep0 (n : Nat) : (List.replicate n [V.int 0]).flatten = (List.replicate n (0 : Int)).map V.int := by
  induction n with
  | zero => rfl
  | succ n ih =>
    rw [List.replicate_succ, List.flatten_cons, ih, List.replicate_succ, List.map_cons]
    rfl
theorem perm7 {β : Type} (t : β) (O Hh M M2 K An Bc : List β) (h1 : M2.Perm M) (h2 : Bc.Perm (K ++ (Hh ++ O))) : (t :: (M2 ++ (Bc ++ An))).Perm (O ++ (Hh ++ (t :: (M ++ (K ++ An))))) := by
  refine List.Perm.trans ?_ (List.Perm.append_left O (List.perm_middle (a := t) (l₁ := Hh) (l₂ := M ++ (K ++ An)))).symm
  refine List.Perm.trans ?_ (List.perm_middle (a := t) (l₁ := O) (l₂ := Hh ++ (M ++ (K ++ An)))).symm
  refine List.Perm.cons t ?_
  refine ((h1.append_right _).trans ((h2.append_right An).append_left M)).trans ?_
  rw [List.append_assoc, List.append_assoc]
  refine List.Perm.trans ?_ ((perm_mid Hh M (K ++ An)).append_left O).symm
  refine List.Perm.trans ?_ (perm_mid O M _).symm
  refine List.Perm.append_left M ?_
  refine List.Perm.trans ?_ ((perm_mid Hh K An).append_left O).symm
  refine List.Perm.trans ?_ (perm_mid O K _).symm
  exact List.Perm.append_left K (perm_mid Hh O An)
/-- the packets upward of one bearer -/
structure UpR where
  ua : Addr
  uq : List Addr
  U : List (List Int)
structure UpAt (B : Hp) (u : UpR) : Prop where
  a : B u.ua = some (.lst (u.uq.map V.ref))
  q : LLs B u.uq u.U
  l : u.U.length = 40
  p : ∀ x ∈ u.U, PkM 9 x
theorem letsF_nil : ∀ (S : List (P3 × UsS)) (k : Int), (∀ x ∈ S, x.2.pk = []) → letsF k S = []
  | [], _, _ => rfl
  | x :: r, k, h => by
    show kLets k (pkX x.2.pk) ++ letsF (k + 1) r = []
    rw [h x (.head _), letsF_nil r (k + 1) fun y hy => h y (.tail _ hy)]
    rfl
theorem begS_nil {S : List (P3 × UsS)} {F : List (Int × List Int)} (h : ∀ x ∈ S, x.2.pk = []) (i : Nat) : ∀ x ∈ begS S F i, x.2.pk = [] := fun x hx => by
  unfold begS at hx
  rcases List.mem_append.mp hx with hx | hx
  · obtain ⟨j, hj⟩ := List.getElem?_of_mem hx
    rw [List.getElem?_zipWith] at hj
    cases h1 : (S.take i)[j]? with
    | none =>
      rw [h1] at hj
      cases hj
    | some y =>
      cases h2 : (F.take i)[j]? with
      | none =>
        rw [h1, h2] at hj
        cases hj
      | some z =>
        rw [h1, h2] at hj
        cases hj
        show (y.2.pk.filter _) = []
        rw [h y (List.mem_of_mem_take (List.mem_of_getElem? h1))]
        rfl
  · exact h x (List.mem_of_mem_drop hx)
def Lw.conf (w : Lw) (k : Nat) (b : BeK) (x : P3 × UsS) (c : Int) : Lw := { w with s := { w.s with S := w.s.S.set k (x.1, x.2.keep fun z => !decide (z = c)) }, bs := w.bs.set k { b with kp := b.kp.filter fun y => !decide (y.1 = c) } }
theorem LwOk.step {B B' : Hp} {P : LwA} {w : Lw} {n : Nat} {bits : Int} {j : Nat} (h : LwOk B P w n bits j) (s : Same B B') (hj : j < 100) : LwOk B' P w n bits (j + 1) := by
  have h4 := h.mono s
  exact ⟨h4.n3, h4.bb, by omega, h4.an, h4.mo, h4.lb, h4.lS, h4.lR, h4.lO, h4.lx, h4.l0, h4.l1, h4.kl, h4.hl, h4.ol, h4.ul, h4.ml, fun i hi => by
    obtain ⟨b2, x2, r2, o2, h1, h2, h3, h4, h5⟩ := (h4.ok i hi).ex
    exact ⟨b2, x2, r2, o2, h1, h2, h3, h4, ⟨h5.xb, h5.rb, h5.ks, h5.kb, h5.nx, by have := h5.lim; omega, h5.m0, h5.m1, h5.hk, h5.hn, h5.rk, h5.rf, h5.ul, h5.up, h5.uq, h5.ua, h5.o1, h5.o2⟩⟩⟩
theorem LwOk.conf {B B' : Hp} {P : LwA} {w : Lw} {n : Nat} {bits : Int} {j k : Nat} (h : LwOk B P w n bits j) (s : Same B B') (hk : k < n) (hj : j < 100) {b : BeK} {x : P3 × UsS} {r : P3 × UrS} {o : Addr × List Addr} (hb : w.bs[k]? = some b) (hx : w.s.S[k]? = some x) (hr : w.s.R[k]? = some r) (ho : w.s.O[k]? = some o)
    (be : BeR B bits k j b x.2 r.2 o.2 (w.nx.getD k 0) (w.M0.getD k 0) (w.M1.getD k 0) w.s.mt.E) {c : Int} (an : AnB B' w.A { w.s with S := w.s.S.set k (x.1, x.2.keep fun z => !decide (z = c)) }) : LwOk B' P (w.conf k b x c) n bits (j + 1) := by
  have lb := h.lb
  have lS := h.lS
  have hbs : ∀ f : BeK → Addr, f { b with kp := b.kp.filter fun y => !decide (y.1 = c) } = f b → ((w.bs.set k { b with kp := b.kp.filter fun y => !decide (y.1 = c) }).map fun b => V.ref (f b)) = w.bs.map fun b => V.ref (f b) := fun f e => set_p hb f e
  refine ⟨h.n3, h.bb, by omega, an, h.mo, ?_, ?_, h.lR, h.lO, h.lx, h.l0, h.l1, ?_, ?_, ?_, ?_, s _ _ h.ml, fun i hi => ?_⟩
  · show (w.bs.set k _).length = n
    rw [List.length_set, lb]
  · show (w.s.S.set k _).length = n
    rw [List.length_set, lS]
  · exact (s _ _ h.kl).trans (congrArg (fun l => some (HO.lst l)) (hbs (fun b => b.kd) rfl).symm)
  · exact (s _ _ h.hl).trans (congrArg (fun l => some (HO.lst l)) (hbs (fun b => b.hd) rfl).symm)
  · exact (s _ _ h.ol).trans (congrArg (fun l => some (HO.lst l)) (hbs (fun b => b.oa) rfl).symm)
  · exact (s _ _ h.ul).trans (congrArg (fun l => some (HO.lst l)) (hbs (fun b => b.ua) rfl).symm)
  · by_cases e : i = k
    · subst e
      have bm := be.mono s
      refine ⟨{ b with kp := b.kp.filter fun y => !decide (y.1 = c) }, (x.1, x.2.keep fun z => !decide (z = c)), r, o, set_eq' (by omega), set_eq' (by omega), hr, ho, ⟨bm.xb, bm.rb, ?_, bm.kb.filter _, bm.nx, by have := bm.lim; show x.2.nx ≤ _; omega, bm.m0, bm.m1, bm.hk, bm.hn, bm.rk, bm.rf, bm.ul, bm.up, bm.uq, bm.ua, bm.o1, bm.o2⟩⟩
      show pkX (b.kp.filter fun y => !decide (y.1 = c)) = pkX (x.2.pk.filter fun y => !decide (y.1 = c))
      rw [pkX_filt b.kp (fun z => !decide (z = c)), pkX_filt x.2.pk (fun z => !decide (z = c)), bm.ks]
    · obtain ⟨b2, x2, r2, o2, h1, h2, h3, h4, h5⟩ := (h.ok i hi).ex
      have bm := h5.mono s
      exact ⟨b2, x2, r2, o2, (set_ne' e).trans h1, (set_ne' e).trans h2, h3, h4, ⟨bm.xb, bm.rb, bm.ks, bm.kb, bm.nx, by have := bm.lim; omega, bm.m0, bm.m1, bm.hk, bm.hn, bm.rk, bm.rf, bm.ul, bm.up, bm.uq, bm.ua, bm.o1, bm.o2⟩⟩
theorem clamp (x : Int) : 0 ≤ (if (if x < 39 then x else 39) > 0 then (if x < 39 then x else 39) else 0) ∧ (if (if x < 39 then x else 39) > 0 then (if x < 39 then x else 39) else 0) < 40 := by
  split <;> split <;> omega
def mkBs : List Addr → List Addr → List Addr → List UpR → List BeK
  | k :: ks, h :: hs, o :: os, u :: us => ⟨k, [], h, [], o, [], u.ua, u.uq, u.U⟩ :: mkBs ks hs os us
  | _, _, _, _ => []
structure MkBs (ks hs os : List Addr) (us : List UpR) (bs : List BeK) : Prop where
  len : bs.length = ks.length
  kd : (bs.map fun b => V.ref b.kd) = ks.map V.ref
  hd : (bs.map fun b => V.ref b.hd) = hs.map V.ref
  oa : (bs.map fun b => V.ref b.oa) = os.map V.ref
  ua : (bs.map fun b => V.ref b.ua) = us.map fun u => V.ref u.ua
  mem : ∀ b ∈ bs, ∃ u ∈ us, b.kp = [] ∧ b.hk = [] ∧ b.oq = [] ∧ b.ua = u.ua ∧ b.uq = u.uq ∧ b.U = u.U
  pm : (bs.flatMap bcl).Perm ((ks.flatMap fun d => [(d, HO.dK [])]) ++ ((hs.flatMap fun d => [(d, HO.dK [])]) ++ (os.flatMap fun o => [(o, HO.lst [])])))
theorem mkBs_ok : ∀ (ks hs os : List Addr) (us : List UpR), hs.length = ks.length → os.length = ks.length → us.length = ks.length → MkBs ks hs os us (mkBs ks hs os us)
  | [], [], [], [], _, _, _ => ⟨rfl, rfl, rfl, rfl, rfl, fun b hb => (nomatch hb), List.Perm.refl _⟩
  | [], _ :: _, _, _, h, _, _ => (nomatch h)
  | [], [], _ :: _, _, _, h, _ => (nomatch h)
  | [], [], [], _ :: _, _, _, h => (nomatch h)
  | _ :: _, [], _, _, h, _, _ => (nomatch h)
  | _ :: _, _ :: _, [], _, _, h, _ => (nomatch h)
  | _ :: _, _ :: _, _ :: _, [], _, _, h => (nomatch h)
  | k :: ks, h :: hs, o :: os, u :: us, h1, h2, h3 => by
    have ih := mkBs_ok ks hs os us (Nat.succ.inj h1) (Nat.succ.inj h2) (Nat.succ.inj h3)
    unfold mkBs
    refine ⟨by rw [List.length_cons, List.length_cons, ih.len], by rw [List.map_cons, List.map_cons, ih.kd], by rw [List.map_cons, List.map_cons, ih.hd], by rw [List.map_cons, List.map_cons, ih.oa], by rw [List.map_cons, List.map_cons, ih.ua], fun b hb => ?_, ?_⟩
    · rcases List.mem_cons.mp hb with e | hb
      · exact ⟨u, .head _, by rw [e]; exact ⟨rfl, rfl, rfl, rfl, rfl, rfl⟩⟩
      · obtain ⟨v, hv, e⟩ := ih.mem b hb
        exact ⟨v, .tail _ hv, e⟩
    · rw [List.flatMap_cons, List.flatMap_cons, List.flatMap_cons, List.flatMap_cons]
      show List.Perm ((k, HO.dK []) :: (h, HO.dK []) :: (o, HO.lst []) :: _) ((k, HO.dK []) :: (_ ++ ((h, HO.dK []) :: (_ ++ ((o, HO.lst []) :: _)))))
      refine List.Perm.cons _ ?_
      refine List.Perm.trans ?_ List.perm_middle.symm
      refine List.Perm.cons _ ?_
      refine List.Perm.trans ?_ ((List.perm_middle (l₁ := hs.flatMap fun d => [(d, HO.dK [])]).append_left _).symm)
      refine List.Perm.trans ?_ List.perm_middle.symm
      exact List.Perm.cons _ ih.pm
theorem UpAt.mono {B B' : Hp} {u : UpR} (h : UpAt B u) (s : Same B B') : UpAt B' u := ⟨s _ _ h.a, h.q.mono s, h.l, h.p⟩
def sp_law (K : PySem.W.Frag) : Sp := fun vs H Q _ => ∃ (a : Addr) (ns : List Int), vs = [.ref a] ∧ SqL K H a (ns.map V.int) ∧ ns.length ≤ 63 ∧ ∀ H', Q (.bl true) H'
@[irreducible] def ip_law (K : PySem.W.Frag) : Sp := sp_law K
theorem op_law {K : PySem.W.Frag} : ∀ {vs H Q E}, sp_law K vs H Q E → ip_law K vs H Q E := fun h => by unfold ip_law; exact h
theorem un_law {K : PySem.W.Frag} : ∀ {vs H Q E}, ip_law K vs H Q E → sp_law K vs H Q E := fun h => by unfold ip_law at h; exact h
theorem ok_law (T : Tx P w K mg base) : FnOk P w K mg base CX0 8 T.d2.a_law T.d2.d_law ["script"] (ip_law K) := by
 have G_Anchor___init__ := ok_Anchor___init__ T
 have G_u_law_next := ok_u_law_next T
 have G_Anchor_begin_stay := ok_Anchor_begin_stay T
 have G_u_law_packet := ok_u_law_packet T
 have G_u_law_down := ok_u_law_down T
 have G_Anchor_unconfirmed := ok_Anchor_unconfirmed T
 have G_u_law_kept := ok_u_law_kept T
 have G_Anchor_out := ok_Anchor_out T
 have G_Meter_metered := ok_Meter_metered T
 have G_Anchor_take_letter := ok_Anchor_take_letter T
 have G_u_law_begin := ok_u_law_begin T
 have G_u_law_up := ok_u_law_up T
 have G_u_law_put := ok_u_law_put T
 refine T.d2.p_law.F.ok sc_law (fun vs H Q E h => ?_) (fun cdv A outer s H vs Q E hr h => ?_)
 · obtain ⟨a, ns, rfl, hS, hlen, q⟩ := un_law h
   rfl
 obtain ⟨a, ns, rfl, hS, hlen, q⟩ := un_law h
 refine ⟨_, (pss_cons (ps_set (i := 1) sc_law.nd rfl (Or.inr rfl) (pe_lstM (pa_cons (pe_callTy call_listM (by rfl) T.b.n_list (by decide +kernel) (pa_cons (pv 0) pa_nil)) (pa_cons pe_int (pa_cons pe_int (pa_cons pe_int pa_nil)))))) (pss_cons (ps_set (i := 2) sc_law.nd rfl (Or.inl rfl) (pe_op op_addM pe_int (pe_call G_u_law_next (hr.mono (by decide)) rfl T.d2.p_u_law_next.m T.d2.p_u_law_next.F.kp T.d2.p_u_law_next.b .nil pass0 (pa_cons (pv 1) (pa_cons pe_int pa_nil))))) (pss_cons (ps_set (i := 3) sc_law.nd rfl (Or.inl rfl) (pe_op op_addM pe_int (pe_call G_u_law_next (hr.mono (by decide)) rfl T.d2.p_u_law_next.m T.d2.p_u_law_next.F.kp T.d2.p_u_law_next.b .nil pass0 (pa_cons (pv 1) (pa_cons pe_int pa_nil))))) (pss_cons (ps_set (i := 4) sc_law.nd rfl (Or.inl rfl) (pe_ix ix_listM (pe_lstM (pa_cons pe_int (pa_cons pe_int (pa_cons pe_int (pa_cons pe_int pa_nil))))) (pe_op op_subM (pv 3) pe_int) (fun _ _ => rfl))) (pss_cons (ps_set (i := 5) sc_law.nd rfl (Or.inl rfl) (pe_make T.k0.k_Anchor.mk' G_Anchor___init__ (hr.mono (by decide)) rfl T.b.g_Anchor T.d1.p_Anchor___init__.b .nil pass0 (pa_cons (pv 2) (pa_cons (pv 3) pa_nil)))) (pss_cons (ps_setLcW (i := 6) (own := [("k", 20)]) (g := (gName 20)) [20] im_rng1 rfl sc_law.nd rfl rfl (sw_true rfl rfl rfl (by decide +kernel)) (pi_range1 (by rfl) T.b.n_range (pa_c (pa_cons (pv 2) pa_nil))) (blkOk_by (own := [("k", 20)]) (N := ["script", "tape", "bearers", "bits", "half", "anchor", "kept", "nexts", "meters", "ups", "held", "outs", "stay", "turn", "kind", "bearer", "good", "count", "own", "way", "k"]) (sc := defScope S_law) (by decide +kernel)) (fun _ _ _ _ _ => (pg_name (i := 20) sc_law.nd rfl (Or.inl rfl))) (fun _ _ _ _ _ => pts_nil) (fun _ _ _ _ _ => pe_dnewK)) (pss_cons (ps_set (i := 7) sc_law.nd rfl (Or.inl rfl) (pe_op op_repM (pe_lstM (pa_cons pe_int pa_nil)) (pv 2))) (pss_cons (ps_set (i := 8) sc_law.nd rfl (Or.inl rfl) (pe_lstM (pa_cons (pe_op op_repM (pe_lstM (pa_cons pe_int pa_nil)) (pv 2)) (pa_cons (pe_op op_repM (pe_lstM (pa_cons pe_int pa_nil)) (pv 2)) pa_nil)))) (pss_cons (ps_setLcW (i := 9) (own := [("bearer", 15)]) (g := (gName 15)) [15] im_rng1 rfl sc_law.nd rfl rfl (sw_true rfl rfl rfl (by decide +kernel)) (pi_range1 (by rfl) T.b.n_range (pa_c (pa_cons (pv 2) pa_nil))) (blkOk_by (own := [("bearer", 15)]) (N := ["script", "tape", "bearers", "bits", "half", "anchor", "kept", "nexts", "meters", "ups", "held", "outs", "stay", "turn", "kind", "bearer", "good", "count", "own", "way", "k"]) (sc := defScope S_law) (by decide +kernel)) (fun _ _ _ _ _ => (pg_name (i := 15) sc_law.nd rfl (Or.inl rfl))) (fun _ _ _ _ _ => pts_nil) (fun _ _ _ _ _ => (pe_lcW (own := [("k", 20)]) (g := (gName 20)) [20] im_rng1 rfl sc_law.nd (pi_range1 (by rfl) T.b.n_range (pa_c (pa_cons pe_int pa_nil))) (by refine blkOk_by (own := [("k", 20)]) (N := ["script", "tape", "bearers", "bits", "half", "anchor", "kept", "nexts", "meters", "ups", "held", "outs", "stay", "turn", "kind", "bearer", "good", "count", "own", "way", "k"]) ?_; dsimp only [L2.Cx.blk, PySem.compEnvC, PySem.relabel, PySem.Env.kindOf, L2.cxOf, L2.Cx.nox, PyProof.Rows.envOfC]; exact rfl) (fun _ _ _ _ _ => (pg_name (i := 20) sc_law.nd rfl (Or.inl rfl))) (fun _ _ _ _ _ => pts_nil) (fun _ _ _ _ _ => (pe_call G_u_law_packet (hr.mono (by decide)) rfl T.d2.p_u_law_packet.m T.d2.p_u_law_packet.F.kp T.d2.p_u_law_packet.b .nil pass0 (pa_cons (pv 1) (pa_cons pe_int pa_nil))))))) (pss_cons (ps_setLcW (i := 10) (own := [("k", 20)]) (g := (gName 20)) [20] im_rng1 rfl sc_law.nd rfl rfl (sw_true rfl rfl rfl (by decide +kernel)) (pi_range1 (by rfl) T.b.n_range (pa_c (pa_cons (pv 2) pa_nil))) (blkOk_by (own := [("k", 20)]) (N := ["script", "tape", "bearers", "bits", "half", "anchor", "kept", "nexts", "meters", "ups", "held", "outs", "stay", "turn", "kind", "bearer", "good", "count", "own", "way", "k"]) (sc := defScope S_law) (by decide +kernel)) (fun _ _ _ _ _ => (pg_name (i := 20) sc_law.nd rfl (Or.inl rfl))) (fun _ _ _ _ _ => pts_nil) (fun _ _ _ _ _ => pe_dnewK)) (pss_cons (ps_setLcW (i := 11) (own := [("k", 20)]) (g := (gName 20)) [20] im_rng1 rfl sc_law.nd rfl rfl (sw_true rfl rfl rfl (by decide +kernel)) (pi_range1 (by rfl) T.b.n_range (pa_c (pa_cons (pv 2) pa_nil))) (blkOk_by (own := [("k", 20)]) (N := ["script", "tape", "bearers", "bits", "half", "anchor", "kept", "nexts", "meters", "ups", "held", "outs", "stay", "turn", "kind", "bearer", "good", "count", "own", "way", "k"]) (sc := defScope S_law) (by decide +kernel)) (fun _ _ _ _ _ => (pg_name (i := 20) sc_law.nd rfl (Or.inl rfl))) (fun _ _ _ _ _ => pts_nil) (fun _ _ _ _ _ => (pe_lstM pa_nil))) (pss_cons (ps_ifM (pt_cmpR (op_neDM hr.units) (meth_weak (pe_meth (pe_c (pv 5)) T.k0.k_Anchor.cl T.d1.p_Anchor_begin_stay.me G_Anchor_begin_stay (hr.mono (by decide)) T.d1.p_Anchor_begin_stay.b .nil pass0 (pa_cons (pe_lcW (own := [("k", 20)]) (g := (gName 20)) [20] im_rng1 rfl sc_law.nd (pi_range1 (by rfl) T.b.n_range (pa_c (pa_cons (pv 2) pa_nil))) (blkOk_by (own := [("k", 20)]) (N := ["script", "tape", "bearers", "bits", "half", "anchor", "kept", "nexts", "meters", "ups", "held", "outs", "stay", "turn", "kind", "bearer", "good", "count", "own", "way", "k"]) (sc := defScope S_law) (by decide +kernel)) (fun _ _ _ _ _ => (pg_name (i := 20) sc_law.nd rfl (Or.inl rfl))) (fun _ _ _ _ _ => pts_nil) (fun _ _ _ _ _ => (pe_tupM (pa_cons pe_int (pa_cons (pe_lstM pa_nil) pa_nil))))) pa_nil))) (pe_lstM pa_nil) (nomark _)) (pss_one (ps_ret pe_bl)) pss_nil) (pss_cons (ps_set (i := 12) sc_law.nd rfl (Or.inl rfl) pe_int) (pss_cons (ps_forR1 PassesOwn.never rfl rfl T.b.n_range (pa_cons (pe_op op_addM pe_int (pe_call G_u_law_next (hr.mono (by decide)) rfl T.d2.p_u_law_next.m T.d2.p_u_law_next.F.kp T.d2.p_u_law_next.b .nil pass0 (pa_cons (pv 1) (pa_cons pe_int pa_nil)))) pa_nil) (pg_name (i := 13) sc_law.nd rfl (Or.inl rfl)) (pss_cons (ps_set (i := 14) sc_law.nd rfl (Or.inl rfl) (pe_call G_u_law_next (hr.mono (by decide)) rfl T.d2.p_u_law_next.m T.d2.p_u_law_next.F.kp T.d2.p_u_law_next.b .nil pass0 (pa_cons (pv 1) (pa_cons pe_int pa_nil)))) (pss_cons (ps_set (i := 15) sc_law.nd rfl (Or.inl rfl) (pe_call G_u_law_next (hr.mono (by decide)) rfl T.d2.p_u_law_next.m T.d2.p_u_law_next.F.kp T.d2.p_u_law_next.b .nil pass0 (pa_cons (pv 1) (pa_cons (pv 2) pa_nil)))) (pss_cons (ps_set (i := 16) sc_law.nd rfl (Or.inl rfl) pe_bl) (pss_cons (ps_ifJ (pt_cmpR op_ltM (pv 14) pe_int (nomark _)) (pss_one (ps_set (i := 16) sc_law.nd rfl (Or.inl rfl) (pe_call G_u_law_down (hr.mono (by decide)) rfl T.d2.p_u_law_down.m T.d2.p_u_law_down.F.kp T.d2.p_u_law_down.b .nil pass0 (pa_cons (pv 5) (pa_cons (pv 6) (pa_cons (pv 7) (pa_cons (pv 8) (pa_cons (pv 4) (pa_cons (pv 15) (pa_cons (pe_call G_u_law_packet (hr.mono (by decide)) rfl T.d2.p_u_law_packet.m T.d2.p_u_law_packet.F.kp T.d2.p_u_law_packet.b .nil pass0 (pa_cons (pv 1) (pa_cons pe_int pa_nil))) pa_nil)))))))))) (pss_one (ps_ifC (PW.pt (pw_andM (pt_cmpR op_eq (pv 14) pe_int (nomark _)) (pw_and1 (pt_cmpR op_gtM (pe_ix ix_listM (pv 7) (pv 15) (fun _ _ => rfl)) pe_int (nomark _))))) (pss_cons (ps_set (i := 17) sc_law.nd rfl (Or.inl rfl) (pe_callB (call_max2 rfl) (by rfl) T.b.n_max (by decide +kernel) (pa_cons pe_int (pa_cons (pe_op op_subM (pe_op op_subM (pe_ix ix_listM (pv 7) (pv 15) (fun _ _ => rfl)) pe_int) (pe_call G_u_law_next (hr.mono (by decide)) rfl T.d2.p_u_law_next.m T.d2.p_u_law_next.F.kp T.d2.p_u_law_next.b .nil pass0 (pa_cons (pv 1) (pa_cons pe_int pa_nil)))) pa_nil)))) (pss_cons (ps_set (i := 18) sc_law.nd rfl (Or.inl rfl) (pe_op op_subM (pv 12) (pe_call G_u_law_next (hr.mono (by decide)) rfl T.d2.p_u_law_next.m T.d2.p_u_law_next.F.kp T.d2.p_u_law_next.b .nil pass0 (pa_cons (pv 1) (pa_cons pe_int pa_nil))))) (pss_cons (ps_ifM (pt_cmpR (op_neDM hr.units) (meth_weak (pe_meth (pe_c (pv 5)) T.k0.k_Anchor.cl T.d2.p_Anchor_take_letter.me G_Anchor_take_letter (hr.mono (by decide)) T.d2.p_Anchor_take_letter.b .nil pass0 (pa_cons (pe_tupM (pa_cons pe_str (pa_cons (pv 15) (pa_cons (pv 17) pa_nil)))) (pa_cons (pv 18) pa_nil)))) (pe_lstM pa_nil) (nomark _)) (pss_one (ps_ret pe_bl)) pss_nil) (pss_one (ps_ifM (PW.pt (pw_andM (pt_cmpR op_eq (pv 18) (pv 12) (nomark _)) (pw_and1 (pt_cmp (pc_dinM (hu_of hr) (pv 17) (pe_ix ix_listM (pv 6) (pv 15) (fun _ _ => rfl))))))) (pss_one (ps_expr (pe_dpopM (pe_ix ix_listM (pv 6) (pv 15) (fun _ _ => rfl)) (pv 17)))) pss_nil))))) (pss_one (ps_ifM (pt_cmpR op_eq (pv 14) pe_int (nomark _)) (pss_cons (ps_set (i := 12) sc_law.nd rfl (Or.inl rfl) (pe_op op_addM (pv 12) pe_int)) (pss_one (ps_set (i := 16) sc_law.nd rfl (Or.inl rfl) (pe_call G_u_law_begin (hr.mono (by decide)) rfl T.d2.p_u_law_begin.m T.d2.p_u_law_begin.F.kp T.d2.p_u_law_begin.b .nil pass0 (pa_cons (pv 5) (pa_cons (pv 6) (pa_cons (pv 7) (pa_cons (pv 1) pa_nil)))))))) (pss_one (ps_ifM (pt_cmpR op_ltM (pv 14) pe_int (nomark _)) (pss_cons (ps_set (i := 17) sc_law.nd rfl (Or.inl rfl) (pe_callB (call_max2 rfl) (by rfl) T.b.n_max (by decide +kernel) (pa_cons pe_int (pa_cons (pe_callB (call_min2 rfl) (by rfl) T.b.n_min (by decide +kernel) (pa_cons pe_int (pa_cons (pe_op op_addM (pe_op op_subM (pe_callB call_lenM (by rfl) T.b.n_len PySem.boot_len (pa_cons (pe_ix ix_listM (pv 11) (pv 15) (fun _ _ => rfl)) pa_nil)) pe_int) (pe_call G_u_law_next (hr.mono (by decide)) rfl T.d2.p_u_law_next.m T.d2.p_u_law_next.F.kp T.d2.p_u_law_next.b .nil pass0 (pa_cons (pv 1) (pa_cons pe_int pa_nil)))) pa_nil))) pa_nil)))) (pss_one (ps_set (i := 16) sc_law.nd rfl (Or.inl rfl) (pe_call G_u_law_up (hr.mono (by decide)) rfl T.d2.p_u_law_up.m T.d2.p_u_law_up.F.kp T.d2.p_u_law_up.b .nil pass0 (pa_cons (pv 5) (pa_cons (pv 9) (pa_cons (pv 10) (pa_cons (pv 11) (pa_cons (pv 8) (pa_cons (pv 15) (pa_cons (pv 17) (pa_cons (pv 12) pa_nil)))))))))))) (pss_one (ps_set (i := 16) sc_law.nd rfl (Or.inl rfl) (pe_andM (pe_cmpR op_isBl (pe_call G_u_law_put (hr.mono (by decide)) rfl T.d2.p_u_law_put.m T.d2.p_u_law_put.F.kp T.d2.p_u_law_put.b .nil pass0 (pa_cons (pv 5) (pa_cons (pv 15) (pa_cons (pe_lstM pa_nil) pa_nil)))) pe_bl (nomark _)) (pe_one (pe_cmpR op_isBl (pe_call G_u_law_put (hr.mono (by decide)) rfl T.d2.p_u_law_put.m T.d2.p_u_law_put.F.kp T.d2.p_u_law_put.b .nil pass0 (pa_cons (pv 5) (pa_cons (pv 15) (pa_cons (pe_op op_repM (pe_lstM (pa_cons pe_int pa_nil)) pe_int) pa_nil)))) pe_bl (nomark _))))))))))))) (pss_cons (ps_ifM (PW.pt (pw_orM (pt_not (pt_val (pv 16))) (pw_orM (pt_cmpR (op_neDM hr.units) (meth_weak (pe_meth (pe_c (pv 5)) T.k0.k_Anchor.cl T.d2.p_Anchor_unconfirmed.me G_Anchor_unconfirmed (hr.mono (by decide)) T.d2.p_Anchor_unconfirmed.b .nil pass0 (pa_cons (pv 15) pa_nil))) (pe_call G_u_law_kept (hr.mono (by decide)) rfl T.d2.p_u_law_kept.m T.d2.p_u_law_kept.F.kp T.d2.p_u_law_kept.b .nil pass0 (pa_cons (pv 6) (pa_cons (pv 15) pa_nil))) (nomark _)) (pw_or1 (pt_cmpR (op_neDM hr.units) (meth_weak (pe_meth (pe_c (pv 5)) T.k0.k_Anchor.cl T.d2.p_Anchor_out.me G_Anchor_out (hr.mono (by decide)) T.d2.p_Anchor_out.b .nil pass0 (pa_cons (pv 15) pa_nil))) (pe_ix ix_listM (pv 11) (pv 15) (fun _ _ => rfl)) (nomark _)))))) (pss_one (ps_ret pe_bl)) pss_nil) (pss_one (ps_forR1 PassesOwn.never rfl rfl T.b.n_range (pa_cons pe_int pa_nil) (pg_name (i := 19) sc_law.nd rfl (Or.inl rfl)) (pss_one (ps_ifM (pt_cmpR op_ne (meth_weak (pe_meth (pe_c (pe_fldM (pv 5) T.k0.k_Anchor.cl T.k0.f_Anchor_meter)) T.k0.k_Meter.cl T.d0.p_Meter_metered.me G_Meter_metered (hr.mono (by decide)) T.d0.p_Meter_metered.b .nil pass0 (pa_cons (pv 15) (pa_cons (pv 19) pa_nil)))) (pe_ix ix_listM (pe_ix ix_listM (pv 8) (pv 19) (fun _ _ => rfl)) (pv 15) (fun _ _ => rfl)) (nomark _)) (pss_one (ps_ret pe_bl)) pss_nil)))))))))) (pss_one (ps_ret pe_bl)))))))))))))))), ?_⟩
 walk_at "R"
 refine rd_list hS ?_
 intro a2 H1 n1 s1 e1
 obtain ⟨B1, sB1, hB1, _, w1⟩ := (Own.mk0 (H := H)).ro n1 s1 e1
 walk_at "R"
 intro t H2 n2 s2 e2
 have hat : a2 ≠ t := fun z => by
   rw [← z, e1] at n2
   cases n2
 have w2 : Own H H [] B1 [(t, tapeL a2 0 0 13)] H2 := w1.add n2 s2 e2
 have ok2 : TapeOk2 ns 0 0 13 := ⟨⟨by decide, by omega⟩, by decide, ⟨by decide, by decide⟩⟩
 have hSa : ∀ {B' H' : Hp}, Same B1 B' → Same B' H' → SqL K H' a2 (ns.map V.int) := fun s s' => sq_of (s' _ _ (s _ _ hB1))
 walk_at "R"
 refine next_tp ⟨0, 0, 13, ok2, w2.mem (.head _)⟩ (hSa (Same.refl _) w2.imm) ⟨by decide, by decide⟩ fun x3 H3 hx0 hx1 tp3 => ?_
 obtain ⟨i3, r3, z3, ok3, w3⟩ := w2.tape tp3
 generalize hmn : x3.toNat + 1 = n
 have emn : 1 + x3 = (n : Int) := by omega
 walk_at "R"
 rw [emn]
 have hn3 : 1 ≤ n ∧ n ≤ 3 := by omega
 walk_at "R"
 refine next_tp ⟨i3, r3, z3, ok3, w3.mem (.head _)⟩ (hSa (Same.refl _) w3.imm) ⟨by decide, by decide⟩ fun x4 H4 h40 h41 tp4 => ?_
 obtain ⟨i4, r4, z4, ok4, w4⟩ := w3.tape tp4
 walk_at "R"
 generalize hbits : 4 + x4 = bits
 have hb : 4 ≤ bits ∧ bits ≤ 7 := by omega
 intro l5 H5 n5 s5 e5
 walk_at "R"
 have hhalf : atI [V.int 8, V.int 16, V.int 32, V.int 64] (bits - 4) = some (V.int (2 ^ (bits - 1).toNat)) := by
   have h : bits = 4 ∨ bits = 5 ∨ bits = 6 ∨ bits = 7 := by omega
   rcases h with e | e | e | e <;> subst e <;> rfl
 refine rd_ixL (sq_of e5) hhalf ?_
 refine frG (σ' := [some (.ref a), some (.ref t), some (.int (n : Nat)), some (.int bits), some (.int (2 ^ (bits - 1).toNat)), none, none, none, none, none, none, none, none, none, none, none, none, none, none, none, none]) rfl ?_
 have w5 := w4.more s5
 clear w1 w2 w3 w4 tp3 tp4 e2 e5 s5
 walk_at "R"
 intro pA dxA npA ndA neA
 have w6 := own_new (C := T.b.C_Anchor) w5 npA ndA neA
 refine op_Anchor___init__ ⟨pA, dxA, n, bits, B1, rfl, by omega, hb, w6.cellsL (lc := [(pA, .ins T.b.C_Anchor dxA [])]), fun B7 A s0 H7 eA a0 w7' ab7 => ?_⟩
 subst eA
 have w7 := (w6.call (lc := [(A.p, .ins T.b.C_Anchor dxA [])]) w7').perm (l' := (t, tapeL a2 i4 r4 z4) :: ancells ⟨T.b.C_Anchor, T.b.C_Meter, T.b.C_UpperSender, T.b.C_UpperReceiver⟩ A s0) (List.perm_append_comm (l₁ := [_]))
 have sB7 := w7'.grow
 clear w5 w6 w7' npA ndA
 refine ⟨rfl, ?_⟩
 refine frG (σ' := [some (.ref a), some (.ref t), some (.int (n : Nat)), some (.int bits), some (.int (2 ^ (bits - 1).toNat)), some (.ref A.p), none, none, none, none, none, none, none, none, none, none, none, none, none, none, none]) rfl ?_
 walk_at "R"
 refine rd_lcW ?_
 walk_at "rd"
 walk_at "rd"
 refine rng1_ok (by omega) ?_
 rw [Int.toNat_natCast]
 refine wl_objs (α := Addr) (f := fun d => [(d, HO.dK [])]) (p := fun d => d) (P := fun _ => True) w7 (by omega) (fun i hi H' L' R w' k => ?_) (fun kl kds H8 nkl hkl _ w8 => ?_)
 · walk_at "R"
   intro d nd
   exact k d _ trivial (w'.add nd (same_upd (o := .dK []) nd) upd_same)
 obtain ⟨B8, sB8, hB8, w8⟩ := w8.ice (w7.frS nkl).1
 have w8 := w8.perm (l' := (t, tapeL a2 i4 r4 z4) :: (kds.flatMap (fun d => [(d, HO.dK [])]) ++ ancells ⟨T.b.C_Anchor, T.b.C_Meter, T.b.C_UpperSender, T.b.C_UpperReceiver⟩ A s0)) List.perm_middle.symm
 clear w7
 refine frG (σ' := [some (.ref a), some (.ref t), some (.int (n : Nat)), some (.int bits), some (.int (2 ^ (bits - 1).toNat)), some (.ref A.p), some (.ref kl), none, none, none, none, none, none, none, none, none, none, none, none, none, none]) rfl ?_
 walk_at "R"
 intro z9 H9 n9 s9 e9
 walk_at "R"
 refine rd_rep e9 (by omega) (by omega) (by show 1 * _ ≤ _; omega) ?_
 rw [Int.toNat_natCast, rep0]
 intro nl H10 n10 s10 e10
 have w10 := (w8.more s9).add n10 s10 e10
 refine frG (σ' := [some (.ref a), some (.ref t), some (.int (n : Nat)), some (.int bits), some (.int (2 ^ (bits - 1).toNat)), some (.ref A.p), some (.ref kl), some (.ref nl), none, none, none, none, none, none, none, none, none, none, none, none, none]) rfl ?_
 clear w8
 walk_at "R"
 intro z11 H11 n11 s11 e11
 walk_at "R"
 refine rd_rep e11 (by omega) (by omega) (by show 1 * _ ≤ _; omega) ?_
 rw [Int.toNat_natCast, rep0]
 intro m0 H12 n12 s12 e12
 have w12 := (w10.more s11).add n12 s12 e12
 walk_at "R"
 intro z13 H13 n13 s13 e13
 walk_at "R"
 refine rd_rep e13 (by omega) (by omega) (by show 1 * _ ≤ _; omega) ?_
 rw [Int.toNat_natCast, rep0]
 intro m1 H14 n14 s14 e14
 have w14 := (w12.more s13).add n14 s14 e14
 walk_at "R"
 intro ml H15 n15 s15 e15
 obtain ⟨B15, sB15, hB15, _, w15⟩ := w14.ro n15 s15 e15
 refine frG (σ' := [some (.ref a), some (.ref t), some (.int (n : Nat)), some (.int bits), some (.int (2 ^ (bits - 1).toNat)), some (.ref A.p), some (.ref kl), some (.ref nl), some (.ref ml), none, none, none, none, none, none, none, none, none, none, none, none]) rfl ?_
 have w15 := w15.perm (l' := (t, tapeL a2 i4 r4 z4) :: ([(m1, HO.lst ((List.replicate n (0 : Int)).map V.int)), (m0, HO.lst ((List.replicate n (0 : Int)).map V.int)), (nl, HO.lst ((List.replicate n (0 : Int)).map V.int))] ++ (kds.flatMap (fun d => [(d, HO.dK [])]) ++ ancells ⟨T.b.C_Anchor, T.b.C_Meter, T.b.C_UpperSender, T.b.C_UpperReceiver⟩ A s0))) (List.perm_middle (l₁ := [_, _, _])).symm
 generalize hL : [(m1, HO.lst ((List.replicate n (0 : Int)).map V.int)), (m0, HO.lst ((List.replicate n (0 : Int)).map V.int)), (nl, HO.lst ((List.replicate n (0 : Int)).map V.int))] ++ (kds.flatMap (fun d => [(d, HO.dK [])]) ++ ancells ⟨T.b.C_Anchor, T.b.C_Meter, T.b.C_UpperSender, T.b.C_UpperReceiver⟩ A s0) = L at w15
 clear w10 w12 w14 e9 e11 e13 s9 s11 s13 n9 n11 n13
 walk_at "R"
 refine rd_lcW ?_
 walk_at "rd"
 walk_at "rd"
 refine rng1_ok (by omega) ?_
 rw [Int.toNat_natCast]
 refine wl_rng (lo := 0) (by omega) fun Du hDu => ⟨fun i acc H' => ∃ (B' : Hp) (us : List UpR) (i1 r1 z1 : Int), acc = (us.map fun u => V.ref u.ua) ∧ us.length = i ∧ (∀ u ∈ us, UpAt B' u) ∧ Same B15 B' ∧ TapeOk2 ns i1 r1 z1 ∧ Own H H [] B' ((t, tapeL a2 i1 r1 z1) :: (Du, .lst acc) :: L) H', ⟨B15, [], i4, r4, z4, rfl, rfl, fun u hu => (nomatch hu), Same.refl _, ok4, (w15.add hDu (same_upd hDu) upd_same).perm (List.Perm.swap ..)⟩, fun i acc H' hi ha h2 p => ?_, fun acc H' ha h2 p => ?_⟩
 · obtain ⟨B', us, i5, r5, z5, rfl, hul, hus, sB', ok5, w16⟩ := p
   show _ ∧ _
   refine ⟨wipe_set rfl, ?_⟩
   show Br true _ _
   refine br_T ?_
   refine rd_lcW ?_
   walk_at "rd"
   refine ⟨by decide, by decide, ?_⟩
   refine wl_rng (lo := 0) (n := 40) (by decide) fun Di hDi => ⟨fun j acc2 H'' => ∃ (B'' : Hp) (uq : List Addr) (U : List (List Int)) (i1 r1 z1 : Int), acc2 = uq.map V.ref ∧ U.length = j ∧ LLs B'' uq U ∧ (∀ x ∈ U, PkM 9 x) ∧ Same B' B'' ∧ TapeOk2 ns i1 r1 z1 ∧ Own H H [] B'' ((t, tapeL a2 i1 r1 z1) :: (Di, .lst acc2) :: (Du, .lst (us.map fun u => V.ref u.ua)) :: L) H'', ⟨B', [], [], i5, r5, z5, rfl, rfl, .nil, fun x hx => (nomatch hx), Same.refl _, ok5, (w16.add hDi (same_upd hDi) upd_same).perm (List.Perm.swap ..)⟩, fun j acc2 H'' hj ha2 h22 p2 => ?_, fun acc2 H'' ha2 h22 p2 => ?_⟩
   · obtain ⟨B'', uq, U, i6, r6, z6, rfl, hUl, hU, hUp, sB'', ok6, w17⟩ := p2
     show _ ∧ _
     refine ⟨wipe_set rfl, ?_⟩
     show Br true _ _
     refine br_T ?_
     walk_at "R"
     refine op_u_law_packet ⟨t, a2, ns, 9, rfl, ⟨i6, r6, z6, ok6, w17.mem (.head _)⟩, hSa (sB7.trans (sB8.trans (sB15.trans (sB'.trans sB'')))) w17.imm, hat, ⟨by decide, by decide⟩, fun ds D3 H3 hpk nD3 tp3 e3 => ?_⟩
     obtain ⟨B3, i7, r7, z7, sB3, hB3, ok7, w18⟩ := w17.tapeD tp3 nD3 e3
     refine ⟨w18.mem (.tail _ (.head _)), B3, uq ++ [D3], U ++ [ds], i7, r7, z7, by rw [List.map_append]; rfl, by rw [List.length_append, hUl]; rfl, (hU.mono sB3).snoc hB3, fun x hx => ?_, sB''.trans sB3, ok7, w18.set 1 rfl (.lst (uq.map V.ref ++ [V.ref D3]))⟩
     rcases List.mem_append.mp hx with hx | hx
     · exact hUp x hx
     · rw [List.mem_singleton.mp hx]
       exact hpk
   · obtain ⟨B'', uq, U, i6, r6, z6, rfl, hUl, hU, hUp, sB'', ok6, w17⟩ := p2
     obtain ⟨B3, sB3, hB3, w18⟩ := (w17.perm (l' := (Di, .lst (uq.map V.ref)) :: (t, tapeL a2 i6 r6 z6) :: (Du, .lst (us.map fun u => V.ref u.ua)) :: L) (List.Perm.swap ..)).ice (w16.frS hDi).1
     refine ⟨w18.mem (.tail _ (.head _)), B3, us ++ [⟨Di, uq, U⟩], i6, r6, z6, by rw [List.map_append]; rfl, by rw [List.length_append, hul]; rfl, fun u hu => ?_, sB'.trans (sB''.trans sB3), ok6, w18.set 1 rfl (.lst ((us.map fun u => V.ref u.ua) ++ [V.ref Di]))⟩
     rcases List.mem_append.mp hu with hu | hu
     · exact (hus u hu).mono (sB''.trans sB3)
     · rw [List.mem_singleton.mp hu]
       exact ⟨hB3, hU.mono sB3, hUl, hUp⟩
 obtain ⟨B16, us, i6, r6, z6, rfl, hul, hus, sB16, ok6, w16⟩ := p
 obtain ⟨B17, sB17, hB17, w17⟩ := (w16.perm (l' := (Du, .lst (us.map fun u => V.ref u.ua)) :: (t, tapeL a2 i6 r6 z6) :: L) (List.Perm.swap ..)).ice (w15.frS hDu).1
 clear w15 w16
 refine frG (σ' := [some (.ref a), some (.ref t), some (.int (n : Nat)), some (.int bits), some (.int (2 ^ (bits - 1).toNat)), some (.ref A.p), some (.ref kl), some (.ref nl), some (.ref ml), some (.ref Du), none, none, none, none, none, none, none, none, none, none, none]) rfl ?_
 walk_at "R"
 refine rd_lcW ?_
 walk_at "rd"
 walk_at "rd"
 refine rng1_ok (by omega) ?_
 rw [Int.toNat_natCast]
 refine wl_objs (α := Addr) (f := fun d => [(d, HO.dK [])]) (p := fun d => d) (P := fun _ => True) w17 (by omega) (fun i hi H' L' R w' k => ?_) (fun hl hds H18 nhl hhl _ w18 => ?_)
 · walk_at "R"
   intro d nd
   exact k d _ trivial (w'.add nd (same_upd (o := .dK []) nd) upd_same)
 obtain ⟨B18, sB18, hB18, w18⟩ := w18.ice (w17.frS nhl).1
 refine frG (σ' := [some (.ref a), some (.ref t), some (.int (n : Nat)), some (.int bits), some (.int (2 ^ (bits - 1).toNat)), some (.ref A.p), some (.ref kl), some (.ref nl), some (.ref ml), some (.ref Du), some (.ref hl), none, none, none, none, none, none, none, none, none, none]) rfl ?_
 walk_at "R"
 refine rd_lcW ?_
 walk_at "rd"
 walk_at "rd"
 refine rng1_ok (by omega) ?_
 rw [Int.toNat_natCast]
 refine wl_objs (α := Addr) (f := fun o => [(o, HO.lst [])]) (p := fun o => o) (P := fun _ => True) w18 (by omega) (fun i hi H' L' R w' k => ?_) (fun ol oas H19 nol hol _ w19 => ?_)
 · walk_at "R"
   intro o H20 n20 s20 e20
   exact k o H20 trivial (w'.add n20 s20 e20)
 obtain ⟨B19, sB19, hB19, w19⟩ := w19.ice (w18.frS nol).1
 clear w17 w18
 refine frG (σ' := [some (.ref a), some (.ref t), some (.int (n : Nat)), some (.int bits), some (.int (2 ^ (bits - 1).toNat)), some (.ref A.p), some (.ref kl), some (.ref nl), some (.ref ml), some (.ref Du), some (.ref hl), some (.ref ol), none, none, none, none, none, none, none, none, none]) rfl ?_
 have sBx : Same B1 B19 := sB7.trans (sB8.trans (sB15.trans (sB16.trans (sB17.trans (sB18.trans sB19)))))
 have mk := mkBs_ok kds hds oas us (by omega) (by omega) (by omega)
 generalize mkBs kds hds oas us = bs at mk
 have hlb : bs.length = n := mk.len.trans hkl
 obtain ⟨P, hP⟩ : ∃ P : LwA, P = ⟨kl, nl, ml, m0, m1, Du, hl, ol⟩ := ⟨_, rfl⟩
 have eP := fun {x : LwA → Addr} => congrArg x hP
 obtain ⟨wl, hwl⟩ : ∃ w : Lw, w = ⟨A, s0, bs, List.replicate n 0, List.replicate n 0, List.replicate n 0⟩ := ⟨_, rfl⟩
 have w20 : Own H H [] B19 ((t, tapeL a2 i6 r6 z6) :: lwcells ⟨T.b.C_Anchor, T.b.C_Meter, T.b.C_UpperSender, T.b.C_UpperReceiver⟩ P wl) H19 := by
   subst hP
   subst hwl
   subst hL
   refine w19.perm ?_
   refine perm7 (t, tapeL a2 i6 r6 z6) _ _ _ _ _ (ancells ⟨T.b.C_Anchor, T.b.C_Meter, T.b.C_UpperSender, T.b.C_UpperReceiver⟩ A s0) _ ?_ mk.pm
   exact ((List.Perm.swap _ _ _).trans ((List.Perm.swap _ _ _).cons _)).trans (List.Perm.swap _ _ _)
 have hre : ∀ i : Nat, (List.replicate n (0 : Int)).getD i 0 = 0 := fun i => by
   rw [List.getD_eq_getElem?_getD, List.getElem?_replicate]
   split <;> rfl
 have lw0 : LwOk B19 P wl n bits 0 := by
   subst hP
   subst hwl
   have sB719 : Same B7 B19 := sB8.trans (sB15.trans (sB16.trans (sB17.trans (sB18.trans sB19))))
   have sB819 : Same B8 B19 := sB15.trans (sB16.trans (sB17.trans (sB18.trans sB19)))
   refine ⟨hn3, hb, by omega, ab7.mono sB719, ?_, hlb, a0.hs.1, a0.hr.1, a0.ho.1, List.length_replicate, List.length_replicate, List.length_replicate, ?_, ?_, ?_, ?_, ?_, fun i hi => ?_⟩
   · show MtOk s0.mt
     rw [a0.hm]
     exact ⟨List.nodup_nil, fun p hp => (nomatch hp)⟩
   · exact (sB819 _ _ hB8).trans (congrArg (fun l => some (HO.lst l)) mk.kd.symm)
   · exact (sB19 _ _ hB18).trans (congrArg (fun l => some (HO.lst l)) mk.hd.symm)
   · exact hB19.trans (congrArg (fun l => some (HO.lst l)) mk.oa.symm)
   · exact ((sB18.trans sB19) _ _ hB17).trans (congrArg (fun l => some (HO.lst l)) mk.ua.symm)
   · exact (sB16.trans (sB17.trans (sB18.trans sB19))) _ _ hB15
   · have hbi : bs[i]? = some (bs[i]'(by omega)) := List.getElem?_eq_getElem (by omega)
     have hSi : s0.S[i]? = some (s0.S[i]'(by rw [a0.hs.1]; exact hi)) := List.getElem?_eq_getElem (by rw [a0.hs.1]; exact hi)
     have hRi : s0.R[i]? = some (s0.R[i]'(by rw [a0.hr.1]; exact hi)) := List.getElem?_eq_getElem (by rw [a0.hr.1]; exact hi)
     have hOi : s0.O[i]? = some (s0.O[i]'(by rw [a0.ho.1]; exact hi)) := List.getElem?_eq_getElem (by rw [a0.ho.1]; exact hi)
     obtain ⟨u, hu, eb1, eb2, eb3, eb4, eb5, eb6⟩ := mk.mem _ (List.mem_of_getElem? hbi)
     have ua := (hus u hu).mono (sB17.trans (sB18.trans sB19))
     have e1 := a0.hs.2 _ (List.mem_of_getElem? hSi)
     have e2 := a0.hr.2 _ (List.mem_of_getElem? hRi)
     have e3 := a0.ho.2 _ (List.mem_of_getElem? hOi)
     refine ⟨_, _, _, _, hbi, hSi, hRi, hOi, ⟨by rw [e1], by rw [e2], by rw [eb1, e1], by rw [eb1]; exact fun x hx => (nomatch hx), ?_, by rw [e1]; exact Int.le_refl _, ?_, ?_, fun m => ?_, by rw [eb2]; exact List.nodup_nil, by rw [e2]; exact fun y hy => (nomatch hy), by rw [e2]; exact (by decide : (0 : Int) ≤ 40), by rw [eb6]; exact ua.l, by rw [eb6]; exact ua.p, by rw [eb5, eb6]; exact ua.q, by rw [eb4, eb5]; exact ua.a, by rw [eb3, e2]; exact .nil, by rw [e3, e2]; exact .nil⟩⟩
     · rw [e1]
       exact hre i
     · show (List.replicate n (0 : Int)).getD i 0 = (tget s0.mt.E _).getD 0
       rw [hre, a0.hm]
       rfl
     · show (List.replicate n (0 : Int)).getD i 0 = (tget s0.mt.E _).getD 0
       rw [hre, a0.hm]
       rfl
     · rw [eb2, e2]
       refine ⟨fun h => (nomatch h), fun h => ?_⟩
       rcases h with h | h
       · have h1 := h.1
         have h2 : m < 0 := h.2
         omega
       · cases h
 have hstay : wl.s.stay = -1 := by
   rw [hwl]
   exact a0.hst
 have hwA : wl.A = A := by rw [hwl]
 subst hwA
 have w20l := w20.perm (l' := lwcells ⟨T.b.C_Anchor, T.b.C_Meter, T.b.C_UpperSender, T.b.C_UpperReceiver⟩ P wl ++ [(t, tapeL a2 i6 r6 z6)]) (List.perm_append_comm (l₂ := [_]))
 have hpA19 := (lw_an w20l).mem (p := wl.A.p) (.head _)
 walk_at "R"
 refine rd_lcW ?_
 walk_at "rd"
 walk_at "rd"
 refine rng1_ok (by omega) ?_
 rw [Int.toNat_natCast]
 refine wl_rng (lo := 0) (by omega) fun Dr hDr => ⟨fun i acc H' => ∃ (B' : Hp) (ts : List Addr), acc = ts.map V.ref ∧ Same B19 B' ∧ RepsAt B' ts (List.replicate i (0, [])) ∧ Own H H [] B' ((Dr, .lst acc) :: (lwcells ⟨T.b.C_Anchor, T.b.C_Meter, T.b.C_UpperSender, T.b.C_UpperReceiver⟩ P wl ++ [(t, tapeL a2 i6 r6 z6)])) H', ⟨B19, [], rfl, Same.refl _, ⟨rfl, fun i t y h1 => (nomatch h1)⟩, w20l.add hDr (same_upd hDr) upd_same⟩, fun i acc H' hi ha h2 p => ?_, fun acc H' ha h2 p => ?_⟩
 · obtain ⟨B', ts, rfl, sB', hts, w21⟩ := p
   show _ ∧ _
   refine ⟨wipe_set rfl, ?_⟩
   show Br true _ _
   refine br_T ?_
   walk_at "R"
   intro z1 Hz n1z s1z e1z
   obtain ⟨Bz, sBz, hBz, _, wz⟩ := w21.ro n1z s1z e1z
   walk_at "R"
   intro t2 Ht n2t s2t e2t
   obtain ⟨Bt, sBt, hBt, _, wt⟩ := wz.ro n2t s2t e2t
   have htl := hts.ln
   rw [List.length_replicate] at htl
   refine ⟨wt.mem (.head _), Bt, ts ++ [t2], by rw [List.map_append]; rfl, sB'.trans (sBz.trans sBt), ⟨by rw [List.length_append, List.length_replicate, htl]; rfl, fun jj tt yy h1 h2 => ?_⟩, wt.set 0 rfl (.lst (ts.map V.ref ++ [V.ref t2]))⟩
   rw [List.getElem?_replicate] at h2
   split at h2
   · cases h2
     by_cases hjj : jj < ts.length
     · rw [List.getElem?_append_left hjj] at h1
       exact (hts.mono (sBz.trans sBt)).at' jj tt (0, []) h1 (by rw [List.getElem?_replicate, if_pos (by omega)])
     · rw [List.getElem?_append_right (by omega)] at h1
       cases hj2 : jj - ts.length with
       | zero =>
         rw [hj2] at h1
         cases h1
         exact ⟨z1, hBt, sBt _ _ hBz⟩
       | succ j2 =>
         rw [hj2] at h1
         cases h1
   · cases h2
 obtain ⟨B21, ts, rfl, sB21, hts, w21⟩ := p
 obtain ⟨B22, sB22, hB22, w22⟩ := w21.ice (w20.frS hDr).1
 have w22a := lw_an w22
 have sB20 := sB21.trans sB22
 have hSn := lw0.lS
 have hpl : ∀ x ∈ wl.s.S, x.2.pk.length ≤ 1000 := fun x hx => by
   obtain ⟨k, hk⟩ := List.getElem?_of_mem hx
   have hkn := (List.getElem?_eq_some_iff.mp hk).1
   obtain ⟨b, x2, r, o, h1, h2, h3, h4, h5⟩ := (lw0.ok k (by omega)).ex
   rw [hk] at h2
   cases h2
   have := kx_len (lw0.an.so x hx).1
   have := h5.lim
   have := (lw0.an.so x hx).1.n0
   omega
 refine op_Anchor_begin_stay ⟨wl.A, wl.s, Dr, ts, List.replicate n (0, []), B22, rfl, w22a.cellsL, lw0.an.mono sB20, hB22, hts.mono sB22, by rw [List.length_replicate]; omega, hpl, by rw [List.length_replicate]; omega, fun B23 H23 D23 us23 w23' ab23 nD23 hD23 hlt23 => ?_⟩
 have w23 := (lw_anb (w := wl) (A' := wl.A) (s' := wl.s.beg (List.replicate n (0, []))) (w22a.call (lc := ancells ⟨T.b.C_Anchor, T.b.C_Meter, T.b.C_UpperSender, T.b.C_UpperReceiver⟩ wl.A wl.s) w23'))
 have hwn : ∀ x ∈ wl.s.S, x.2.pk = [] := fun x hx => by
   rw [hwl] at hx
   rw [a0.hs.2 x hx]
 rw [letsF_nil _ _ (begS_nil hwn _)] at hlt23
 have hus0 : us23 = [] := List.length_eq_zero_iff.mp hlt23.ln
 subst hus0
 have lwb := lw0.beg (sB20.trans w23'.grow) (by omega) List.length_replicate ab23
 have ezb : zup repB wl.bs (List.replicate n (0, [])) = wl.bs := by
   have hb0 : ∀ b ∈ wl.bs, b.kp = [] := fun b hb => by
     rw [hwl] at hb
     obtain ⟨u, hu, e1, _⟩ := mk.mem b hb
     exact e1
   refine List.ext_getElem? fun i => ?_
   by_cases hi : i < n
   · have hbi : wl.bs[i]? = some (wl.bs[i]'(by rw [lw0.lb]; exact hi)) := List.getElem?_eq_getElem (by rw [lw0.lb]; exact hi)
     obtain ⟨y, _, e⟩ := zup_at repB (F := List.replicate n ((0 : Int), ([] : List Int))) (by rw [List.length_replicate, lw0.lb]) hbi
     rw [e, hbi]
     have := hb0 _ (List.mem_of_getElem? hbi)
     generalize wl.bs[i]'(by rw [lw0.lb]; exact hi) = bb at *
     show some ({ bb with kp := bb.kp.filter _ } : BeK) = some bb
     obtain ⟨c1, c2, c3, c4, c5, c6, c7, c8, c9⟩ := bb
     have : c2 = [] := this
     subst this
     rfl
   · rw [List.getElem?_eq_none (by rw [zup_len repB (by rw [List.length_replicate, lw0.lb]; exact Nat.le_refl _), lw0.lb]; omega), List.getElem?_eq_none (by rw [lw0.lb]; omega)]
 obtain ⟨wb, hwb⟩ : ∃ wb : Lw, wb = wl.beg (List.replicate n (0, [])) := ⟨_, rfl⟩
 have w24 : Own H H [] B23 ((t, tapeL a2 i6 r6 z6) :: lwcells ⟨T.b.C_Anchor, T.b.C_Meter, T.b.C_UpperSender, T.b.C_UpperReceiver⟩ P wb) H23 := by
   subst hwb
   have e : ({ wl with A := wl.A, s := wl.s.beg (List.replicate n (0, [])) } : Lw) = wl.beg (List.replicate n (0, [])) := by
     unfold Lw.beg
     rw [ezb]
   rw [e] at w23
   exact w23.perm (List.perm_append_comm (l₁ := [_]))
 have lwb2 := lwb.1
 have hbA : wb.A = wl.A := by rw [hwb]; rfl
 have hbs : wb.s.stay = 0 := by
   rw [hwb]
   show wl.s.stay + 1 = 0
   omega
 rw [← hwb] at lwb2
 have sB1x := sBx.trans (sB20.trans w23'.grow)
 rw [← hbA] at *
 clear w23 w23' w22 w22a w21 w20 w20l w19 lwb lw0 ab23 hstay hwl ezb hwb mk hus hpA19 hpl hwn hSn hts hL a0 ab7 hbA
 walk_at "R"
 intro ze He nze sze eze
 refine rd_neI (ns := []) (ms := []) (sq_of (sze _ _ ((w24.imm) _ _ hD23))) (sq_of eze) ?_
 rw [decide_eq_true rfl]
 have w24 := w24.more sze
 walk_at "R"
 refine frG (σ' := [some (.ref a), some (.ref t), some (.int (n : Nat)), some (.int bits), some (.int (2 ^ (bits - 1).toNat)), some (.ref wb.A.p), some (.ref kl), some (.ref nl), some (.ref ml), some (.ref Du), some (.ref hl), some (.ref ol), some (.int 0), none, none, none, none, none, none, none, none]) rfl ?_
 walk_at "R"
 refine rd_forR1 ?_
 walk_at "R"
 refine next_tp ⟨i6, r6, z6, ok6, w24.mem (.head _)⟩ (hSa sB1x w24.imm) ⟨by decide, by decide⟩ fun x7 H25 h70 h71 tp25 => ?_
 obtain ⟨i7, r7, z7, ok7, w25⟩ := w24.tape tp25
 walk_at "R"
 refine ⟨1 + x7, fun i σ H' => Stop (∃ (B : Hp) (w : Lw) (i1 r1 z1 st : Int) (x13 x14 x15 x16 x17 x18 x19 x20 : Option V), Own H H [] B ((t, tapeL a2 i1 r1 z1) :: lwcells ⟨T.b.C_Anchor, T.b.C_Meter, T.b.C_UpperSender, T.b.C_UpperReceiver⟩ P w) H' ∧ Same B1 B ∧ LwOk B P w n bits (i + 1) ∧ TapeOk2 ns i1 r1 z1 ∧ w.s.stay = st ∧
   σ = [some (.ref a), some (.ref t), some (.int (n : Nat)), some (.int bits), some (.int (2 ^ (bits - 1).toNat)), some (.ref w.A.p), some (.ref P.kl), some (.ref P.nl), some (.ref P.ml), some (.ref P.ul), some (.ref P.hl), some (.ref P.ol), some (.int st), x13, x14, x15, x16, x17, x18, x19, x20]), rfl, ⟨by omega, by omega⟩, .a ⟨B23, wb, i7, r7, z7, 0, _, _, _, _, _, _, _, _, w25, sB1x, lwb2, ok7, hbs, by subst hP; rfl⟩, fun i σ' H' hi wy => ?_, fun σ' H' wy => ?_⟩
 · obtain ⟨B, w0', i1, r1, z1, st, x13, x14, x15, x16, x17, x18, x19, x20, w26, sB, lw, ok26, hst, rfl⟩ := wy.un
   clear w24 w25 tp25 hP lwb2 hbs
   have hi60 : i < 60 := by omega
   refine frG (σ' := [some (.ref a), some (.ref t), some (.int (n : Nat)), some (.int bits), some (.int (2 ^ (bits - 1).toNat)), some (.ref w0'.A.p), some (.ref P.kl), some (.ref P.nl), some (.ref P.ml), some (.ref P.ul), some (.ref P.hl), some (.ref P.ol), some (.int st), some (.int (i : Nat)), x14, x15, x16, x17, x18, x19, x20]) rfl ?_
   walk_at "R"
   refine next_tp ⟨i1, r1, z1, ok26, w26.mem (.head _)⟩ (hSa sB w26.imm) ⟨by decide, by decide⟩ fun kd H27 hk0 hk1 tp27 => ?_
   obtain ⟨i2, r2, z2, ok27, w27⟩ := w26.tape tp27
   refine frG (σ' := [some (.ref a), some (.ref t), some (.int (n : Nat)), some (.int bits), some (.int (2 ^ (bits - 1).toNat)), some (.ref w0'.A.p), some (.ref P.kl), some (.ref P.nl), some (.ref P.ml), some (.ref P.ul), some (.ref P.hl), some (.ref P.ol), some (.int st), some (.int (i : Nat)), some (.int kd), x15, x16, x17, x18, x19, x20]) rfl ?_
   walk_at "R"
   refine next_tp ⟨i2, r2, z2, ok27, w27.mem (.head _)⟩ (hSa sB w27.imm) ⟨by omega, by omega⟩ fun bx H28 hbx0 hbx1 tp28 => ?_
   obtain ⟨i3, r3, z3, ok28, w28⟩ := w27.tape tp28
   obtain ⟨k, rfl⟩ : ∃ k : Nat, bx = (k : Int) := ⟨bx.toNat, by omega⟩
   have hkn : k < n := by omega
   clear w26 w27 tp27 tp28
   refine frG (σ' := [some (.ref a), some (.ref t), some (.int (n : Nat)), some (.int bits), some (.int (2 ^ (bits - 1).toNat)), some (.ref w0'.A.p), some (.ref P.kl), some (.ref P.nl), some (.ref P.ml), some (.ref P.ul), some (.ref P.hl), some (.ref P.ol), some (.int st), some (.int (i : Nat)), some (.int kd), some (.int (k : Nat)), x16, x17, x18, x19, x20]) rfl ?_
   walk_at "R"
   refine frG (σ' := [some (.ref a), some (.ref t), some (.int (n : Nat)), some (.int bits), some (.int (2 ^ (bits - 1).toNat)), some (.ref w0'.A.p), some (.ref P.kl), some (.ref P.nl), some (.ref P.ml), some (.ref P.ul), some (.ref P.hl), some (.ref P.ol), some (.int st), some (.int (i : Nat)), some (.int kd), some (.int (k : Nat)), some (.bl true), x17, x18, x19, x20]) rfl ?_
   walk_at "R"
   obtain ⟨b, x, r, o, hb0, hx, hr, ho, be⟩ := (lw.ok k hkn).ex
   have hlx := lw.lx
   refine rd_ifJ (fun σ' H' => Stop (∃ (B : Hp) (w : Lw) (i1 r1 z1 st : Int) (x17 x18 x19 x20 : Option V), Own H H [] B ((t, tapeL a2 i1 r1 z1) :: lwcells ⟨T.b.C_Anchor, T.b.C_Meter, T.b.C_UpperSender, T.b.C_UpperReceiver⟩ P w) H' ∧ Same B1 B ∧ LwOk B P w n bits (i + 2) ∧ TapeOk2 ns i1 r1 z1 ∧ w.s.stay = st ∧
     σ' = [some (.ref a), some (.ref t), some (.int (n : Nat)), some (.int bits), some (.int (2 ^ (bits - 1).toNat)), some (.ref w.A.p), some (.ref P.kl), some (.ref P.nl), some (.ref P.ml), some (.ref P.ul), some (.ref P.hl), some (.ref P.ol), some (.int st), some (.int (i : Nat)), some (.int kd), some (.int (k : Nat)), some (.bl true), x17, x18, x19, x20])) (fun h => ?_) (fun h => ?_) (fun σ' H' wj => ?_)
   · walk_at "R"
     refine op_u_law_packet ⟨t, a2, ns, 196, rfl, ⟨i3, r3, z3, ok28, w28.mem (.head _)⟩, hSa sB w28.imm, hat, ⟨by decide, by decide⟩, fun ds D H29 hpk nD tp29 e29 => ?_⟩
     obtain ⟨B29, i5, r5, z5, sB29, hB29, ok29, w29⟩ := w28.tapeD tp29 nD e29
     have w29l := w29.perm (l' := lwcells ⟨T.b.C_Anchor, T.b.C_Meter, T.b.C_UpperSender, T.b.C_UpperReceiver⟩ P w0' ++ [(t, tapeL a2 i5 r5 z5)]) (List.perm_append_comm (l₂ := [_]))
     refine op_u_law_down ⟨P, w0', n, bits, i + 1, k, D, ds, B29, rfl, w29l.cellsL, lw.mono sB29, hkn, by omega, hB29, hpk, fun B30 H30 w' w30' lw30 eA est => ?_⟩
     have w30 := (w29l.call (lc := lwcells ⟨T.b.C_Anchor, T.b.C_Meter, T.b.C_UpperSender, T.b.C_UpperReceiver⟩ P w0') w30').perm (l' := (t, tapeL a2 i5 r5 z5) :: lwcells ⟨T.b.C_Anchor, T.b.C_Meter, T.b.C_UpperSender, T.b.C_UpperReceiver⟩ P w') (List.perm_append_comm (l₂ := [_])).symm
     exact .a ⟨B30, w', i5, r5, z5, st, _, _, _, _, w30, sB.trans (sB29.trans w30'.grow), lw30, ok29, est.trans hst, by first | (rw [eA]; done) | (rw [eA]; rfl)⟩
   · have hnl28 := w28.mem (p := P.nl) (.tail _ (.head _))
     have w28l := w28.perm (l' := lwcells ⟨T.b.C_Anchor, T.b.C_Meter, T.b.C_UpperSender, T.b.C_UpperReceiver⟩ P w0' ++ [(t, tapeL a2 i3 r3 z3)]) (List.perm_append_comm (l₂ := [_]))
     have hso := lw.an.so x (List.mem_of_getElem? hx)
     have enx : w0'.nx.getD (k : Int).toNat 0 = x.2.nx := be.nx
     have hxl := kx_len hso.1
     have hlim := be.lim
     have hxn := hso.1.n0
     walk_at "R"
     refine rd_ifC (fun bb H1 => H28 = H1 ∧ (bb = true → 0 < x.2.nx)) ?_ (fun bb H29 p => ?_)
     · walk_at "R"
       refine br_eby (fun h4 => ?_) (fun h4 => ?_)
       · walk_at "R"
         refine rd_ixI (sq_of hnl28) (by omega) (by omega) ?_
         walk_at "R"
         intro hh
         have := of_decide_eq_true hh
         omega
       · exact ⟨rfl, fun z => by cases z⟩
     obtain ⟨rfl, hnx⟩ := p
     cases bb with
     | true =>
       have hnx := hnx rfl
       refine br_T ?_
       walk_at "R"
       refine rd_ixI (sq_of hnl28) (by omega) (by omega) ?_
       walk_at "R"
       refine next_tp ⟨i3, r3, z3, ok28, w28.mem (.head _)⟩ (hSa sB w28.imm) ⟨by decide, by decide⟩ fun y9 H29 h90 h91 tp29 => ?_
       obtain ⟨i5, r5, z5, ok29, w29⟩ := w28.tape tp29
       walk_at "R"
       refine ⟨0, _, rfl, ?_⟩
       generalize (if w0'.nx.getD (k : Int).toNat 0 - 1 - y9 > 0 then w0'.nx.getD (k : Int).toNat 0 - 1 - y9 else 0) = cnt
       refine frG (σ' := [some (.ref a), some (.ref t), some (.int (n : Nat)), some (.int bits), some (.int (2 ^ (bits - 1).toNat)), some (.ref w0'.A.p), some (.ref P.kl), some (.ref P.nl), some (.ref P.ml), some (.ref P.ul), some (.ref P.hl), some (.ref P.ol), some (.int st), some (.int (i : Nat)), some (.int kd), some (.int (k : Nat)), some (.bl true), some (.int cnt), x18, x19, x20]) rfl ?_
       walk_at "R"
       refine next_tp ⟨i5, r5, z5, ok29, w29.mem (.head _)⟩ (hSa sB w29.imm) ⟨by decide, by decide⟩ fun y10 H30 h100 h101 tp30 => ?_
       obtain ⟨i6', r6', z6', ok30, w30⟩ := w29.tape tp30
       walk_at "R"
       generalize st - y10 = own
       have w30l := w30.perm (l' := lwcells ⟨T.b.C_Anchor, T.b.C_Meter, T.b.C_UpperSender, T.b.C_UpperReceiver⟩ P w0' ++ [(t, tapeL a2 i6' r6' z6')]) (List.perm_append_comm (l₂ := [_]))
       have hpA30 := (lw_an w30l).mem (p := w0'.A.p) (.head _)
       walk_at "R"
       intro lt H31 n31 s31 e31
       obtain ⟨B31, sB31, hB31, _, w31⟩ := w30l.ro n31 s31 e31
       have w31a := lw_an w31
       walk_at "R"
       refine op_Anchor_take_letter ⟨w0'.A, w0'.s, lt, own, B31, rfl, w31a.cellsL, lw.an.mono sB31, lw.mo, .inr ⟨k, cnt, x, hB31, hx, fun B32 H32 D32 w32' ab32 hD32 => ?_⟩⟩
       have w32 := lw_anb (w := w0') (A' := w0'.A) (w31a.call (lc := ancells ⟨T.b.C_Anchor, T.b.C_Meter, T.b.C_UpperSender, T.b.C_UpperReceiver⟩ w0'.A w0'.s) w32')
       have sB32 := sB31.trans w32'.grow
       walk_at "R"
       intro ze H33 nze sze eze
       refine rd_neI (ns := []) (ms := []) (sq_of (sze _ _ (w32.imm _ _ hD32))) (sq_of eze) ?_
       rw [decide_eq_true rfl]
       have w33 := w32.more sze
       have hkl33 := w33.imm _ _ (sB32 _ _ lw.kl)
       walk_at "R"
       refine br_eby (fun hoo => ?_) (fun hoo => ?_)
       · rw [if_pos (hoo.trans hst.symm)] at w33 ab32
         have w33x : Own H H [] B32 ([(t, tapeL a2 i6' r6' z6')] ++ lwcells ⟨T.b.C_Anchor, T.b.C_Meter, T.b.C_UpperSender, T.b.C_UpperReceiver⟩ P { w0' with A := w0'.A, s := { w0'.s with S := w0'.s.S.set k (x.1, x.2.keep fun z => !decide (z = cnt)) } }) H33 := w33.perm (List.perm_append_comm (l₁ := [_]))
         have hset := lw_set w33x hb0 0 rfl (.dK (pkK (b.kp.filter fun y => !decide (y.1 = cnt)))) { b with kp := b.kp.filter fun y => !decide (y.1 = cnt) } rfl
         have hkd33 : H33 b.kd = some (.dK (pkK b.kp)) := hset.1
         have lwc := lw.conf sB32 hkn (by omega) hb0 hx hr ho be (c := cnt) ab32
         walk_at "R"
         refine rd_ixL (sq_of hkl33) (ref_at (fun b : BeK => b.kd) hb0) ?_
         walk_at "R"
         rw [pk_is]
         refine br_by (fun hin => ?_) (fun hin => ?_)
         · obtain ⟨v, hv⟩ : ∃ v, valV (pkK b.kp) (.inl cnt) = some v := Option.isSome_iff_exists.mp (by rw [pk_is]; exact decide_eq_true hin)
           walk_at "R"
           refine rd_ixL (sq_of hkl33) (ref_at (fun b : BeK => b.kd) hb0) ?_
           walk_at "R"
           refine rd_dpop hkd33 hv ?_
           rw [pk_drop]
           exact .a ⟨B32, w0'.conf k b x cnt, i6', r6', z6', st, _, _, _, _, hset.2, sB.trans sB32, lwc, ok30, hst, rfl⟩
         · have ef : (b.kp.filter fun y => !decide (y.1 = cnt)) = b.kp := List.filter_eq_self.mpr fun y hy => by
             have : ¬ y.1 = cnt := fun e => hin (e ▸ List.mem_map.mpr ⟨y, hy, rfl⟩)
             simp [this]
           have ew : w0'.conf k b x cnt = { w0' with A := w0'.A, s := { w0'.s with S := w0'.s.S.set k (x.1, x.2.keep fun z => !decide (z = cnt)) } } := by
             unfold Lw.conf
             rw [ef, show ({ b with kp := b.kp } : BeK) = b from rfl, set_self hb0]
           refine .a ⟨B32, w0'.conf k b x cnt, i6', r6', z6', st, _, _, _, _, ?_, sB.trans sB32, lwc, ok30, hst, rfl⟩
           rw [ew]
           exact w33x
       · rw [if_neg (fun z => hoo (z.trans hst))] at w33
         have w34 := w33.perm (l' := (t, tapeL a2 i6' r6' z6') :: lwcells ⟨T.b.C_Anchor, T.b.C_Meter, T.b.C_UpperSender, T.b.C_UpperReceiver⟩ P w0') (List.perm_append_comm (l₁ := [_]))
         refine br_F ?_
         walk_at "R"
         exact .a ⟨B32, w0', i6', r6', z6', st, _, _, _, _, w34, sB.trans sB32, lw.step sB32 (by omega), ok30, hst, rfl⟩
     | false =>
       refine br_F ?_
       walk_at "R"
       refine br_eby (fun h5 => ?_) (fun h5 => ?_)
       · walk_at "R"
         refine op_u_law_begin ⟨P, w0', n, bits, i + 1, t, a2, ns, i3, r3, z3, B, rfl, w28.c, lw, ok28, sq_of (sB _ _ hB1), hat, by omega, fun B30 H30 w' i5 r5 z5 w30' tok30 lw30 eA est => ?_⟩
         have w30 := w28.call0 w30'
         exact .a ⟨B30, w', i5, r5, z5, st + 1, _, _, _, _, w30, sB.trans w30'.grow, lw30, tok30, by rw [est, hst], by first | (rw [eA]; done) | (rw [eA]; rfl)⟩
       · walk_at "R"
         refine br_by (fun h8 => ?_) (fun h8 => ?_)
         · have hol28 := w28.imm _ _ lw.ol
           have w28x : Own H H [] B ([(t, tapeL a2 i3 r3 z3)] ++ lwcells ⟨T.b.C_Anchor, T.b.C_Meter, T.b.C_UpperSender, T.b.C_UpperReceiver⟩ P w0') H28 := w28
           have hoa28 : H28 b.oa = some (.lst (b.oq.map V.ref)) := (lw_set w28x hb0 2 rfl (.lst []) { b with oq := [] } rfl).1
           walk_at "R"
           refine rd_ixL (sq_of hol28) (ref_at (fun b : BeK => b.oa) hb0) ?_
           walk_at "R"
           refine next_tp ⟨i3, r3, z3, ok28, w28.mem (.head _)⟩ (hSa sB w28.imm) ⟨by decide, by decide⟩ fun y9 H29 h90 h91 tp29 => ?_
           obtain ⟨i5, r5, z5, ok29, w29⟩ := w28.tape tp29
           walk_at "R"
           refine ⟨39, _, rfl, ?_⟩
           walk_at "R"
           refine ⟨0, _, rfl, ?_⟩
           generalize hv : ((b.oq.map V.ref).length : Int) - 2 + y9 = v
           obtain ⟨c0, c1⟩ := clamp v
           generalize (if (if v < 39 then v else 39) > 0 then (if v < 39 then v else 39) else 0) = cnt at *
           refine frG (σ' := [some (.ref a), some (.ref t), some (.int (n : Nat)), some (.int bits), some (.int (2 ^ (bits - 1).toNat)), some (.ref w0'.A.p), some (.ref P.kl), some (.ref P.nl), some (.ref P.ml), some (.ref P.ul), some (.ref P.hl), some (.ref P.ol), some (.int st), some (.int (i : Nat)), some (.int kd), some (.int (k : Nat)), some (.bl true), some (.int cnt), x18, x19, x20]) rfl ?_
           have w29l := w29.perm (l' := lwcells ⟨T.b.C_Anchor, T.b.C_Meter, T.b.C_UpperSender, T.b.C_UpperReceiver⟩ P w0' ++ [(t, tapeL a2 i5 r5 z5)]) (List.perm_append_comm (l₂ := [_]))
           walk_at "R"
           refine op_u_law_up ⟨P, w0', n, bits, i + 1, k, cnt, st, B, rfl, w29l.cellsL, lw, hkn, by omega, ⟨c0, c1⟩, fun B30 H30 w' w30' lw30 eA est => ?_⟩
           have w30 := (w29l.call (lc := lwcells ⟨T.b.C_Anchor, T.b.C_Meter, T.b.C_UpperSender, T.b.C_UpperReceiver⟩ P w0') w30').perm (l' := (t, tapeL a2 i5 r5 z5) :: lwcells ⟨T.b.C_Anchor, T.b.C_Meter, T.b.C_UpperSender, T.b.C_UpperReceiver⟩ P w') (List.perm_append_comm (l₂ := [_])).symm
           exact .a ⟨B30, w', i5, r5, z5, st, _, _, _, _, w30, sB.trans w30'.grow, lw30, ok29, est.trans hst, by first | (rw [eA]; done) | (rw [eA]; rfl)⟩
         · have hml := lw.mo.len
           walk_at "R"
           intro le He nle sle ele
           obtain ⟨Be, sBe, hBe, _, we⟩ := w28l.ro nle sle ele
           have wea := lw_an we
           refine op_u_law_put ⟨w0'.A, w0'.s, k, x, le, [], Be, rfl, wea.cellsL, lw.an.mono sBe, hx, hBe, by decide, by omega, by omega, fun _ H29 s29 => ?_, fun hb2 => absurd hb2 (by decide), fun hb2 => absurd hb2 (by decide)⟩
           walk_at "R"
           refine br_t rfl ?_
           walk_at "R"
           intro l1 H30 n30 s30 e30
           walk_at "R"
           refine rd_rep e30 (by decide) (by decide) (by decide) ?_
           intro l2 H31 n31 s31 e31
           have e31 : H31 l2 = some (.lst ((List.replicate 197 (1 : Int)).map V.int)) := e31
           obtain ⟨Bf, sBf, hBf, _, wf⟩ := (we.more (s29.trans s30)).ro n31 s31 e31
           have wfa := lw_an wf
           have hp197 : pkB (List.replicate 197 1) 196 = false := by decide
           refine op_u_law_put ⟨w0'.A, w0'.s, k, x, l2, List.replicate 197 1, Bf, rfl, wfa.cellsL, lw.an.mono (sBe.trans sBf), hx, hBf, by decide, by omega, by omega, fun _ H32 s32 => ?_, fun hb2 => absurd hb2 (by rw [hp197]; decide), fun hb2 => absurd hb2 (by rw [hp197]; decide)⟩
           walk_at "R"
           exact .a ⟨Bf, w0', i3, r3, z3, st, _, _, _, _, (wf.more s32).perm (List.perm_append_comm (l₁ := [_])), sB.trans (sBe.trans sBf), lw.step (sBe.trans sBf) (by omega), ok28, hst, rfl⟩
   · obtain ⟨B', w', i5, r5, z5, st', y17, y18, y19, y20, w40, sB40, lw40, ok40, hst40, rfl⟩ := wj.un
     clear wj w28 be hb0 hx hr ho lw
     obtain ⟨b, x, r, o, hb0, hx, hr, ho, be⟩ := (lw40.ok k hkn).ex
     have w40l := w40.perm (l' := lwcells ⟨T.b.C_Anchor, T.b.C_Meter, T.b.C_UpperSender, T.b.C_UpperReceiver⟩ P w' ++ [(t, tapeL a2 i5 r5 z5)]) (List.perm_append_comm (l₂ := [_]))
     have hso := lw40.an.so x (List.mem_of_getElem? hx)
     have hxl := kx_len hso.1
     have hlim := be.lim
     have hxn := hso.1.n0
     have ra := AnAt.of (lw_an w40l) lw40.an
     have hpA := ra.p
     walk_at "R"
     refine op_Anchor_unconfirmed ⟨w'.A, w'.s, k, x, rfl, ra, hx, by omega, fun D1 ts1 qs1 H41 nD1 io1 => ?_⟩
     have hkk : b.kp.map Prod.fst = x.2.pk.map Prod.fst := by rw [← pkX_keys, be.ks, pkX_keys]
     have w40x : Own H H [] B' ([(t, tapeL a2 i5 r5 z5)] ++ lwcells ⟨T.b.C_Anchor, T.b.C_Meter, T.b.C_UpperSender, T.b.C_UpperReceiver⟩ P w') H' := w40
     have hkd40 : H' b.kd = some (.dK (pkK b.kp)) := (lw_set w40x hb0 0 rfl (.dK []) { b with kp := [] } rfl).1
     have hoa40 : H' b.oa = some (.lst (b.oq.map V.ref)) := (lw_set w40x hb0 2 rfl (.lst []) { b with oq := [] } rfl).1
     have hm040 : H' P.m0 = some (.lst (w'.M0.map V.int)) := w40.mem (.tail _ (.tail _ (.head _)))
     have hm140 : H' P.m1 = some (.lst (w'.M1.map V.int)) := w40.mem (.tail _ (.tail _ (.tail _ (.head _))))
     have hkpl : b.kp.length = x.2.pk.length := by
       have := congrArg List.length hkk
       rw [List.length_map, List.length_map] at this
       exact this
     have hl0 := lw40.l0
     have hl1 := lw40.l1
     have hkls : H41 P.kl = some (.lst ((w'.bs.map fun b => b.kd).map V.ref)) := by
       rw [List.map_map]
       exact io1.sm _ _ (w40.imm _ _ lw40.kl)
     have hkat : (w'.bs.map fun b => b.kd)[k]? = some b.kd := by rw [List.getElem?_map, hb0]; rfl
     walk_at "R"
     refine op_u_law_kept ⟨P.kl, w'.bs.map fun b => b.kd, k, b.kd, b.kp, rfl, sq_of hkls, hkat, io1.sm _ _ hkd40, (be.kb.mono w40.imm).mono io1.sm, by rw [hkk]; exact hso.1.asc, by omega, fun D2 ts2 qs2 H42 nD2 io2 => ?_⟩
     rw [be.ks] at io2
     have s42 := io1.sm.trans io2.sm
     refine rd_neS (n := 4) (kxD (pkX x.2.pk)) (.lst (sq_of (io2.sm _ _ io1.at')) (io1.ls.mono io2.sm).dps) io2.dp (sh_kx (n := 1) _) ?_
     have ra42 := ra.mono s42
     have hpA42 := ra42.p
     have hotl : (b.U.take r.2.first.toNat).length ≤ 10000 := by
       have := be.ul
       rw [List.length_take]
       omega
     walk_at "R"
     refine op_Anchor_out ⟨w'.A, w'.s, k, o, _, rfl, ra42, ho, be.o2.mono (w40.imm.trans s42), hotl, fun D3 qs3 H43 nD3 cp3 => ?_⟩
     have s43 := s42.trans cp3.sm
     have hol43 := s43 _ _ (w40.imm _ _ lw40.ol)
     walk_at "R"
     refine rd_ixL (sq_of hol43) (ref_at (fun b : BeK => b.oa) hb0) ?_
     refine rd_neLL (sq_of cp3.at') cp3.ls (sq_of (s43 _ _ hoa40)) (be.o1.mono (w40.imm.trans s43)) ?_
     rw [decide_eq_true (p := b.U.take r.2.first.toNat = b.U.take r.2.first.toNat) rfl]
     walk_at "R"
     refine rd_forR1 ?_
     walk_at "R"
     refine ⟨2, fun m σ H'' => Stop (Same H43 H'' ∧ ∃ y19, σ = [some (.ref a), some (.ref t), some (.int (n : Nat)), some (.int bits), some (.int (2 ^ (bits - 1).toNat)), some (.ref w'.A.p), some (.ref P.kl), some (.ref P.nl), some (.ref P.ml), some (.ref P.ul), some (.ref P.hl), some (.ref P.ol), some (.int st'), some (.int (i : Nat)), some (.int kd), some (.int (k : Nat)), some (.bl true), y17, y18, y19, y20]), rfl, ⟨by decide, by decide⟩, .a ⟨Same.refl _, _, rfl⟩, fun m σ' H44 hm wm => ?_, fun σ' H44 wm => ?_⟩
     · obtain ⟨sm, y19, rfl⟩ := wm.un
       have s44 := s43.trans sm
       have ra44 := ra.mono s44
       have hpA44 := ra44.p
       have hml44 := s44 _ _ (w40.imm _ _ lw40.ml)
       have hMp : H44 w'.A.M.p = some (.ins T.b.C_Meter w'.A.M.dx (w'.s.mt.fs w'.A.M)) := ra44.mp
       walk_at "R"
       refine op_Meter_metered ⟨w'.A.M, w'.s.mt, k, m, rfl, hMp, ra44.ms, fun H45 s45 => ?_⟩
       have hml45 := s45 _ _ hml44
       have hm045 := s45 _ _ (s44 _ _ hm040)
       have hm145 := s45 _ _ (s44 _ _ hm140)
       rcases (by have : m < 2 := hm; omega : m = 0 ∨ m = 1) with rfl | rfl
       · walk_at "R"
         refine rd_ixL (sq_of hml45) rfl ?_
         walk_at "R"
         refine rd_ixI (sq_of hm045) (by omega) (by omega) ?_
         walk_at "R"
         refine br_ni be.m0.symm ?_
         exact .a ⟨sm.trans s45, _, rfl⟩
       · walk_at "R"
         refine rd_ixL (sq_of hml45) rfl ?_
         walk_at "R"
         refine rd_ixI (sq_of hm145) (by omega) (by omega) ?_
         walk_at "R"
         refine br_ni be.m1.symm ?_
         exact .a ⟨sm.trans s45, _, rfl⟩
     · obtain ⟨sm, y19, rfl⟩ := wm.un
       exact .a ⟨B', w', i5, r5, z5, st', _, _, _, _, _, _, _, _, w40.more (s43.trans sm), sB40, lw40, ok40, hst40, rfl⟩
 · obtain ⟨B, w0', i1, r1, z1, st, x13, x14, x15, x16, x17, x18, x19, x20, w26, sB, lw, ok26, hst, rfl⟩ := wy.un
   walk_at "R"
   exact q _
end
end My
namespace My
open PySem L2
local macro_rules | `(tactic| walk_at "b1") => `(tactic| exact fun _ _ _ _ _ _ us hl => match us, hl with | [_], _ => rfl)
local macro_rules | `(tactic| walk_at "b2") => `(tactic| exact fun _ _ _ _ _ _ us hl => match us, hl with | [_, _], _ => rfl)
local macro_rules | `(tactic| walk_at "b3") => `(tactic| exact fun _ _ _ _ _ _ us hl => match us, hl with | [_, _, _], _ => rfl)
local macro_rules | `(tactic| walk_at "b4") => `(tactic| exact fun _ _ _ _ _ _ us hl => match us, hl with | [_, _, _, _], _ => rfl)
local macro_rules | `(tactic| walk_at "b7") => `(tactic| exact fun _ _ _ _ _ _ us hl => match us, hl with | [_, _, _, _, _, _, _], _ => rfl)
local macro_rules | `(tactic| walk_at "b8") => `(tactic| exact fun _ _ _ _ _ _ us hl => match us, hl with | [_, _, _, _, _, _, _, _], _ => rfl)
noncomputable section
variable {K : PySem.W.Frag} {h : Heap} {mg : Str → Option Value} (X : K.In h) (G : h.Ns mainGlobals mg) (c : SaysX hfa hfb hfn hfm K)
include X G c
def vb : Tb K mg := ⟨He.free_ok X G (c.fact 0),
  He.free_ok X G (c.fact 1),
  He.free_ok X G (c.fact 2),
  He.free_ok X G (c.fact 3),
  He.free_ok X G (c.fact 4),
  He.free_ok X G (c.fact 5),
  He.free_ok X G (c.fact 6),
  He.free_ok X G (c.fact 7),
  He.free_ok X G (c.fact 8),
  He.free_ok X G (c.fact 9),
  He.free_ok X G (c.fact 10),
  He.free_ok X G (c.fact 11),
  He.free_ok X G (c.fact 12),
  He.int_ok X G (c.fact 13),
  He.int_ok X G (c.fact 14),
  He.int_ok X G (c.fact 15),
  He.ga K "Meter",
  He.glo_ok X G (c.fact 16),
  He.ga K "BearerError",
  He.glo_ok X G (c.fact 17),
  He.ga K "NotValid",
  He.glo_ok X G (c.fact 18),
  He.ga K "UpperSender",
  He.glo_ok X G (c.fact 19),
  He.ga K "UpperReceiver",
  He.glo_ok X G (c.fact 20),
  He.ga K "Anchor",
  He.glo_ok X G (c.fact 21)⟩
def vd0 : Td0 K mg (vb X G c) := ⟨He.fAd K ("_wall", none),
  (c.dn 0).2.2.choose,
  ⟨(c.dn 0).2.2.choose_spec, (c.dn 0).2.2.choose_spec.binds (by walk_at "b1"), dG X G (c.dn 0).1⟩,
  He.fAd K ("Meter", some "__init__"),
  (c.dn 1).2.2.choose,
  ⟨(c.dn 1).2.2.choose_spec, (c.dn 1).2.2.choose_spec.binds (by walk_at "b1"), dM (c.dn 1).1 (c.dn 1).2.1 (c.dn 1).2.2.choose_spec.kp⟩,
  He.fAd K ("Meter", some "add"),
  (c.dn 2).2.2.choose,
  ⟨(c.dn 2).2.2.choose_spec, (c.dn 2).2.2.choose_spec.binds (by walk_at "b4"), dM (c.dn 2).1 (c.dn 2).2.1 (c.dn 2).2.2.choose_spec.kp⟩,
  He.fAd K ("Meter", some "metered"),
  (c.dn 3).2.2.choose,
  ⟨(c.dn 3).2.2.choose_spec, (c.dn 3).2.2.choose_spec.binds (by walk_at "b3"), dM (c.dn 3).1 (c.dn 3).2.1 (c.dn 3).2.2.choose_spec.kp⟩,
  He.fAd K ("Meter", some "_last_serial"),
  (c.dn 4).2.2.choose,
  ⟨(c.dn 4).2.2.choose_spec, (c.dn 4).2.2.choose_spec.binds (by walk_at "b1"), dM (c.dn 4).1 (c.dn 4).2.1 (c.dn 4).2.2.choose_spec.kp⟩,
  He.fAd K ("Meter", some "write"),
  (c.dn 5).2.2.choose,
  ⟨(c.dn 5).2.2.choose_spec, (c.dn 5).2.2.choose_spec.binds (by walk_at "b1"), dM (c.dn 5).1 (c.dn 5).2.1 (c.dn 5).2.2.choose_spec.kp⟩,
  He.fAd K ("Meter", some "last"),
  (c.dn 6).2.2.choose,
  ⟨(c.dn 6).2.2.choose_spec, (c.dn 6).2.2.choose_spec.binds (by walk_at "b1"), dM (c.dn 6).1 (c.dn 6).2.1 (c.dn 6).2.2.choose_spec.kp⟩,
  He.fAd K ("Meter", some "take"),
  (c.dn 7).2.2.choose,
  ⟨(c.dn 7).2.2.choose_spec, (c.dn 7).2.2.choose_spec.binds (by walk_at "b2"), dM (c.dn 7).1 (c.dn 7).2.1 (c.dn 7).2.2.choose_spec.kp⟩,
  He.fAd K ("Meter", some "is_settled"),
  (c.dn 8).2.2.choose,
  ⟨(c.dn 8).2.2.choose_spec, (c.dn 8).2.2.choose_spec.binds (by walk_at "b1"), dM (c.dn 8).1 (c.dn 8).2.1 (c.dn 8).2.2.choose_spec.kp⟩,
  He.fAd K ("BearerError", some "__init__"),
  (c.dn 9).2.2.choose,
  ⟨(c.dn 9).2.2.choose_spec, (c.dn 9).2.2.choose_spec.binds (by walk_at "b1")⟩,
  He.fAd K ("is_between", none),
  (c.dn 10).2.2.choose,
  ⟨(c.dn 10).2.2.choose_spec, (c.dn 10).2.2.choose_spec.binds (by walk_at "b3"), dG X G (c.dn 10).1⟩,
  He.fAd K ("is_packet", none),
  (c.dn 11).2.2.choose,
  ⟨(c.dn 11).2.2.choose_spec, (c.dn 11).2.2.choose_spec.binds (by walk_at "b2"), dG X G (c.dn 11).1⟩,
  He.fAd K ("window_size", none),
  (c.dn 12).2.2.choose,
  ⟨(c.dn 12).2.2.choose_spec, (c.dn 12).2.2.choose_spec.binds (by walk_at "b1"), dG X G (c.dn 12).1⟩,
  He.fAd K ("window", none),
  (c.dn 13).2.2.choose,
  ⟨(c.dn 13).2.2.choose_spec, (c.dn 13).2.2.choose_spec.binds (by walk_at "b1"), dG X G (c.dn 13).1⟩,
  He.fAd K ("_in_order", none),
  (c.dn 14).2.2.choose,
  ⟨(c.dn 14).2.2.choose_spec, (c.dn 14).2.2.choose_spec.binds (by walk_at "b1"), dG X G (c.dn 14).1⟩,
  He.fAd K ("UpperSender", some "__init__"),
  (c.dn 15).2.2.choose,
  ⟨(c.dn 15).2.2.choose_spec, (c.dn 15).2.2.choose_spec.binds (by walk_at "b2"), dM (c.dn 15).1 (c.dn 15).2.1 (c.dn 15).2.2.choose_spec.kp⟩⟩
def vd1 : Td1 K mg (vb X G c) := ⟨He.fAd K ("UpperSender", some "may_add"),
  (c.dn 16).2.2.choose,
  ⟨(c.dn 16).2.2.choose_spec, (c.dn 16).2.2.choose_spec.binds (by walk_at "b1"), dM (c.dn 16).1 (c.dn 16).2.1 (c.dn 16).2.2.choose_spec.kp⟩,
  He.fAd K ("UpperSender", some "add"),
  (c.dn 17).2.2.choose,
  ⟨(c.dn 17).2.2.choose_spec, (c.dn 17).2.2.choose_spec.binds (by walk_at "b2"), dM (c.dn 17).1 (c.dn 17).2.1 (c.dn 17).2.2.choose_spec.kp⟩,
  He.fAd K ("UpperSender", some "next_count"),
  (c.dn 18).2.2.choose,
  ⟨(c.dn 18).2.2.choose_spec, (c.dn 18).2.2.choose_spec.binds (by walk_at "b1"), dM (c.dn 18).1 (c.dn 18).2.1 (c.dn 18).2.2.choose_spec.kp⟩,
  He.fAd K ("UpperSender", some "base"),
  (c.dn 19).2.2.choose,
  ⟨(c.dn 19).2.2.choose_spec, (c.dn 19).2.2.choose_spec.binds (by walk_at "b1"), dM (c.dn 19).1 (c.dn 19).2.1 (c.dn 19).2.2.choose_spec.kp⟩,
  He.fAd K ("UpperSender", some "unconfirmed"),
  (c.dn 20).2.2.choose,
  ⟨(c.dn 20).2.2.choose_spec, (c.dn 20).2.2.choose_spec.binds (by walk_at "b1"), dM (c.dn 20).1 (c.dn 20).2.1 (c.dn 20).2.2.choose_spec.kp⟩,
  He.fAd K ("UpperSender", some "confirm"),
  (c.dn 21).2.2.choose,
  ⟨(c.dn 21).2.2.choose_spec, (c.dn 21).2.2.choose_spec.binds (by walk_at "b2"), dM (c.dn 21).1 (c.dn 21).2.1 (c.dn 21).2.2.choose_spec.kp⟩,
  He.fAd K ("UpperSender", some "take_report"),
  (c.dm 0).2.2.choose,
  ⟨(c.dm 0).2.2.choose_spec, (c.dm 0).2.2.choose_spec.binds (by walk_at "b3"), dM (c.dm 0).1 (c.dm 0).2.1 (c.dm 0).2.2.choose_spec.kp⟩,
  He.fAd K ("UpperReceiver", some "__init__"),
  (c.dm 1).2.2.choose,
  ⟨(c.dm 1).2.2.choose_spec, (c.dm 1).2.2.choose_spec.binds (by walk_at "b2"), dM (c.dm 1).1 (c.dm 1).2.1 (c.dm 1).2.2.choose_spec.kp⟩,
  He.fAd K ("UpperReceiver", some "first_missing"),
  (c.dm 2).2.2.choose,
  ⟨(c.dm 2).2.2.choose_spec, (c.dm 2).2.2.choose_spec.binds (by walk_at "b1"), dM (c.dm 2).1 (c.dm 2).2.1 (c.dm 2).2.2.choose_spec.kp⟩,
  He.fAd K ("UpperReceiver", some "take"),
  (c.dm 3).2.2.choose,
  ⟨(c.dm 3).2.2.choose_spec, (c.dm 3).2.2.choose_spec.binds (by walk_at "b3"), dM (c.dm 3).1 (c.dm 3).2.1 (c.dm 3).2.2.choose_spec.kp⟩,
  He.fAd K ("UpperReceiver", some "take_count"),
  (c.dm 4).2.2.choose,
  ⟨(c.dm 4).2.2.choose_spec, (c.dm 4).2.2.choose_spec.binds (by walk_at "b3"), dM (c.dm 4).1 (c.dm 4).2.1 (c.dm 4).2.2.choose_spec.kp⟩,
  He.fAd K ("UpperReceiver", some "report"),
  (c.dm 5).2.2.choose,
  ⟨(c.dm 5).2.2.choose_spec, (c.dm 5).2.2.choose_spec.binds (by walk_at "b1"), dM (c.dm 5).1 (c.dm 5).2.1 (c.dm 5).2.2.choose_spec.kp⟩,
  He.fAd K ("UpperReceiver", some "held"),
  (c.dm 6).2.2.choose,
  ⟨(c.dm 6).2.2.choose_spec, (c.dm 6).2.2.choose_spec.binds (by walk_at "b1"), dM (c.dm 6).1 (c.dm 6).2.1 (c.dm 6).2.2.choose_spec.kp⟩,
  He.fAd K ("Anchor", some "__init__"),
  (c.dm 7).2.2.choose,
  ⟨(c.dm 7).2.2.choose_spec, (c.dm 7).2.2.choose_spec.binds (by walk_at "b3"), dM (c.dm 7).1 (c.dm 7).2.1 (c.dm 7).2.2.choose_spec.kp⟩,
  He.fAd K ("Anchor", some "put"),
  (c.dm 8).2.2.choose,
  ⟨(c.dm 8).2.2.choose_spec, (c.dm 8).2.2.choose_spec.binds (by walk_at "b3"), dM (c.dm 8).1 (c.dm 8).2.1 (c.dm 8).2.2.choose_spec.kp⟩,
  He.fAd K ("Anchor", some "begin_stay"),
  (c.dm 9).2.2.choose,
  ⟨(c.dm 9).2.2.choose_spec, (c.dm 9).2.2.choose_spec.binds (by walk_at "b2"), dM (c.dm 9).1 (c.dm 9).2.1 (c.dm 9).2.2.choose_spec.kp⟩⟩
def vd2 : Td2 K mg (vb X G c) := ⟨He.fAd K ("Anchor", some "take_letter"),
  (c.dm 10).2.2.choose,
  ⟨(c.dm 10).2.2.choose_spec, (c.dm 10).2.2.choose_spec.binds (by walk_at "b3"), dM (c.dm 10).1 (c.dm 10).2.1 (c.dm 10).2.2.choose_spec.kp⟩,
  He.fAd K ("Anchor", some "_give_out"),
  (c.dm 11).2.2.choose,
  ⟨(c.dm 11).2.2.choose_spec, (c.dm 11).2.2.choose_spec.binds (by walk_at "b3"), dM (c.dm 11).1 (c.dm 11).2.1 (c.dm 11).2.2.choose_spec.kp⟩,
  He.fAd K ("Anchor", some "out"),
  (c.dm 12).2.2.choose,
  ⟨(c.dm 12).2.2.choose_spec, (c.dm 12).2.2.choose_spec.binds (by walk_at "b2"), dM (c.dm 12).1 (c.dm 12).2.1 (c.dm 12).2.2.choose_spec.kp⟩,
  He.fAd K ("Anchor", some "unconfirmed"),
  (c.dm 13).2.2.choose,
  ⟨(c.dm 13).2.2.choose_spec, (c.dm 13).2.2.choose_spec.binds (by walk_at "b2"), dM (c.dm 13).1 (c.dm 13).2.1 (c.dm 13).2.2.choose_spec.kp⟩,
  He.fAd K ("_law_next", none),
  (c.dm 14).2.2.choose,
  ⟨(c.dm 14).2.2.choose_spec, (c.dm 14).2.2.choose_spec.binds (by walk_at "b2"), dG X G (c.dm 14).1⟩,
  He.fAd K ("_law_packet", none),
  (c.dm 15).2.2.choose,
  ⟨(c.dm 15).2.2.choose_spec, (c.dm 15).2.2.choose_spec.binds (by walk_at "b2"), dG X G (c.dm 15).1⟩,
  He.fAd K ("_law_put", none),
  (c.dm 16).2.2.choose,
  ⟨(c.dm 16).2.2.choose_spec, (c.dm 16).2.2.choose_spec.binds (by walk_at "b3"), dG X G (c.dm 16).1⟩,
  He.fAd K ("_law_kept", none),
  (c.dm 17).2.2.choose,
  ⟨(c.dm 17).2.2.choose_spec, (c.dm 17).2.2.choose_spec.binds (by walk_at "b2"), dG X G (c.dm 17).1⟩,
  He.fAd K ("_law_down", none),
  (c.dm 18).2.2.choose,
  ⟨(c.dm 18).2.2.choose_spec, (c.dm 18).2.2.choose_spec.binds (by walk_at "b7"), dG X G (c.dm 18).1⟩,
  He.fAd K ("_law_begin", none),
  (c.dm 19).2.2.choose,
  ⟨(c.dm 19).2.2.choose_spec, (c.dm 19).2.2.choose_spec.binds (by walk_at "b4"), dG X G (c.dm 19).1⟩,
  He.fAd K ("_law_up", none),
  (c.dm 20).2.2.choose,
  ⟨(c.dm 20).2.2.choose_spec, (c.dm 20).2.2.choose_spec.binds (by walk_at "b8"), dG X G (c.dm 20).1⟩,
  He.fAd K ("law", none),
  (c.dm 21).2.2.choose,
  ⟨(c.dm 21).2.2.choose_spec, (c.dm 21).2.2.choose_spec.binds (by walk_at "b1"), dG X G (c.dm 21).1⟩⟩
def vk0 : Tk0 K mg (vb X G c) (vd0 X G c) (vd1 X G c) (vd2 X G c) := ⟨⟨He.cls_ok (c.fact 22), He.mkr_ok (c.fact 23)⟩,
  He.noat_ok (c.fact 24),
  He.noat_ok (c.fact 25),
  He.noat_ok (c.fact 26),
  He.noat_ok (c.fact 27),
  (exB_o (c.factB 0)),
  (exB_i (c.factB 0)),
  (exB_t (c.factB 0)),
  (exB_e (c.factB 0)),
  of_decide_eq_true (c.factB 1),
  of_decide_eq_true (c.factB 2),
  (exB_y (c.factB 0)),
  (exB_l (c.factB 0)),
  (exB_o (c.factB 3)),
  (exB_i (c.factB 3)),
  (exB_t (c.factB 3)),
  (exB_e (c.factB 3)),
  of_decide_eq_true (c.factB 4),
  of_decide_eq_true (c.factB 5),
  (exB_y (c.factB 3)),
  (exB_l (c.factB 3)),
  ⟨He.cls_ok (c.fact 28), He.mkr_ok (c.fact 29)⟩,
  He.noat_ok (c.fact 30),
  He.noat_ok (c.fact 31),
  He.noat_ok (c.fact 32),
  ⟨He.cls_ok (c.fact 33), He.mkr_ok (c.fact 34)⟩,
  He.noat_ok (c.fact 35),
  He.noat_ok (c.fact 36),
  He.noat_ok (c.fact 37),
  ⟨He.cls_ok (c.fact 38), He.mkr_ok (c.fact 39)⟩,
  He.noat_ok (c.fact 40),
  He.noat_ok (c.fact 41),
  He.noat_ok (c.fact 42),
  He.noat_ok (c.fact 43),
  He.noat_ok (c.fact 44)⟩
def vx (P : Program) (w : World) (base : Heap) : Tx P w K mg base := ⟨vb X G c, vd0 X G c, vd1 X G c, vd2 X G c, vk0 X G c⟩
end
theorem facts {P : Program} {w : World} {K : PySem.W.Frag} {h : Heap} {mg : Str → Option Value} {f : Addr} (X : K.In h) (G : h.Ns mainGlobals mg) (hla : mg ("law" : Str) = some (.ref f)) (c : SaysX hfa hfb hfn hfm K) :
    ∃ fd : FuncData, (∀ (s : Shared) (v : Value), BindsTo s fd ⟨[v], []⟩ [("script", v)]) ∧ ∀ base : Heap, K.In base → base.Ns mainGlobals mg → FnOk P w K mg base CX0 8 f fd ["script"] (ip_law K) := by
  have e := hla.symm.trans (vd2 X G c).p_law.m
  cases e
  refine ⟨(vd2 X G c).d_law, law_bi (C := fun fd => ∀ (s : Shared) (v : Value), BindsTo s fd ⟨[v], []⟩ [("script", v)]) (vd2 X G c).p_law.F fun _ _ _ _ _ _ s v => .of_eq rfl, fun base _ _ => ?_⟩
  exact ok_law (vx X G c P w base)
end My
open PySem PySem.W PySem.Calls PyProof.Rows
set_option maxRecDepth 100000 in
set_option maxHeartbeats 0 in
theorem PySem.Challenge.cw_bearerwise_k42_anchor_holds : PySem.Challenge.rw_bearerwise_k42_anchor.Holds := by
  w_on; o_law
  refine HandSHeadRun.head_any (r := OpenLaw.row PySem.Challenge.rw_bearerwise_k42_anchor) (q := HeadK.qv) (H := HeadK.hk) (ob := HeadK.ob) (M := 20000) (loose := HeadK.names) (d := HandSHeadRun.topDef (OpenLaw.row PySem.Challenge.rw_bearerwise_k42_anchor).prog 30) (kwd := []) HeadK.ob_eq
    (by kernel_rfl) (fun s => by kernel_rfl) HeadK.run (by kernel_rfl) (by kernel_rfl) (by kernel_rfl) (by rfl) (by first | assumption | decide +kernel) (by decide +kernel) ⟨rfl, rfl, rfl, rfl, rfl, by decide +kernel⟩ ?hw ?hc
  case hw => w_witness2
  case hc =>
    refine L2.walk_ofE (l := PySem.Challenge.rw_bearerwise_k42_anchor) (n := 63) (k := 8) (x := "script") (CX := L2.CX0) rfl (by decide) (by kernel_rfl) ⟨rfl, by decide, by decide⟩ ?F (fun _ _ _ _ z => z)
    intro w mg fa h Y G hmg0
    obtain ⟨K, KX, c⟩ := Y
    have hmg : mg ("law" : PySem.Str) = some (.ref fa) := by
      have e : (HandSHeadRun.topDef (OpenLaw.row PySem.Challenge.rw_bearerwise_k42_anchor).prog 30).name = ("law" : PySem.Str) := by kernel_rfl
      rw [← e]
      exact hmg0
    obtain ⟨fd, hb, hF⟩ := My.facts (P := (PySem.Challenge.rw_bearerwise_k42_anchor).prog) (w := w) KX G hmg c
    exact ⟨K, fd, My.ip_law K, KX, hb, fun H a ns hl _ hS => My.op_law ⟨a, ns, rfl, hS, hl, fun _ => rfl⟩, hF⟩
