import PyProof.Rows.All
import Wide.All
import OpenK.AllK
import Wide.FinOn
import HandS.ForMost
import HandS.ForExc
import HandS.IsInst
import HandS.ExcIs
import HandS.ExcInit
import HandS.Wide
import HandS.WideBits
import HandS.Zip
import HandS.Flow
import HandS.Flt
import PySem.Challenge.RW_bearerwise_k03_cutting
set_option Elab.async false
set_option linter.all false
set_option maxRecDepth 100000
set_option maxHeartbeats 4000000
namespace My
open PySem L2

/-! ### a def as the top has left it -/
structure DefAt (K : PySem.W.Frag) (mg : Str → Option Value) (x q : Str) (st : Stmt) (ps : List Str) (f : Addr) (fd : FuncData) : Prop where
  F : Fun K x q st f fd
  b : Binds K fd ps []
  m : mg x = some (.ref f)
structure MethAt (K : PySem.W.Frag) (C : Addr) (x q : Str) (st : Stmt) (ps : List Str) (f : Addr) (fd : FuncData) : Prop where
  F : Fun K x q st f fd
  b : Binds K fd ps []
  me : Meth K C x f

structure DefAt0 (K : PySem.W.Frag) (x q : Str) (st : Stmt) (ps : List Str) (f : Addr) (fd : FuncData) : Prop where
  F : Fun K x q st f fd
  b : Binds K fd ps []
structure ClsAt (K : PySem.W.Frag) (C f : Addr) : Prop where
  cl : Cls K C
  mk' : Mk K C f

/-! ### heaps -/
theorem same_upd {H : Hp} {p : Addr} {o : HO} (h : H p = none) : Same H (upd H p o) := fun b x e => by
  rw [upd_ne (ne_of_none e h)]
  exact e
/-- an object that H does not know may change -/
theorem same_mut {H H' : Hp} {p : Addr} {o : HO} (e : Same H H') (h : H p = none) : Same H (upd H' p o) := fun b x hb => by
  rw [upd_ne (ne_of_none hb h)]
  exact e b x hb
theorem sq_of {K : PySem.W.Frag} {H : Hp} {a : Addr} {xs : List V} (h : H a = some (.lst xs)) : SqL K H a xs := Or.inl (Or.inl h)
theorem st_of {K : PySem.W.Frag} {H : Hp} {a : Addr} {xs : List V} (h : H a = some (.tup xs)) : SqT K H a xs := Or.inl (Or.inl h)
theorem Same.sqt {K : PySem.W.Frag} {H H' : Hp} {a : Addr} {xs : List V} (e : Same H H') (h : SqT K H a xs) : SqT K H' a xs := by
  rcases h with (h | ⟨o, h⟩) | h
  · exact .inl (.inl (e _ _ h))
  · exact .inl (.inr ⟨o, e _ _ h⟩)
  · exact .inr h
theorem sz {n : Nat} (h : n ≤ 1000000) : n ≤ sizeLine := Nat.le_trans h (by rw [sizeLine_eq]; decide)
theorem szl {n : Nat} (h : n < 1000000) : n < sizeLine := Nat.lt_of_lt_of_le h (by rw [sizeLine_eq]; decide)

/-- the promises' shapes: a value and the heap as it was; a value; a new list -/
def RV (v : V) (H : Hp) (Q : VK) : Prop := ∀ H', Same H H' → Q v H'
def RL (xs : List V) (H : Hp) (Q : VK) : Prop := ∀ p H', H p = none → Same H H' → H' p = some (.lst xs) → Q (.ref p) H'
def RT (xs : List V) (H : Hp) (Q : VK) : Prop := ∀ p H', H p = none → Same H H' → H' p = some (.tup xs) → Q (.ref p) H'

/-! ### stops for the walk: a proposition that no tuple opens -/
inductive Stop (p : Prop) : Prop where
  | a (h : p) : Stop p
  | b (h : p) : Stop p
theorem Stop.un {p : Prop} (h : Stop p) : p := by cases h <;> assumption

/-! ### an exception of an own class whose __init__ takes nothing and stores nothing: X() -/
def spInit0 : Sp := fun vs H Q _ => ∃ a, vs = [.ref a] ∧ Q .non H
structure PlainExc (P : Program) (w : World) (K : PySem.W.Frag) (mg : Str → Option Value) (base : Heap) (x : Str) (C fI : Addr) (fdI : FuncData) : Prop where
  T : OexC K C
  iC : PySem.W.findIn K (.ref C) "__init__" = some (some (.ref fI))
  tI : PySem.W.typeIn K (.ref fI) = some (.type "function")
  F1 : FnOk P w K mg base CX0 1 fI fdI ["self"] spInit0
  bI : Binds K fdI ["self"] []
  m : mg x = some (.ref C)
open PySem.Spec PyProof.Rows in
theorem mk_endN {X : Cx} {pins : List (Addr × Obj)} {σ : L2.St} {H1 : Hp} {Q : XK} {hp hp2 h2 : Heap} {g1 g2 : Array GenState} {d1 d2 : Drawn} {t1 t2 : Nat} {os1 os2 : OsState} {a C : Addr} (T : Raises X (.ref C)) (I1 : Inv X pins σ H1 ⟨hp, g1, d1, t1, os1⟩)
    (ha : hp.objs.size ≤ a) (k : ∀ b o, hp.get? b = some o → hp2.get? b = some o) (un : Un (frs X.stack) [] (upd H1 a (exo a C none)) (upd H1 a (exo a C none)) hp2 h2) (hok : HOk X.prog X.w (upd H1 a (exo a C none)) h2) (ho : os2 = os1) (hb : AllBare g2)
    (q : Q (.ref C) none H1) : MkP X pins σ Q (.ref a) ⟨h2, g2, d2, t2, os2⟩ := by
  obtain ⟨t0, hoe⟩ := exo_at hok upd_same
  have hn : H1 a = none := I1.hok.fresh ha
  obtain ⟨G, g1', g2'⟩ := restrict h2 fun b => decide (b ≠ a)
  have gk : ∀ b, b ≠ a → G.get? b = h2.get? b := fun b hb => g1' b (decide_eq_true hb)
  have ge : G.get? a = none := g2' a (by simp)
  have nha : ∀ {b : Addr} {o : Obj}, hp.get? b = some o → b ≠ a := fun {b o} z => Nat.ne_of_lt (Nat.lt_of_lt_of_le (Heap.lt_size z) ha)
  have up : ∀ {b : Addr}, b ≠ a → H1 b = none → upd H1 a (exo a C none) b = none := fun {b} hb n => by rw [upd_ne hb]; exact n
  have U : Un (frs X.stack) [] H1 H1 hp G := {
    keep := fun b o z n hf hx => by
      rw [gk b (nha z)]
      exact un.keep b o (k b o z) (up (nha z) n) hf hx
    slot := fun b o z n hf hx => by
      rw [gk b (nha z)]
      exact un.slot b o (k b o z) (up (nha z) n) hf hx
    free := fun b o z n hx => n
    there := fun b o z hx => by
      rw [gk b (nha z)]
      exact un.there b o (k b o z) hx
    tups := fun b xs z => z
    frzs := fun b o v z => z
    tbls := fun b ps z => ⟨#[], by rw [z]; simp⟩ }
  have hok3 : HOk X.prog X.w H1 G := fun b o z => by
    have hba : b ≠ a := fun e => by
      rw [e, hn] at z
      cases z
    have z2 : upd H1 a (exo a C none) b = some o := by rw [upd_ne hba]; exact z
    have noa : ∀ {c : Addr} {u : HO}, H1 c = some u → c ≠ a := fun {c u} hc e => by
      rw [e, hn] at hc
      cases hc
    exact (hok b o z2).stay (fun c v hc y => by
        have hca : c ≠ a := by
          rcases hc with hc | hc
          · rw [hc]
            exact hba
          · exact fun e => by
              rw [e, upd_same] at hc
              exact exo_own (Option.some.inj hc)
        rw [gk c hca]
        exact y)
      (fun c hc => by
        by_cases e : c = a
        · rw [e, upd_same] at hc
          exact absurd (Option.some.inj hc) exo_own
        · rw [upd_ne e] at hc
          exact hc)
      (fun c xs hc => by
        by_cases e : c = a
        · rw [e, upd_same] at hc
          exact absurd (Option.some.inj hc) exo_tup
        · rw [upd_ne e] at hc
          exact hc)
  have J : Inv X pins σ H1 ⟨G, g2, d2, t2, os2⟩ := I1.call' (ch := []) ho U hok3 hb (fun b z => absurd z (by simp))
  refine ⟨a, _, _, ⟨G, g2, d2, t2, os2⟩, _, .ref C, none, rfl, J, fun b o z => ?_, ge, hoe, ⟨rfl, rfl⟩, rfl, rfl, hn, rfl, hb, T, q⟩
  by_cases hba : b = a
  · rw [hba, ge] at z
    cases z
  · exact (gk b hba).symm.trans z
open PySem.Spec PyProof.Rows in
theorem pmk_plain {X : Cx} {x : Str} {C fI : Addr} {fdI : FuncData} {p pos : Pos} (T : PlainExc X.prog X.w X.K X.mg X.base x C fI fdI) (hr : Room 2 X.A) (hg : Gl X x) (hdb : (x == ("__debug__" : Str)) = false := by decide) :
    PMk X (.Call (.Name x p) [] [] pos) (fun _ H Q => Q (.ref C) none H) := by
  intro pins s σ H Q I h
  obtain ⟨nm, q, N, bs, bm, sn, sub, ab, col, dd, k0, k1, k2, k3, k5, hC, hbm⟩ := T.T.cls
  refine wpAny_Call_Name_kw (ld_glob I hg T.m ?_ hdb)
  refine PySem.W.callWith_K0 I.kIn T.T.kC ?_
  show wpAny _ _ (call (.ref C) []) _ _ _
  obtain ⟨hp, g, dr, tk, os⟩ := s
  have hsz : hp.objs.size ≤ hp.objs.size + 1 := Nat.le_succ _
  have hn : H (hp.objs.size + 1) = none := I.hok.fresh hsz
  have kk : ∀ b o, hp.get? b = some o → ((hp.push (PySem.W.kdv_tup [])).push (PySem.HandSPX.excO C hp.objs.size)).get? b = some o := fun b o e => Heap.get?_push_of_some _ (Heap.get?_push_of_some _ e)
  have hget : ((hp.push (PySem.W.kdv_tup [])).push (PySem.HandSPX.excO C hp.objs.size)).get? (hp.objs.size + 1) = some (PySem.HandSPX.excO C hp.objs.size) := by heap_get
  have I2 : Inv X pins σ (upd H (hp.objs.size + 1) (exo (hp.objs.size + 1) C none)) ⟨(hp.push (PySem.W.kdv_tup [])).push (PySem.HandSPX.excO C hp.objs.size), g, dr, tk, os⟩ :=
    I.laid (t' := tk) (a := hp.objs.size + 1) (o := exo (hp.objs.size + 1) C none) (h' := (hp.push (PySem.W.kdv_tup [])).push (PySem.HandSPX.excO C hp.objs.size)) kk hsz (exo_ok hget)
  have r2 : Vals [V.ref (hp.objs.size + 1)] [Value.ref (hp.objs.size + 1)] := .cons rfl .nil
  have hq : spInit0 [V.ref (hp.objs.size + 1)] (upd H (hp.objs.size + 1) (exo (hp.objs.size + 1) C none)) (fun v H2 => v = .non ∧ H2 = upd H (hp.objs.size + 1) (exo (hp.objs.size + 1) C none)) (fun _ _ _ => False) := ⟨_, rfl, rfl, rfl⟩
  refine wpAny_call (PySem.HandSPX.call_own PySem.F.excBase_ValueError (fun Y => PySem.HandSPX.refsVE_contains Y bm hbm) (I.kIn _ _ hC) (PySem.W.looks_findIn I.kIn T.iC) (fun self => PySem.W.bind_fn I.kIn self T.tI) (Nat.zero_le _)
    (codeAny_mono (T.F1.run _ X.stack _ _ ⟨[Value.ref (hp.objs.size + 1)], []⟩ [Value.ref (hp.objs.size + 1)] _ _ (fun _ _ _ => False) (hr.make C [] []) (I2.env0.make C [] []) (T.bI _ [Value.ref (hp.objs.size + 1)] I2.kIn rfl) r2 hq) fun r s' hq' => ?_))
  cases r with
  | error er => exact hq'.elim
  | ok fl =>
    cases fl with
    | ret u =>
      obtain ⟨v, H2, os2, bare2, un2, hok2, rv, ev, eH⟩ := hq'
      subst ev
      subst eH
      obtain ⟨h2, g2, d2, t2, os'⟩ := s'
      exact ⟨rv, mk_endN (raises_own T.T.exC T.T.tyC) I hsz kk un2 hok2 os2 bare2 h⟩
    | next => exact False.elim hq'
    | brk => exact False.elim hq'
    | cont => exact False.elim hq'

theorem ite_t {c A B : Prop} [Decidable c] (hc : c) (h : A) : if decide c = true then A else B := by
  rw [decide_eq_true hc]
  exact iteT h
theorem ite_f {c A B : Prop} [Decidable c] (hc : ¬ c) (h : B) : if decide c = true then A else B := by
  rw [decide_eq_false hc]
  exact iteF h
theorem ite_nt {c A B : Prop} [Decidable c] (hc : ¬ c) (h : A) : if (!decide c) = true then A else B := by
  rw [decide_eq_false hc]
  exact iteT h
theorem ite_nf {c A B : Prop} [Decidable c] (hc : c) (h : B) : if (!decide c) = true then A else B := by
  rw [decide_eq_true hc]
  exact iteF h
theorem ite_by {c A B : Prop} [Decidable c] (h1 : c → A) (h2 : ¬ c → B) : if decide c = true then A else B := by
  by_cases h : c
  · exact ite_t h (h1 h)
  · exact ite_f h (h2 h)
theorem ite_nby {c A B : Prop} [Decidable c] (h1 : ¬ c → A) (h2 : c → B) : if (!decide c) = true then A else B := by
  by_cases h : c
  · exact ite_nf h (h2 h)
  · exact ite_nt h (h1 h)
/-- an item of the ints -/
theorem at_int {ns : List Int} {k : Int} (h0 : 0 ≤ k) (h1 : k < (ns.length : Int)) : atI (ns.map V.int) k = some (V.int (ns.getD k.toNat 0)) := by
  refine at_of (j := k.toNat) (by omega) ?_
  have h2 : k.toNat < ns.length := by omega
  rw [List.getElem?_map, List.getElem?_eq_getElem h2, List.getD_eq_getElem?_getD, List.getElem?_eq_getElem h2]
  rfl
theorem two_pos1 (k : Nat) : (0 : Int) < 1 * 2 ^ k := by
  rw [Int.one_mul]
  exact Int.pow_pos (by decide)
theorem q_int {Q : VK} {x y : Int} {H : Hp} (q : Q (.int x) H) (e : x = y) : Q (.int y) H := e ▸ q
theorem q_bl {Q : VK} {x y : Bool} {H : Hp} (q : Q (.bl x) H) (e : x = y) : Q (.bl y) H := e ▸ q

/-! ### readings that stop the walk where a new object comes: told by what holds of the new heap -/
/-- the closure of a reading: some wish that it keeps, and that is enough -/
def cTE (t : TE) : TE := fun σ H Q => ∃ R : VK, t σ H R ∧ ∀ v H', R v H' → Q v H'
def cTA (t : TA) : TA := fun σ H Q => ∃ R : List V → Hp → Prop, t σ H R ∧ ∀ v H', R v H' → Q v H'
def cTT (t : TT) : TT := fun σ H Q => ∃ R : Bool → Hp → Prop, t σ H R ∧ ∀ v H', R v H' → Q v H'
section
variable {X : Cx} {e : Expr} {es : List Expr} {te : TE} {ta : TA} {tt : TT} {pos : Pos}
theorem pe_c (h : PE X e te) : PE X e (cTE te) := ⟨fun pins s σ H Q I ⟨R, h1, h2⟩ => thn (h.run pins s σ H R I h1) fun u s1 ⟨v, H1, I1, r, q⟩ => ⟨v, H1, I1, r, h2 _ _ q⟩⟩
theorem pa_c (h : PA X es ta) : PA X es (cTA ta) := ⟨fun pos pins s σ H Q I ⟨R, h1, h2⟩ => thn (h.run pos pins s σ H R I h1) fun u s1 ⟨v, H1, I1, r, q⟩ => ⟨v, H1, I1, r, h2 _ _ q⟩⟩
theorem pt_c (h : PT X e tt) : PT X e (cTT tt) := ⟨fun pins s σ H Q I ⟨R, h1, h2⟩ => thn (h.run pins s σ H R I h1) fun u s1 ⟨H1, I1, q⟩ => ⟨H1, I1, h2 _ _ q⟩⟩
theorem pe_weak {te' : TE} (h : PE X e te) (w : ∀ σ H Q, te' σ H Q → te σ H Q) : PE X e te' := ⟨fun pins s σ H Q I q => h.run pins s σ H Q I (w σ H Q q)⟩
theorem ps_weak {st : Stmt} {t t' : TS} (h : PS X st t) (w : ∀ D σ H, t' D σ H → t D σ H) : PS X st t' := ⟨fun pins s σ H D I q => h.run pins s σ H D I (w D σ H q)⟩
end
/-- what is wanted of a new object -/
def NewO (o : HO) (H : Hp) (Q : VK) : Prop := ∀ p H', H p = none → Same H H' → H' p = some o → Q (.ref p) H'
theorem NewO.go {o : HO} {H : Hp} {Q : VK} (h : NewO o H Q) : ∀ p, H p = none → Q (.ref p) (upd H p o) := fun p hp => h p _ hp (same_upd hp) upd_same
@[irreducible] def mTup (t : TA) : TE := fun σ H Q => t σ H fun xs H1 => xs.length ≤ 1000 ∧ NewO (.tup xs) H1 Q
@[irreducible] def mLst (t : TA) : TE := fun σ H Q => t σ H fun xs H1 => xs.length ≤ 1000 ∧ NewO (.lst xs) H1 Q
theorem rd_tup {t : TA} {σ : L2.St} {H : Hp} {Q : VK} (h : t σ H fun xs H1 => xs.length ≤ 1000 ∧ NewO (.tup xs) H1 Q) : mTup t σ H Q := by
  unfold mTup
  exact h
theorem rd_lst {t : TA} {σ : L2.St} {H : Hp} {Q : VK} (h : t σ H fun xs H1 => xs.length ≤ 1000 ∧ NewO (.lst xs) H1 Q) : mLst t σ H Q := by
  unfold mLst
  exact h
@[irreducible] def mCat (K : PySem.W.Frag) : R2 := fun x y H Q => ∃ l b xs zs, x = .ref l ∧ y = .ref b ∧ H l = some (.lst xs) ∧ H b = some (.lst zs) ∧ xs.length + zs.length ≤ 1000000 ∧ NewO (.lst (xs ++ zs)) H Q
theorem rd_cat {K : PySem.W.Frag} {l b : Addr} {xs zs : List V} {H : Hp} {Q : VK} (h1 : H l = some (.lst xs)) (h2 : H b = some (.lst zs)) (hz : xs.length + zs.length ≤ 1000000) (h : NewO (.lst (xs ++ zs)) H Q) : mCat K (.ref l) (.ref b) H Q := by
  unfold mCat
  exact ⟨l, b, xs, zs, rfl, rfl, h1, h2, hz, h⟩
@[irreducible] def mRep : R2 := fun x y H Q => ∃ l k xs, x = .ref l ∧ y = .int k ∧ H l = some (.lst xs) ∧ 0 ≤ k ∧ k ≤ 100000 ∧ xs.length * k.toNat ≤ 1000000 ∧ NewO (.lst (List.replicate k.toNat xs).flatten) H Q
@[irreducible] def mSlL (K : PySem.W.Frag) : V → Option Int → Option Int → Hp → VK → Prop := fun x lo hi H Q => ∃ a xs, x = .ref a ∧ SqL K H a xs ∧ NewO (.lst (cutV xs lo hi)) H Q
theorem rd_sl {K : PySem.W.Frag} {a : Addr} {xs : List V} {lo hi : Option Int} {H : Hp} {Q : VK} (h1 : SqL K H a xs) (h : NewO (.lst (cutV xs lo hi)) H Q) : mSlL K (.ref a) lo hi H Q := by
  unfold mSlL
  exact ⟨a, xs, rfl, h1, h⟩
@[irreducible] def mListOf (K : PySem.W.Frag) : List V → Hp → VK → Prop := fun xs H Q => ∃ p ys, xs = [.ref p] ∧ (SqL K H p ys ∨ SqT K H p ys) ∧ NewO (.lst ys) H Q
theorem rd_list {K : PySem.W.Frag} {a : Addr} {xs : List V} {H : Hp} {Q : VK} (h1 : SqL K H a xs) (h : NewO (.lst xs) H Q) : mListOf K [.ref a] H Q := by
  unfold mListOf
  exact ⟨a, xs, rfl, .inl h1, h⟩
/-- the elements of a comprehension, one by one: what each gives, the heap grown at most -/
def Elt (te : TE) (σ : L2.St) (H : Hp) (y : V) : Prop := ∀ H', Same H H' → te σ H' fun v H'' => v = y ∧ Same H' H''
@[irreducible] def mLcR1 (ta : TA) (j : Nat) (te : TE) (vs : List Nat) : TE := fun σ H Q => ta σ H fun ws H1 => ∃ (n : Int) (f : Nat → V), ws = [.int n] ∧ (-100000 ≤ n ∧ n ≤ 100000) ∧ (∀ i, i < n.toNat → Elt te ((wipe σ vs).set j (some (.int (i : Nat)))) H1 (f i)) ∧ NewO (.lst ((List.range n.toNat).map f)) H1 Q
theorem rd_lcR1 {ta : TA} {j : Nat} {te : TE} {vs : List Nat} {σ : L2.St} {H : Hp} {Q : VK} (h : ta σ H fun ws H1 => ∃ (n : Int) (f : Nat → V), ws = [.int n] ∧ (-100000 ≤ n ∧ n ≤ 100000) ∧ (∀ i, i < n.toNat → Elt te ((wipe σ vs).set j (some (.int (i : Nat)))) H1 (f i)) ∧ NewO (.lst ((List.range n.toNat).map f)) H1 Q) : mLcR1 ta j te vs σ H Q := by
  unfold mLcR1
  exact h
@[irreducible] def mLcL (K : PySem.W.Frag) (tl : TE) (j : Nat) (te : TE) (vs : List Nat) : TE := fun σ H Q => tl σ H fun x H1 => ∃ (a : Addr) (xs : List V) (f : V → V), x = .ref a ∧ SqL K H1 a xs ∧ xs.length ≤ 100000 ∧ (∀ y, y ∈ xs → Elt te ((wipe σ vs).set j (some y)) H1 (f y)) ∧ NewO (.lst (xs.map f)) H1 Q
theorem rd_lcL {K : PySem.W.Frag} {tl : TE} {j : Nat} {te : TE} {vs : List Nat} {σ : L2.St} {H : Hp} {Q : VK} (h : tl σ H fun x H1 => ∃ (a : Addr) (xs : List V) (f : V → V), x = .ref a ∧ SqL K H1 a xs ∧ xs.length ≤ 100000 ∧ (∀ y, y ∈ xs → Elt te ((wipe σ vs).set j (some y)) H1 (f y)) ∧ NewO (.lst (xs.map f)) H1 Q) : mLcL K tl j te vs σ H Q := by
  unfold mLcL
  exact h
theorem wipe_set {σ : L2.St} {vs : List Nat} {j : Nat} {x : Option V} (hj : vs = [j]) : wipe ((wipe σ vs).set j x) vs = wipe σ vs := by
  subst hj
  show ((σ.set j none).set j x).set j none = σ.set j none
  rw [List.set_set, List.set_set]
section
variable {X : Cx} {e : Expr} {es : List Expr} {te : TE} {t ta : TA} {tt : TT} {pos : Pos}
theorem pe_tupM {x1} (h : PA X es t) : PE X (.Tuple es x1 pos) (mTup t) := pe_weak (pe_tup (pa_c h)) fun σ H Q q => by
  unfold mTup at q
  exact ⟨_, q, fun xs H1 r => ⟨sz (Nat.le_trans r.1 (by decide)), r.2.go⟩⟩
theorem pe_lstM (h : PA X es t) : PE X (.List es pos) (mLst t) := pe_weak (pe_lst (pa_c h)) fun σ H Q q => by
  unfold mLst at q
  exact ⟨_, q, fun xs H1 r => ⟨sz (Nat.le_trans r.1 (by decide)), r.2.go⟩⟩
theorem op_catM : OpR X (binaryOp .Add) (mCat X.K) := fun pins s σ H x y v u Q I rx ry q => op_cat pins s σ H x y v u Q I rx ry (by
  unfold mCat at q
  obtain ⟨l, b, xs, zs, e1, e2, h1, h2, hz, h⟩ := q
  exact ⟨l, b, xs, zs, e1, e2, h1, h2, sz hz, h.go⟩)
theorem sl_listM : SlR X (mSlL X.K) := fun pins s σ H x v vl vu lo hi sl Q I rx hs pl pu q => sl_list pins s σ H x v vl vu lo hi sl Q I rx hs pl pu (by
  unfold mSlL at q
  obtain ⟨a, xs, e1, h1, h⟩ := q
  exact ⟨a, xs, e1, h1, h.go⟩)
theorem call_listM : CallR X (.type "list") (mListOf X.K) := fun pins s σ H xs us Q I r q => call_list_of pins s σ H xs us Q I r (by
  unfold mListOf at q
  obtain ⟨a, xs, e1, h1, h⟩ := q
  exact ⟨a, xs, e1, h1, h.go⟩)
/-- [e for x in range(n)] -/
theorem lcR1_of {ta : TA} {j : Nat} {te : TE} {vs : List Nat} {σ : L2.St} {H : Hp} {Q : VK} (hj : vs = [j]) (q : mLcR1 ta j te vs σ H Q) : tLc (iRng1 (cTA ta)) (gName j) tYes (cTE te) vs σ H Q := by
  unfold mLcR1 at q
  refine ⟨_, q, fun ws H1 r => ?_⟩
  obtain ⟨n, f, rfl, hn, he, hq⟩ := r
  obtain ⟨hn0, hn⟩ := hn
  have big : (2 : Int) ^ 62 = 4611686018427387904 := by decide
  refine ⟨n, rfl, by omega, by omega, fun D hD => ?_⟩
  refine lc_range (lo := 0) (n := n.toNat) (fun i H' => Same H1 H' ∧ H' D = some (.lst ((List.range i).map f))) ⟨same_upd hD, upd_same⟩ (fun i H' hi p => ⟨wipe_set hj, ?_⟩) fun H' p => hq D H' hD p.1 p.2
  show cTE te ((wipe σ vs).set j (some (.int (0 + (i : Int))))) H' _
  rw [Int.zero_add]
  refine ⟨_, he i hi H' p.1, fun y H'' r => ?_⟩
  obtain ⟨rfl, s2⟩ := r
  refine ⟨_, s2 _ _ p.2, szl (by rw [List.length_map, List.length_range]; omega), same_mut (p.1.trans s2) hD, ?_⟩
  rw [upd_same, List.range_succ, List.map_append]
  rfl
theorem take_snoc {α : Type} {l : List α} {i : Nat} {x : α} (h : l[i]? = some x) : l.take (i + 1) = l.take i ++ [x] := by
  rw [List.take_add_one, h]
  rfl
/-- [e for x in xs] -/
theorem lcL_of {K : PySem.W.Frag} {tl : TE} {j : Nat} {te : TE} {vs : List Nat} {σ : L2.St} {H : Hp} {Q : VK} (hj : vs = [j]) (q : mLcL K tl j te vs σ H Q) : tLc (iList K (cTE tl)) (gName j) tYes (cTE te) vs σ H Q := by
  unfold mLcL at q
  refine ⟨_, q, fun x H1 r => ?_⟩
  obtain ⟨a, xs, f, rfl, hx, hn, he, hq⟩ := r
  refine ⟨a, rfl, ⟨xs, hx⟩, fun D hD => ?_⟩
  refine lc_list (xs := xs) (fun i H' => Same H1 H' ∧ H' D = some (.lst ((xs.take i).map f))) ⟨same_upd hD, upd_same⟩ (fun i H' _ p => p.1.seq hx) (fun i y H' hi p => ⟨wipe_set hj, ?_⟩) fun H' p => hq D H' hD p.1 (by rw [p.2, List.take_length])
  have hy : y ∈ xs := List.mem_of_getElem? hi
  have hl : i < xs.length := (List.getElem?_eq_some_iff.mp hi).1
  show cTE te ((wipe σ vs).set j (some y)) H' _
  refine ⟨_, he y hy H' p.1, fun z H'' r => ?_⟩
  obtain ⟨rfl, s2⟩ := r
  refine ⟨_, s2 _ _ p.2, szl (by rw [List.length_map, List.length_take]; omega), same_mut (p.1.trans s2) hD, ?_⟩
  rw [upd_same, take_snoc hi, List.map_append]
  rfl
theorem pe_lcR1 {elt : Expr} {scope : Scope} {j : Nat} {x : Str} {a : Expr} {p p2 xpos : Pos} (hc : X.calm = true) (hN : X.N.Nodup) (hg : Gl X "range") (hm : X.mg "range" = none) (ha : PA X [a] ta) (ok : BlkOk X.N X.env.scope scope [(x, j)])
    (hgt : ∀ (s : Shared) (H : Hp) (C : Addr) (cl : List (Str × Addr)) (fp : List Addr), PG (X.blk s H scope (compEnvC scope cl C X.env) fp) (.Name x xpos) (gName j))
    (he : ∀ (s : Shared) (H : Hp) (C : Addr) (cl : List (Str × Addr)) (fp : List Addr), PE (X.blk s H scope (compEnvC scope cl C X.env) fp) elt te)
    (hs : starEach [a] X.env = [(false, eval a X.env)] := by rfl) (hs2 : ∀ y, foldedSetIterable (.Call (.Name "range" p) [a] [] p2) X.env y = pure y := by intro _; rfl) :
    PE X (.ListComp elt [⟨.Name x xpos, .Call (.Name "range" p) [a] [] p2, [], 0⟩] scope pos) (mLcR1 ta j te [j]) :=
  pe_weak (pe_lc hc hN (pi_range1 hg hm (pa_c ha) hs) ok hgt (fun _ _ _ _ _ => pts_nil) (fun s H C cl fp => pe_c (he s H C cl fp)) hs2) fun _ _ _ q => lcR1_of rfl q
theorem pe_lcL {elt it : Expr} {scope : Scope} {j : Nat} {x : Str} {xpos : Pos} (hc : X.calm = true) (hN : X.N.Nodup) {tl : TE} (ha : PE X it tl) (ok : BlkOk X.N X.env.scope scope [(x, j)])
    (hgt : ∀ (s : Shared) (H : Hp) (C : Addr) (cl : List (Str × Addr)) (fp : List Addr), PG (X.blk s H scope (compEnvC scope cl C X.env) fp) (.Name x xpos) (gName j))
    (he : ∀ (s : Shared) (H : Hp) (C : Addr) (cl : List (Str × Addr)) (fp : List Addr), PE (X.blk s H scope (compEnvC scope cl C X.env) fp) elt te) (hs2 : ∀ y, foldedSetIterable it X.env y = pure y := by intro _; rfl) :
    PE X (.ListComp elt [⟨.Name x xpos, it, [], 0⟩] scope pos) (mLcL X.K tl j te [j]) :=
  pe_weak (pe_lc hc hN (pi_list (pe_c ha)) ok hgt (fun _ _ _ _ _ => pts_nil) (fun s H C cl fp => pe_c (he s H C cl fp)) hs2) fun _ _ _ q => lcL_of rfl q
theorem ps_setLcR1 {i : Nat} {y : Str} {py spos : Pos} {elt : Expr} {scope : Scope} {j : Nat} {x : Str} {a : Expr} {p p2 xpos : Pos} (hc : X.calm = true) (hN : X.N.Nodup) (hy : X.N[i]? = some y) (hyl : X.env.scope.names.lookup y = some .local)
    (hsw : swapsWith (.ListComp elt [⟨.Name x xpos, .Call (.Name "range" p) [a] [] p2, [], 0⟩] scope pos) (some (.Name y py)) spos.line X.env = pure true) (hg : Gl X "range") (hm : X.mg "range" = none) (ha : PA X [a] ta) (ok : BlkOk X.N X.env.scope scope [(x, j)])
    (hgt : ∀ (s : Shared) (H : Hp) (C : Addr) (cl : List (Str × Addr)) (fp : List Addr), PG (X.blk s H scope (compEnvC scope cl C X.env) fp) (.Name x xpos) (gName j))
    (he : ∀ (s : Shared) (H : Hp) (C : Addr) (cl : List (Str × Addr)) (fp : List Addr), PE (X.blk s H scope (compEnvC scope cl C X.env) fp) elt te)
    (hs : starEach [a] X.env = [(false, eval a X.env)] := by rfl) (hs2 : ∀ y, foldedSetIterable (.Call (.Name "range" p) [a] [] p2) X.env y = pure y := by intro _; rfl) :
    PS X (.Assign [.Name y py] (.ListComp elt [⟨.Name x xpos, .Call (.Name "range" p) [a] [] p2, [], 0⟩] scope pos) spos) (tAsg (mLcR1 ta j te [j]) (gName i)) :=
  ps_weak (ps_setLc hc hN hy hyl hsw (pi_range1 hg hm (pa_c ha) hs) ok hgt (fun _ _ _ _ _ => pts_nil) (fun s H C cl fp => pe_c (he s H C cl fp)) hs2) fun _ _ _ q => lcR1_of rfl q
theorem ps_setLcL {i : Nat} {y : Str} {py spos : Pos} {elt it : Expr} {scope : Scope} {j : Nat} {x : Str} {xpos : Pos} {tl : TE} (hc : X.calm = true) (hN : X.N.Nodup) (hy : X.N[i]? = some y) (hyl : X.env.scope.names.lookup y = some .local)
    (hsw : swapsWith (.ListComp elt [⟨.Name x xpos, it, [], 0⟩] scope pos) (some (.Name y py)) spos.line X.env = pure true) (ha : PE X it tl) (ok : BlkOk X.N X.env.scope scope [(x, j)])
    (hgt : ∀ (s : Shared) (H : Hp) (C : Addr) (cl : List (Str × Addr)) (fp : List Addr), PG (X.blk s H scope (compEnvC scope cl C X.env) fp) (.Name x xpos) (gName j))
    (he : ∀ (s : Shared) (H : Hp) (C : Addr) (cl : List (Str × Addr)) (fp : List Addr), PE (X.blk s H scope (compEnvC scope cl C X.env) fp) elt te) (hs2 : ∀ y, foldedSetIterable it X.env y = pure y := by intro _; rfl) :
    PS X (.Assign [.Name y py] (.ListComp elt [⟨.Name x xpos, it, [], 0⟩] scope pos) spos) (tAsg (mLcL X.K tl j te [j]) (gName i)) :=
  ps_weak (ps_setLc hc hN hy hyl hsw (pi_list (pe_c ha)) ok hgt (fun _ _ _ _ _ => pts_nil) (fun s H C cl fp => pe_c (he s H C cl fp)) hs2) fun _ _ _ q => lcL_of rfl q
/-! ### loops that stop the walk -/
@[irreducible] def mForR1 (ta : TA) (j : Nat) (tb : TS) : TS := fun D σ H => ta σ H fun ws H1 => ∃ (n : Int) (Pv : Nat → L2.St → Hp → Prop), ws = [.int n] ∧ (-100000 ≤ n ∧ n ≤ 100000) ∧ Pv 0 σ H1 ∧
  (∀ i σ' H', i < n.toNat → Pv i σ' H' → tb { D with nx := Pv (i + 1), ct := Pv (i + 1), bk := D.nx } (σ'.set j (some (.int (i : Nat)))) H') ∧ ∀ σ' H', Pv n.toNat σ' H' → D.nx σ' H'
theorem rd_forR1 {ta : TA} {j : Nat} {tb : TS} {D : Ends} {σ : L2.St} {H : Hp} (h : ta σ H fun ws H1 => ∃ (n : Int) (Pv : Nat → L2.St → Hp → Prop), ws = [.int n] ∧ (-100000 ≤ n ∧ n ≤ 100000) ∧ Pv 0 σ H1 ∧
  (∀ i σ' H', i < n.toNat → Pv i σ' H' → tb { D with nx := Pv (i + 1), ct := Pv (i + 1), bk := D.nx } (σ'.set j (some (.int (i : Nat)))) H') ∧ ∀ σ' H', Pv n.toNat σ' H' → D.nx σ' H') : mForR1 ta j tb D σ H := by
  unfold mForR1
  exact h
theorem forR1_of {ta : TA} {j : Nat} {tb : TS} {D : Ends} {σ : L2.St} {H : Hp} (q : mForR1 ta j tb D σ H) : tFor (iRng1 (cTA ta)) (gName j) tb D σ H := by
  unfold mForR1 at q
  refine ⟨_, q, fun ws H1 r => ?_⟩
  obtain ⟨n, Pv, rfl, ⟨hn0, hn⟩, h0, hs, hd⟩ := r
  have big : (2 : Int) ^ 62 = 4611686018427387904 := by decide
  refine ⟨n, rfl, by omega, by omega, for_range (lo := 0) (n := n.toNat) Pv h0 (fun i σ' H' hi p => ?_) hd⟩
  show tb _ (σ'.set j (some (.int (0 + (i : Int))))) H'
  rw [Int.zero_add]
  exact hs i σ' H' hi p
theorem ps_forR1 {j : Nat} {x : Str} {a : Expr} {body : List Stmt} {tb : TS} {p p2 xpos : Pos} (hp : PassesOwn (model X.prog X.w) X.A X.env X.xe) (hc : X.calm = true) (hg : Gl X "range") (hm : X.mg "range" = none) (ha : PA X [a] ta) (hgt : PG X (.Name x xpos) (gName j)) (hb : PSs X body tb)
    (hs : starEach [a] X.env = [(false, eval a X.env)] := by rfl) (hs2 : ∀ y, foldedSetIterable (.Call (.Name "range" p) [a] [] p2) X.env y = pure y := by intro _; rfl) : PS X (.For (.Name x xpos) (.Call (.Name "range" p) [a] [] p2) body [] pos) (mForR1 ta j tb) :=
  ps_weak (ps_for hp hc (pi_range1 hg hm (pa_c ha) hs) hgt hb hs2) fun _ _ _ q => forR1_of q
@[irreducible] def mForR2 (ta : TA) (j : Nat) (tb : TS) : TS := fun D σ H => ta σ H fun ws H1 => ∃ (lo n : Int) (Pv : Nat → L2.St → Hp → Prop), ws = [.int lo, .int n] ∧ (-100000 ≤ lo ∧ lo ≤ 100000 ∧ -100000 ≤ n ∧ n ≤ 100000) ∧ Pv 0 σ H1 ∧
  (∀ i σ' H', i < (n - lo).toNat → Pv i σ' H' → tb { D with nx := Pv (i + 1), ct := Pv (i + 1), bk := D.nx } (σ'.set j (some (.int (lo + (i : Int))))) H') ∧ ∀ σ' H', Pv (n - lo).toNat σ' H' → D.nx σ' H'
theorem rd_forR2 {ta : TA} {j : Nat} {tb : TS} {D : Ends} {σ : L2.St} {H : Hp} (h : ta σ H fun ws H1 => ∃ (lo n : Int) (Pv : Nat → L2.St → Hp → Prop), ws = [.int lo, .int n] ∧ (-100000 ≤ lo ∧ lo ≤ 100000 ∧ -100000 ≤ n ∧ n ≤ 100000) ∧ Pv 0 σ H1 ∧
  (∀ i σ' H', i < (n - lo).toNat → Pv i σ' H' → tb { D with nx := Pv (i + 1), ct := Pv (i + 1), bk := D.nx } (σ'.set j (some (.int (lo + (i : Int))))) H') ∧ ∀ σ' H', Pv (n - lo).toNat σ' H' → D.nx σ' H') : mForR2 ta j tb D σ H := by
  unfold mForR2
  exact h
theorem ps_forR2 {j : Nat} {x : Str} {a b : Expr} {body : List Stmt} {tb : TS} {p p2 xpos : Pos} (hp : PassesOwn (model X.prog X.w) X.A X.env X.xe) (hc : X.calm = true) (hg : Gl X "range") (hm : X.mg "range" = none) (ha : PA X [a, b] ta) (hgt : PG X (.Name x xpos) (gName j)) (hb : PSs X body tb)
    (hs : starEach [a, b] X.env = [(false, eval a X.env), (false, eval b X.env)] := by rfl) (hs3 : starEach [b] X.env = [(false, eval b X.env)] := by rfl) (hs2 : ∀ y, foldedSetIterable (.Call (.Name "range" p) [a, b] [] p2) X.env y = pure y := by intro _; rfl) :
    PS X (.For (.Name x xpos) (.Call (.Name "range" p) [a, b] [] p2) body [] pos) (mForR2 ta j tb) :=
  ps_weak (ps_for hp hc (pi_range2 hg hm (pa_c ha) hs hs3) hgt hb hs2) fun D σ H q => by
    unfold mForR2 at q
    refine ⟨_, q, fun ws H1 r => ?_⟩
    obtain ⟨lo, n, Pv, rfl, ⟨h1, h2, h3, h4⟩, h0, hs, hd⟩ := r
    have big : (2 : Int) ^ 62 = 4611686018427387904 := by decide
    exact ⟨lo, n, rfl, ⟨by omega, by omega, by omega, by omega⟩, for_range (lo := lo) (n := (n - lo).toNat) Pv h0 (fun i σ' H' hi p => hs i σ' H' hi p) hd⟩
/-- for x in xs -/
@[irreducible] def mForL (K : PySem.W.Frag) (tl : TE) (j : Nat) (tb : TS) : TS := fun D σ H => tl σ H fun x H1 => ∃ (a : Addr) (xs : List V) (Pv : Nat → L2.St → Hp → Prop), x = .ref a ∧ SqL K H1 a xs ∧ Pv 0 σ H1 ∧ (∀ i σ' H', i ≤ xs.length → Pv i σ' H' → SqL K H' a xs) ∧
  (∀ i y σ' H', xs[i]? = some y → Pv i σ' H' → tb { D with nx := Pv (i + 1), ct := Pv (i + 1), bk := D.nx } (σ'.set j (some y)) H') ∧ ∀ σ' H', Pv xs.length σ' H' → D.nx σ' H'
theorem rd_forL {K : PySem.W.Frag} {tl : TE} {j : Nat} {tb : TS} {D : Ends} {σ : L2.St} {H : Hp} (h : tl σ H fun x H1 => ∃ (a : Addr) (xs : List V) (Pv : Nat → L2.St → Hp → Prop), x = .ref a ∧ SqL K H1 a xs ∧ Pv 0 σ H1 ∧ (∀ i σ' H', i ≤ xs.length → Pv i σ' H' → SqL K H' a xs) ∧
  (∀ i y σ' H', xs[i]? = some y → Pv i σ' H' → tb { D with nx := Pv (i + 1), ct := Pv (i + 1), bk := D.nx } (σ'.set j (some y)) H') ∧ ∀ σ' H', Pv xs.length σ' H' → D.nx σ' H') : mForL K tl j tb D σ H := by
  unfold mForL
  exact h
theorem ps_forL {j : Nat} {x : Str} {it : Expr} {body : List Stmt} {tb : TS} {tl : TE} {xpos : Pos} (hp : PassesOwn (model X.prog X.w) X.A X.env X.xe) (hc : X.calm = true) (ha : PE X it tl) (hgt : PG X (.Name x xpos) (gName j)) (hb : PSs X body tb)
    (hs2 : ∀ y, foldedSetIterable it X.env y = pure y := by intro _; rfl) : PS X (.For (.Name x xpos) it body [] pos) (mForL X.K tl j tb) :=
  ps_weak (ps_for hp hc (pi_list (pe_c ha)) hgt hb hs2) fun D σ H q => by
    unfold mForL at q
    refine ⟨_, q, fun x H1 r => ?_⟩
    obtain ⟨a, xs, Pv, rfl, hx, h0, hl, hs, hd⟩ := r
    exact ⟨a, rfl, ⟨xs, hx⟩, for_list (xs := xs) Pv h0 hl (fun i y σ' H' hi p => hs i y σ' H' hi p) hd⟩
/-- for .. in xs, the target of any form -/
@[irreducible] def mForG (K : PySem.W.Frag) (tl : TE) (g : TG) (tb : TS) : TS := fun D σ H => tl σ H fun x H1 => ∃ (a : Addr) (xs : List V) (Pv : Nat → L2.St → Hp → Prop), x = .ref a ∧ SqL K H1 a xs ∧ Pv 0 σ H1 ∧ (∀ i σ' H', i ≤ xs.length → Pv i σ' H' → SqL K H' a xs) ∧
  (∀ i y σ' H', xs[i]? = some y → Pv i σ' H' → g y σ' H' fun σ2 H2 => tb { D with nx := Pv (i + 1), ct := Pv (i + 1), bk := D.nx } σ2 H2) ∧ ∀ σ' H', Pv xs.length σ' H' → D.nx σ' H'
theorem rd_forG {K : PySem.W.Frag} {tl : TE} {g : TG} {tb : TS} {D : Ends} {σ : L2.St} {H : Hp} (h : tl σ H fun x H1 => ∃ (a : Addr) (xs : List V) (Pv : Nat → L2.St → Hp → Prop), x = .ref a ∧ SqL K H1 a xs ∧ Pv 0 σ H1 ∧ (∀ i σ' H', i ≤ xs.length → Pv i σ' H' → SqL K H' a xs) ∧
  (∀ i y σ' H', xs[i]? = some y → Pv i σ' H' → g y σ' H' fun σ2 H2 => tb { D with nx := Pv (i + 1), ct := Pv (i + 1), bk := D.nx } σ2 H2) ∧ ∀ σ' H', Pv xs.length σ' H' → D.nx σ' H') : mForG K tl g tb D σ H := by
  unfold mForG
  exact h
theorem ps_forG {tg it : Expr} {body : List Stmt} {g : TG} {tb : TS} {tl : TE} (hp : PassesOwn (model X.prog X.w) X.A X.env X.xe) (hc : X.calm = true) (ha : PE X it tl) (hgt : PG X tg g) (hb : PSs X body tb)
    (hs2 : ∀ y, foldedSetIterable it X.env y = pure y := by intro _; rfl) : PS X (.For tg it body [] pos) (mForG X.K tl g tb) :=
  ps_weak (ps_for hp hc (pi_list (pe_c ha)) hgt hb hs2) fun D σ H q => by
    unfold mForG at q
    refine ⟨_, q, fun x H1 r => ?_⟩
    obtain ⟨a, xs, Pv, rfl, hx, h0, hl, hs, hd⟩ := r
    exact ⟨a, rfl, ⟨xs, hx⟩, for_list (xs := xs) Pv h0 hl (fun i y σ' H' hi p => hs i y σ' H' hi p) hd⟩
/-- for x, y in zip(xs, ys), lists of one length -/
@[irreducible] def mForZ (K : PySem.W.Frag) (ta : TA) (i1 i2 : Nat) (tb : TS) : TS := fun D σ H => ta σ H fun ws H1 => ∃ (a b : Addr) (xs ys : List V) (Pv : Nat → L2.St → Hp → Prop), ws = [.ref a, .ref b] ∧ SqL K H1 a xs ∧ SqL K H1 b ys ∧ xs.length = ys.length ∧ Pv 0 σ H1 ∧ (∀ i σ' H', Pv i σ' H' → SqL K H' a xs ∧ SqL K H' b ys) ∧
  (∀ i x y σ' H' H'', xs[i]? = some x → ys[i]? = some y → Pv i σ' H' → Same H' H'' → tb { D with nx := Pv (i + 1), ct := Pv (i + 1), bk := D.nx } ((σ'.set i1 (some x)).set i2 (some y)) H'') ∧ ∀ σ' H', Pv xs.length σ' H' → D.nx σ' H'
theorem rd_forZ {K : PySem.W.Frag} {ta : TA} {i1 i2 : Nat} {tb : TS} {D : Ends} {σ : L2.St} {H : Hp} (h : ta σ H fun ws H1 => ∃ (a b : Addr) (xs ys : List V) (Pv : Nat → L2.St → Hp → Prop), ws = [.ref a, .ref b] ∧ SqL K H1 a xs ∧ SqL K H1 b ys ∧ xs.length = ys.length ∧ Pv 0 σ H1 ∧ (∀ i σ' H', Pv i σ' H' → SqL K H' a xs ∧ SqL K H' b ys) ∧
  (∀ i x y σ' H' H'', xs[i]? = some x → ys[i]? = some y → Pv i σ' H' → Same H' H'' → tb { D with nx := Pv (i + 1), ct := Pv (i + 1), bk := D.nx } ((σ'.set i1 (some x)).set i2 (some y)) H'') ∧ ∀ σ' H', Pv xs.length σ' H' → D.nx σ' H') : mForZ K ta i1 i2 tb D σ H := by
  unfold mForZ
  exact h
theorem ps_forZ {e e2 : Expr} {kk : Nat} {p p2 tpos : Pos} {i1 i2 : Nat} {body : List Stmt} {tb : TS} {t1 t2 : Expr} (hp : PassesOwn (model X.prog X.w) X.A X.env X.xe) (hc : X.calm = true) (hg : Gl X "zip") (hm : X.mg "zip" = none) (ha : PA X [e, e2] ta)
    (hgt : PG X (.Tuple [t1, t2] kk tpos) (gTup X.K 2 (gCons (gName i1) (gCons (gName i2) gNil)))) (hb : PSs X body tb)
    (hs : starEach [e, e2] X.env = (false, eval e X.env) :: starEach [e2] X.env := by rfl) (hpl : (backTo p2 (starEach [e2] X.env)).any (·.1) = false := by rfl) (hs2 : ∀ y, foldedSetIterable (.Call (.Name "zip" p) [e, e2] [] p2) X.env y = pure y := by intro _; rfl) :
    PS X (.For (.Tuple [t1, t2] kk tpos) (.Call (.Name "zip" p) [e, e2] [] p2) body [] pos) (mForZ X.K ta i1 i2 tb) :=
  ps_weak (ps_for hp hc (pi_zip hg hm (pa_c ha) hs hpl) hgt hb hs2) fun D σ H q => by
    unfold mForZ at q
    refine ⟨_, q, fun ws H1 r => ?_⟩
    obtain ⟨a, b, xs, ys, Pv, rfl, hx, hy, hl, h0, hq, hs, hd⟩ := r
    refine ⟨a, b, xs, ys, rfl, hx, hy, RZ.for_zipL hl Pv h0 hq (fun i x y T σ' H' h1 h2 p hT => ?_) hd⟩
    exact ⟨T, [x, y], rfl, st_of upd_same, rfl, x, [y], rfl, y, [], rfl, rfl, hs i x y σ' H' _ h1 h2 p (same_upd hT)⟩
end
theorem ite_ei {x y : Int} {A B : Prop} (hc : x = y) (h : A) : if decide (V.int x = V.int y) = true then A else B := ite_t (congrArg V.int hc) h
theorem ite_eif {x y : Int} {A B : Prop} (hc : x ≠ y) (h : B) : if decide (V.int x = V.int y) = true then A else B := ite_f (fun e => hc (V.int.inj e)) h
theorem ite_ni {x y : Int} {A B : Prop} (hc : x = y) (h : B) : if (!decide (V.int x = V.int y)) = true then A else B := ite_nf (congrArg V.int hc) h
theorem ite_nit {x y : Int} {A B : Prop} (hc : x ≠ y) (h : A) : if (!decide (V.int x = V.int y)) = true then A else B := ite_nt (fun e => hc (V.int.inj e)) h
theorem ite_eby {x y : Int} {A B : Prop} (h1 : x = y → A) (h2 : x ≠ y → B) : if decide (V.int x = V.int y) = true then A else B := ite_by (fun e => h1 (V.int.inj e)) (fun n => h2 fun e => n (congrArg V.int e))
theorem ite_enby {x y : Int} {A B : Prop} (h1 : x ≠ y → A) (h2 : x = y → B) : if (!decide (V.int x = V.int y)) = true then A else B := ite_nby (fun n => h1 fun e => n (congrArg V.int e)) (fun e => h2 (V.int.inj e))

/-! ### branches that stop the walk -/
@[irreducible] def Br (b : Bool) (A B : Prop) : Prop := if b = true then A else B
section
variable {b : Bool} {A B : Prop}
theorem Br.un (h : Br b A B) : if b = true then A else B := by
  unfold Br at h
  exact h
theorem br_of (h : if b = true then A else B) : Br b A B := by
  unfold Br
  exact h
theorem br_T (h : A) : Br true A B := br_of (iteT h)
theorem br_F (h : B) : Br false A B := br_of (iteF h)
theorem br_nT (h : A) : Br (!false) A B := br_of (iteT h)
theorem br_nF (h : B) : Br (!true) A B := br_of (iteF h)
theorem br_t {c : Prop} [Decidable c] (hc : c) (h : A) : Br (decide c) A B := br_of (ite_t hc h)
theorem br_f {c : Prop} [Decidable c] (hc : ¬ c) (h : B) : Br (decide c) A B := br_of (ite_f hc h)
theorem br_nt {c : Prop} [Decidable c] (hc : ¬ c) (h : A) : Br (!decide c) A B := br_of (ite_nt hc h)
theorem br_nf {c : Prop} [Decidable c] (hc : c) (h : B) : Br (!decide c) A B := br_of (ite_nf hc h)
theorem br_by {c : Prop} [Decidable c] (h1 : c → A) (h2 : ¬ c → B) : Br (decide c) A B := br_of (ite_by h1 h2)
theorem br_nby {c : Prop} [Decidable c] (h1 : ¬ c → A) (h2 : c → B) : Br (!decide c) A B := br_of (ite_nby h1 h2)
theorem br_ei {x y : Int} (hc : x = y) (h : A) : Br (decide (V.int x = V.int y)) A B := br_of (ite_ei hc h)
theorem br_eif {x y : Int} (hc : x ≠ y) (h : B) : Br (decide (V.int x = V.int y)) A B := br_of (ite_eif hc h)
theorem br_ni {x y : Int} (hc : x = y) (h : B) : Br (!decide (V.int x = V.int y)) A B := br_of (ite_ni hc h)
theorem br_nit {x y : Int} (hc : x ≠ y) (h : A) : Br (!decide (V.int x = V.int y)) A B := br_of (ite_nit hc h)
theorem br_eby {x y : Int} (h1 : x = y → A) (h2 : x ≠ y → B) : Br (decide (V.int x = V.int y)) A B := br_of (ite_eby h1 h2)
theorem br_enby {x y : Int} (h1 : x ≠ y → A) (h2 : x = y → B) : Br (!decide (V.int x = V.int y)) A B := br_of (ite_enby h1 h2)
theorem br_b (h1 : b = true → A) (h2 : b = false → B) : Br b A B := by
  cases b with
  | true => exact br_T (h1 rfl)
  | false => exact br_F (h2 rfl)
end
def mIfS (c : TT) (t u : TS) : TS := fun D σ H => c σ H fun b H1 => Br b (t D σ H1) (u D σ H1)
def mIf (c : TT) (ta tb : TE) : TE := fun σ H Q => c σ H fun b H1 => Br b (ta σ H1 Q) (tb σ H1 Q)
def mAnd (t u : TT) : TT := fun σ H Q => t σ H fun c H1 => Br c (u σ H1 Q) (Q false H1)
def mOr (t u : TT) : TT := fun σ H Q => t σ H fun c H1 => Br c (Q true H1) (u σ H1 Q)
def mAndV (ta tb : TE) : TE := fun σ H Q => ta σ H fun x H1 => ∃ c, x = .bl c ∧ Br c (tb σ H1 Q) (Q (.bl false) H1)
def mOrV (ta tb : TE) : TE := fun σ H Q => ta σ H fun x H1 => ∃ c, x = .bl c ∧ Br c (Q (.bl true) H1) (tb σ H1 Q)
def mChain (r r' : R2) (ta tb tc : TE) : TE := fun σ H Q => ta σ H fun x H1 => tb σ H1 fun y H2 => r x y H2 fun z H3 => ∃ k, z = .bl k ∧ Br k (tc σ H3 fun w' H4 => r' y w' H4 Q) (Q (.bl false) H3)
def mNot (t : TT) : TT := fun σ H Q => t σ H fun c H1 => Q (!c) H1
def cR2 (r : R2) : R2 := fun x y H Q => ∃ R : VK, r x y H R ∧ ∀ v H', R v H' → Q v H'
section
variable {X : Cx} {e a b c : Expr} {ta tb tc : TE} {tt tA tB' : TT} {pos : Pos} {t u : TS} {rest : List Expr}
theorem pw_weak {tt' : TT} (h : PW X e tt) (w : ∀ σ H Q, tt' σ H Q → tt σ H Q) : PW X e tt' := ⟨fun wh pins s σ H Q I q => h.run wh pins s σ H Q I (w σ H Q q)⟩
theorem pt_weak {tt' : TT} (h : PT X e tt) (w : ∀ σ H Q, tt' σ H Q → tt σ H Q) : PT X e tt' := ⟨fun pins s σ H Q I q => h.run pins s σ H Q I (w σ H Q q)⟩
theorem opr_c {f : Value → Value → Sem Value} {r : R2} (h : OpR X f r) : OpR X f (cR2 r) := fun pins s σ H x y v u Q I rx ry ⟨R, h1, h2⟩ => thn (h pins s σ H x y v u R I rx ry h1) fun w s1 ⟨z, H1, I1, rz, q⟩ => ⟨z, H1, I1, rz, h2 _ _ q⟩
theorem ps_ifM {bs us : List Stmt} (hc : PT X c tt) (ha : PSs X bs t) (hb : PSs X us u) : PS X (.If c bs us pos) (mIfS tt t u) := ps_weak (ps_if (pt_c hc) ha hb) fun D σ H q => ⟨_, q, fun b H1 r => r.un⟩
theorem pe_ifM (hc : PT X c tt) (ha : PE X a ta) (hb : PE X b tb) : PE X (.IfExp c a b pos) (mIf tt ta tb) := pe_weak (pe_ifExp (pt_c hc) ha hb) fun σ H Q q => ⟨_, q, fun b H1 r => r.un⟩
theorem pw_andM (ha : PT X a tA) (hb : PW X (.BoolOp .And (b :: rest) pos) tB') : PW X (.BoolOp .And (a :: b :: rest) pos) (mAnd tA tB') := pw_weak (pw_and (pt_c ha) hb) fun σ H Q q => ⟨_, q, fun b H1 r => r.un⟩
theorem pw_orM (ha : PT X a tA) (hb : PW X (.BoolOp .Or (b :: rest) pos) tB') : PW X (.BoolOp .Or (a :: b :: rest) pos) (mOr tA tB') := pw_weak (pw_or (pt_c ha) hb) fun σ H Q q => ⟨_, q, fun b H1 r => r.un⟩
theorem pe_andM (ha : PE X a ta) (hb : PE X (.BoolOp .And (b :: rest) pos) tb) : PE X (.BoolOp .And (a :: b :: rest) pos) (mAndV ta tb) := pe_weak (pe_and (pe_c ha) hb) fun σ H Q q => ⟨_, q, fun v H1 ⟨c, e, r⟩ => ⟨c, e, r.un⟩⟩
theorem pe_orM (ha : PE X a ta) (hb : PE X (.BoolOp .Or (b :: rest) pos) tb) : PE X (.BoolOp .Or (a :: b :: rest) pos) (mOrV ta tb) := pe_weak (pe_or (pe_c ha) hb) fun σ H Q q => ⟨_, q, fun v H1 ⟨c, e, r⟩ => ⟨c, e, r.un⟩⟩
theorem pe_chainM {op op' : CmpOp} {r r' : R2} (ho : OpR X (compareOp op) r) (ho' : OpR X (compareOp op') r') (ha : PE X a ta) (hb : PE X b tb) (hc : PE X c tc) (hm : lastMarks [op, op'] [b, c] = false := by with_unfolding_all rfl) : PE X (.Compare a [op, op'] [b, c] pos) (mChain r r' ta tb tc) :=
  pe_weak (pe_chain (opr_c ho) ho' (pe_c ha) (pe_c hb) hc hm) fun σ H Q q => ⟨_, q, fun x H1 q1 => ⟨_, q1, fun y H2 q2 => ⟨_, q2, fun z H3 ⟨k, e, r⟩ => ⟨k, e, r.un⟩⟩⟩⟩
theorem pt_chainM {op op' : CmpOp} {r r' : R2} (ho : OpR X (compareOp op) r) (ho' : OpR X (compareOp op') r') (ha : PE X a ta) (hb : PE X b tb) (hc : PE X c tc) (hm : lastMarks [op, op'] [b, c] = false := by with_unfolding_all rfl) : PT X (.Compare a [op, op'] [b, c] pos) (tTest (mChain r r' ta tb tc)) :=
  pt_weak (pt_chain (opr_c ho) ho' (pe_c ha) (pe_c hb) hc hm) fun σ H Q q => ⟨_, q, fun x H1 q1 => ⟨_, q1, fun y H2 q2 => ⟨_, q2, fun z H3 ⟨k, e, r⟩ => ⟨k, e, r.un⟩⟩⟩⟩
end
/-! ### the operators, told without a redex -/
def mAdd : R2 := fun x y H Q => ∃ i j, x = .int i ∧ y = .int j ∧ Q (.int (i + j)) H
def mSub : R2 := fun x y H Q => ∃ i j, x = .int i ∧ y = .int j ∧ Q (.int (i - j)) H
def mMul : R2 := fun x y H Q => ∃ i j, x = .int i ∧ y = .int j ∧ CMul i j ∧ Q (.int (i * j)) H
def mMulW : R2 := fun x y H Q => ∃ i j, x = .int i ∧ y = .int j ∧ CMulW i j ∧ Q (.int (i * j)) H
def mDiv : R2 := fun x y H Q => ∃ i j, x = .int i ∧ y = .int j ∧ CDiv i j ∧ Q (.int (i / j)) H
def mDivW : R2 := fun x y H Q => ∃ i j, x = .int i ∧ y = .int j ∧ CDivW i j ∧ Q (.int (i / j)) H
def mMod : R2 := fun x y H Q => ∃ i j, x = .int i ∧ y = .int j ∧ 0 < j ∧ Q (.int (i % j)) H
def mPow : R2 := fun x y H Q => ∃ i j, x = .int i ∧ y = .int j ∧ CPow i j ∧ Q (.int (i ^ j.toNat)) H
def mShl1 : R2 := fun x y H Q => ∃ j, x = .int 1 ∧ y = .int j ∧ (0 ≤ j ∧ j ≤ 1000000) ∧ Q (.int (2 ^ j.toNat)) H
def mShl : R2 := fun x y H Q => ∃ i j, x = .int i ∧ y = .int j ∧ CShl i j ∧ Q (.int (i * 2 ^ j.toNat)) H
def mShr : R2 := fun x y H Q => ∃ i j, x = .int i ∧ y = .int j ∧ 0 ≤ j ∧ Q (.int (i / 2 ^ j.toNat)) H
def mAndI : R2 := fun x y H Q => ∃ i j, x = .int i ∧ y = .int j ∧ Q (.int (Builtin.bitAnd i j)) H
def mXorI : R2 := fun x y H Q => ∃ i j, x = .int i ∧ y = .int j ∧ Q (.int (Builtin.bitXor i j)) H
def mLt : R2 := fun x y H Q => ∃ i j, x = .int i ∧ y = .int j ∧ Q (.bl (decide (i < j))) H
def mLe : R2 := fun x y H Q => ∃ i j, x = .int i ∧ y = .int j ∧ Q (.bl (decide (i ≤ j))) H
def mGt : R2 := fun x y H Q => ∃ i j, x = .int i ∧ y = .int j ∧ Q (.bl (decide (j < i))) H
def mGe : R2 := fun x y H Q => ∃ i j, x = .int i ∧ y = .int j ∧ Q (.bl (decide (j ≤ i))) H
section
variable {X : Cx}
theorem op_addM : OpR X (binaryOp .Add) mAdd := op_add
theorem op_subM : OpR X (binaryOp .Sub) mSub := op_sub
theorem op_mulM : OpR X (binaryOp .Mult) mMul := op_mul
theorem op_mulWM : OpR X (binaryOp .Mult) mMulW := op_mulW
theorem op_fdivM : OpR X (binaryOp .FloorDiv) mDiv := op_fdiv
theorem op_fdivWM : OpR X (binaryOp .FloorDiv) mDivW := op_fdivW
theorem op_modM : OpR X (binaryOp .Mod) mMod := op_mod
theorem op_powM : OpR X (binaryOp .Pow) mPow := op_pow
theorem op_shl1M : OpR X (binaryOp .LShift) mShl1 := fun pins s σ H x y v u Q I rx ry ⟨j, e1, e2, hj, q⟩ => op_shl pins s σ H x y v u Q I rx ry ⟨1, j, e1, e2, ⟨hj.1, hj.2, by decide⟩, by
  show Q (.int (1 * 2 ^ j.toNat)) H
  rw [Int.one_mul]
  exact q⟩
theorem op_shlM : OpR X (binaryOp .LShift) mShl := op_shlW
theorem op_shrM : OpR X (binaryOp .RShift) mShr := op_shr
theorem op_bandM : OpR X (binaryOp .BitAnd) mAndI := op_and
theorem op_bxorM : OpR X (binaryOp .BitXor) mXorI := op_xor
theorem op_ltM : OpR X (compareOp .Lt) mLt := op_lt
theorem op_leM : OpR X (compareOp .LtE) mLe := op_le
theorem op_gtM : OpR X (compareOp .Gt) mGt := op_gt
theorem op_geM : OpR X (compareOp .GtE) mGe := op_ge
end

theorem two_pos (k : Nat) : (0 : Int) < 2 ^ k := Int.pow_pos (by decide)

@[irreducible] def mIsi (K : PySem.W.Frag) : List V → Hp → VK → Prop := rIsi K
theorem call_isiM {X : Cx} : CallR X (.builtin "isinstance") (mIsi X.K) := fun pins s σ H xs us Q I r q => call_isi pins s σ H xs us Q I r (by
  unfold mIsi at q
  exact q)
section
variable {K : PySem.W.Frag} {H : Hp} {Q : VK}
theorem rd_isiIB {i : Int} (h : Q (.bl false) H) : mIsi K [.int i, .ty "bool"] H Q := by
  unfold mIsi
  exact ⟨_, _, _, _, false, rfl, ClsV.ty _, TyX.base (TyOf.int _), by rfl, h⟩
theorem rd_isiBB {b : Bool} (h : Q (.bl true) H) : mIsi K [.bl b, .ty "bool"] H Q := by
  unfold mIsi
  exact ⟨_, _, _, _, true, rfl, ClsV.ty _, TyX.base (TyOf.bl _), by rfl, h⟩
theorem rd_isiTT {a : Addr} {xs : List V} (e : H a = some (.tup xs)) (h : Q (.bl true) H) : mIsi K [.ref a, .ty "tuple"] H Q := by
  unfold mIsi
  exact ⟨_, _, _, _, true, rfl, ClsV.ty _, TyX.base (TyOf.tup e), by rfl, h⟩
theorem rd_isiLL {a : Addr} {xs : List V} (e : H a = some (.lst xs)) (h : Q (.bl true) H) : mIsi K [.ref a, .ty "list"] H Q := by
  unfold mIsi
  exact ⟨_, _, _, _, true, rfl, ClsV.ty _, TyX.base (TyOf.lst e), by rfl, h⟩
end

/-! ### equal data -/
def Sh (n : Nat) (d : PyData) : Prop := d.canLay0 = true ∧ d.depth ≤ n
def ShA (n : Nat) (ds : List PyData) : Prop := PyData.canLayAll0 ds = true ∧ PyData.depthAll ds ≤ n
theorem sh_int {i : Int} {n : Nat} : Sh n (.int i) := ⟨rfl, Nat.zero_le _⟩
theorem sh_bl {i : Bool} {n : Nat} : Sh n (.bool i) := ⟨rfl, Nat.zero_le _⟩
theorem sh_non {n : Nat} : Sh n .none := ⟨rfl, Nat.zero_le _⟩
theorem sh_str {x : Str} {n : Nat} (h : PyData.canLay0 (.str x) = true) : Sh n (.str x) := ⟨h, Nat.zero_le _⟩
theorem sh_nil {n : Nat} : ShA n [] := ⟨rfl, Nat.zero_le _⟩
theorem sh_cons {n : Nat} {d : PyData} {ds : List PyData} (h : Sh n d) (k : ShA n ds) : ShA n (d :: ds) := by
  refine ⟨?_, ?_⟩
  · show (d.canLay0 && PyData.canLayAll0 ds) = true
    rw [h.1, k.1]
    rfl
  · show max d.depth (PyData.depthAll ds) ≤ n
    have := h.2
    have := k.2
    omega
theorem sh_lst {n : Nat} {ds : List PyData} (h : ShA n ds) : Sh (n + 1) (.list ds) := ⟨h.1, Nat.succ_le_succ h.2⟩
theorem sh_tup {n : Nat} {ds : List PyData} (h : ShA n ds) : Sh (n + 1) (.tuple ds) := ⟨h.1, Nat.succ_le_succ h.2⟩
theorem sh_map {α : Type} {n : Nat} {f : α → PyData} (h : ∀ x, Sh n (f x)) : ∀ l : List α, ShA n (l.map f)
  | [] => sh_nil
  | x :: r => sh_cons (h x) (sh_map h r)
theorem sh_app {n : Nat} : ∀ {ds es : List PyData}, ShA n ds → ShA n es → ShA n (ds ++ es)
  | [], _, _, k => k
  | d :: r, es, h, k => by
    have h1 : (d.canLay0 && PyData.canLayAll0 r) = true := h.1
    have h2 : max d.depth (PyData.depthAll r) ≤ n := h.2
    rw [Bool.and_eq_true] at h1
    exact sh_cons ⟨h1.1, by omega⟩ (sh_app ⟨h1.2, by omega⟩ k)
theorem Sh.shaped {n : Nat} {d : PyData} (h : Sh n d) (hn : n ≤ 64 := by decide) : SeqAt.shaped d = true := by
  unfold SeqAt.shaped
  rw [h.1, decide_eq_true (Nat.le_trans h.2 hn)]
  rfl
theorem sh_ints {n : Nat} (l : List Int) : ShA n (l.map PyData.int) := sh_map (fun _ => sh_int) l
section
variable {K : PySem.W.Frag} {H : Hp} {Q : VK} {x y : V}
theorem dpa_ints : ∀ l : List Int, DpAll K H (l.map V.int) (l.map PyData.int)
  | [] => .nil
  | i :: r => .cons (.int i) (dpa_ints r)
theorem dp_ints {a : Addr} {l : List Int} (h : SqL K H a (l.map V.int)) : Dp K H (.ref a) (.list (l.map PyData.int)) := .lst h (dpa_ints l)
@[irreducible] def mEqD (K : PySem.W.Frag) : R2 := rEqD K
@[irreducible] def mNeD (K : PySem.W.Frag) : R2 := rNeD K
theorem rd_eqS {n : Nat} (d : PyData) (h1 : Dp K H x d) (h2 : Dp K H y d) (hs : Sh n d) (h : Q (.bl true) H) (hn : n ≤ 64 := by decide) : mEqD K x y H Q := by
  unfold mEqD
  exact ⟨d, d, h1, h2, hs.shaped hn, hs.shaped hn, by rw [PySem.SeqAt.eqv_refl d hs.1]; exact h⟩
theorem rd_neS {n : Nat} (d : PyData) (h1 : Dp K H x d) (h2 : Dp K H y d) (hs : Sh n d) (h : Q (.bl false) H) (hn : n ≤ 64 := by decide) : mNeD K x y H Q := by
  unfold mNeD
  exact ⟨d, d, h1, h2, hs.shaped hn, hs.shaped hn, by rw [PySem.SeqAt.eqv_refl d hs.1]; exact h⟩
/-- of any two: the answer is that of the data -/
theorem rd_eqA {n m : Nat} (d e : PyData) (h1 : Dp K H x d) (h2 : Dp K H y e) (hs : Sh n d) (hs2 : Sh m e) (h : Q (.bl (PyData.eqv d e)) H) (hn : n ≤ 64 := by decide) (hm : m ≤ 64 := by decide) : mEqD K x y H Q := by
  unfold mEqD
  exact ⟨d, e, h1, h2, hs.shaped hn, hs2.shaped hm, h⟩
theorem rd_neA {n m : Nat} (d e : PyData) (h1 : Dp K H x d) (h2 : Dp K H y e) (hs : Sh n d) (hs2 : Sh m e) (h : Q (.bl (!PyData.eqv d e)) H) (hn : n ≤ 64 := by decide) (hm : m ≤ 64 := by decide) : mNeD K x y H Q := by
  unfold mNeD
  exact ⟨d, e, h1, h2, hs.shaped hn, hs2.shaped hm, h⟩
end
section
variable {X : Cx}
theorem op_eqDM (hu : X.A.units + 64 < cLine) : OpR X (compareOp .Eq) (mEqD X.K) := fun pins s σ H x y v u Q I rx ry q => op_eqD hu pins s σ H x y v u Q I rx ry (by
  unfold mEqD at q
  exact q)
theorem op_neDM (hu : X.A.units + 64 < cLine) : OpR X (compareOp .NotEq) (mNeD X.K) := fun pins s σ H x y v u Q I rx ry q => op_neD hu pins s σ H x y v u Q I rx ry (by
  unfold mNeD at q
  exact q)
end
/-! ### one-step readings that know their heap -/
@[irreducible] def mIxL (K : PySem.W.Frag) : R2 := rIxL K
theorem ix_listM {X : Cx} : IxR X (mIxL X.K) := fun value slice pins s σ H x y v u Q I rx ry q e => ix_list value slice pins s σ H x y v u Q I rx ry (by
  unfold mIxL at q
  exact q) e
@[irreducible] def mIxT (K : PySem.W.Frag) : R2 := rIxT K
theorem ix_tupM {X : Cx} : IxR X (mIxT X.K) := fun value slice pins s σ H x y v u Q I rx ry q e => ix_tup value slice pins s σ H x y v u Q I rx ry (by
  unfold mIxT at q
  exact q) e
section
variable {K : PySem.W.Frag} {H : Hp} {Q : VK} {a : Addr} {xs : List V} {k : Int} {v : V}
theorem rd_ixL (h : SqL K H a xs) (ha : atI xs k = some v) (q : Q v H) : mIxL K (.ref a) (.int k) H Q := by
  unfold mIxL
  exact ⟨a, xs, k, v, rfl, rfl, h, ha, q⟩
theorem rd_ixT (h : SqT K H a xs) (ha : atI xs k = some v) (q : Q v H) : mIxT K (.ref a) (.int k) H Q := by
  unfold mIxT
  exact ⟨a, xs, k, v, rfl, rfl, h, ha, q⟩
theorem rd_ixI {ns : List Int} (h : SqL K H a (ns.map V.int)) (h0 : 0 ≤ k) (h1 : k < (ns.length : Int)) (q : Q (.int (ns.getD k.toNat 0)) H) : mIxL K (.ref a) (.int k) H Q := rd_ixL h (at_int h0 h1) q
end
@[irreducible] def mLen (K : PySem.W.Frag) : List V → Hp → VK → Prop := fun xs H Q => ∃ p ys, xs = [.ref p] ∧ (SqL K H p ys ∨ SqT K H p ys) ∧ Q (.int ys.length) H
theorem call_lenM {X : Cx} : CallR X (.builtin "len") (mLen X.K) := fun pins s σ H xs us Q I r q => call_len_seq pins s σ H xs us Q I r (by
  unfold mLen at q
  exact q)
theorem rd_len {K : PySem.W.Frag} {H : Hp} {Q : VK} {a : Addr} {xs : List V} (h : SqL K H a xs) (q : Q (.int xs.length) H) : mLen K [.ref a] H Q := by
  unfold mLen
  exact ⟨a, xs, rfl, .inl h, q⟩
theorem rd_lenI {K : PySem.W.Frag} {H : Hp} {Q : VK} {a : Addr} {ns : List Int} (h : SqL K H a (ns.map V.int)) (q : Q (.int ns.length) H) : mLen K [.ref a] H Q := rd_len h (by rw [List.length_map]; exact q)
theorem rd_lenT {K : PySem.W.Frag} {H : Hp} {Q : VK} {a : Addr} {xs : List V} (h : SqT K H a xs) (q : Q (.int xs.length) H) : mLen K [.ref a] H Q := by
  unfold mLen
  exact ⟨a, xs, rfl, .inr h, q⟩
/-- xs.append(e) -/
@[irreducible] def mApp (x y : V) (H : Hp) (Q : VK) : Prop := ∃ l xs, x = .ref l ∧ H l = some (.lst xs) ∧ xs.length < 1000000 ∧ Q .non (upd H l (.lst (xs ++ [y])))
def mAppE (to te : TE) : TE := fun σ H Q => to σ H fun x H1 => ∃ l xs, x = .ref l ∧ H1 l = some (.lst xs) ∧ te σ H1 fun y H2 => mApp x y H2 Q
theorem rd_app {l : Addr} {xs : List V} {y : V} {H : Hp} {Q : VK} (h : H l = some (.lst xs)) (hz : xs.length < 1000000) (q : Q .non (upd H l (.lst (xs ++ [y])))) : mApp (.ref l) y H Q := by
  unfold mApp
  exact ⟨l, xs, rfl, h, hz, q⟩
theorem pe_app {X : Cx} {o e : Expr} {to te : TE} {apos cpos : Pos} (ho : PE X o to) (he : PE X e te) (hbase : attributeBase o "append" X.env (eval o X.env) = eval o X.env := by rfl)
    (hfew : ((backTo cpos (starEach [e] X.env)).all (fun x => !x.1) && (backToKw cpos (keywordEach [] X.env)).all (fun x => x.1.isSome)
      && decide ([e].length + ([] : List Keyword).length + (if ([] : List Keyword).isEmpty then 0 else 1) < 30)) = true := by rfl)
    (hline : (apos.endLine == cpos.line) = true := by rfl) (hs : starEach [e] X.env = (false, eval e X.env) :: starEach [] X.env := by rfl) (hplain : (backTo cpos (starEach [] X.env)).any (·.1) = false := by rfl) :
    PE X (.Call (.Attribute o "append" apos) [e] [] cpos) (mAppE to te) :=
  pe_weak (pe_bm PySem.F.plainAttrs_list PySem.F.slot_list_append PySem.F.type_list_append mt_append (pe_c ho) (pa_cons (pe_c he) pa_nil hs) hbase hfew hline hs hplain) fun σ H Q q => by
    refine ⟨_, q, fun x H1 r => ?_⟩
    obtain ⟨l, xs, rfl, h, r⟩ := r
    refine ⟨Or.inl ⟨rfl, _, SqL.of h⟩, _, r, fun y H2 r2 => ?_⟩
    unfold mApp at r2
    obtain ⟨l2, ys, e2, h2, hz, q2⟩ := r2
    exact ⟨l2, ys, y, e2, rfl, h2, szl hz, q2⟩
/-- o[i] = e, o a list -/
@[irreducible] def mSetL : V → V → V → Hp → (Hp → Prop) → Prop := rSetL
theorem set_listM {X : Cx} : PSet X mSetL := fun pins s σ H o i v uo ui uv Q I ro ri rv q => set_list pins s σ H o i v uo ui uv Q I ro ri rv (by
  unfold mSetL at q
  exact q)
theorem rd_setL {l : Addr} {xs : List V} {k : Int} {y : V} {H : Hp} {Q : Hp → Prop} (h : H l = some (.lst xs)) (h0 : 0 ≤ k) (h1 : k < (xs.length : Int)) (q : Q (upd H l (.lst (xs.set k.toNat y)))) : mSetL (.ref l) (.int k) y H Q := by
  unfold mSetL
  refine ⟨l, xs, k, k.toNat, rfl, rfl, h, ?_, q⟩
  unfold ixN
  first
    | (rw [if_pos h0, if_pos (by omega)]; done)
    | (rw [if_neg (by omega), if_pos (by omega)]; done)
    | simp [show ¬ k < 0 by omega, h0, h1]
/-- what a loop keeps of its own list: all else as it was -/
def But (p : Addr) (H H' : Hp) : Prop := ∀ b o, b ≠ p → H b = some o → H' b = some o

@[irreducible] def mSum (K : PySem.W.Frag) : List V → Hp → VK → Prop := rSum K
theorem call_sumM {X : Cx} (hc : X.calm = true) : CallR X (.builtin "sum") (mSum X.K) := fun pins s σ H xs us Q I r q => cr_sum hc pins s σ H xs us Q I r (by
  unfold mSum at q
  exact q)
theorem rd_sum {K : PySem.W.Frag} {H : Hp} {Q : VK} {a : Addr} {ns : List Int} (h : SqL K H a (ns.map V.int)) (q : Q (.int ns.sum) H) : mSum K [.ref a] H Q := by
  unfold mSum
  exact ⟨a, ns, rfl, h, q⟩

/-- isinstance(e, C), e the error that the suite holds, whatever its class -/
def mIsE (K : PySem.W.Frag) (cls : Value) (d : Option Addr) (a : Addr) : List V → Hp → VK → Prop := fun xs H Q => ∃ (D C : Addr) (b : Bool), xs = [.ref a, .ref C] ∧ cls = .ref D ∧ d = none ∧ ExcC K D ∧ PySem.W.kitOne K (.ref D) (.ref C) = some b ∧ Q (.bl b) H
theorem call_isEM {X : Cx} {a : Addr} {oe : Obj} {cls : Value} {d : Option Addr} {pn : List (Addr × Obj)} (hz : Zc cls d oe) (hf : ∃ vs, oe.data = .fields vs) : CallR (X.suite a ((a, oe) :: pn)) (.builtin "isinstance") (mIsE X.K cls d a) := by
  intro pins s σ H xs us Q I r h
  obtain ⟨D, C, b, rfl, rfl, rfl, hD, hk, q⟩ := h
  exact call_isE hD hz hf pins s σ H [.ref a, .ref C] us Q I r ⟨.ref C, .ref C, b, rfl, fun u hu => hu, hk, q⟩
theorem kit_same {K : PySem.W.Frag} {D : Addr} : PySem.W.kitOne K (.ref D) (.ref D) = some true := by
  unfold PySem.W.kitOne
  rw [if_pos (by simp)]

/-! ### constants, extend, repetition, min of three -/
theorem pe_gint {X : Cx} {x : Str} {n : Int} {pos : Pos} (hg : Gl X x) (hm : ∃ t, X.mg x = some (.int n t)) (hd : (x == ("__debug__" : Str)) = false := by decide) : PE X (.Name x pos) (tC (.int n)) := by
  obtain ⟨t, hm⟩ := hm
  exact pe_glob hg hm ⟨t, rfl⟩ hd
@[irreducible] def mExt (x y : V) (H : Hp) (Q : VK) : Prop := ∃ l b xs zs, x = .ref l ∧ y = .ref b ∧ H l = some (.lst xs) ∧ H b = some (.lst zs) ∧ xs.length + zs.length ≤ 1000000 ∧ Q .non (upd H l (.lst (xs ++ zs)))
def mExtE (to te : TE) : TE := fun σ H Q => to σ H fun x H1 => ∃ l xs, x = .ref l ∧ H1 l = some (.lst xs) ∧ te σ H1 fun y H2 => mExt x y H2 Q
theorem rd_ext {l b : Addr} {xs zs : List V} {H : Hp} {Q : VK} (h : H l = some (.lst xs)) (hb : H b = some (.lst zs)) (hz : xs.length + zs.length ≤ 1000000) (q : Q .non (upd H l (.lst (xs ++ zs)))) : mExt (.ref l) (.ref b) H Q := by
  unfold mExt
  exact ⟨l, b, xs, zs, rfl, rfl, h, hb, hz, q⟩
theorem pe_ext {X : Cx} {o e : Expr} {to te : TE} {apos cpos : Pos} (ho : PE X o to) (he : PE X e te) (hbase : attributeBase o "extend" X.env (eval o X.env) = eval o X.env := by rfl)
    (hfew : ((backTo cpos (starEach [e] X.env)).all (fun x => !x.1) && (backToKw cpos (keywordEach [] X.env)).all (fun x => x.1.isSome)
      && decide ([e].length + ([] : List Keyword).length + (if ([] : List Keyword).isEmpty then 0 else 1) < 30)) = true := by rfl)
    (hline : (apos.endLine == cpos.line) = true := by rfl) (hs : starEach [e] X.env = (false, eval e X.env) :: starEach [] X.env := by rfl) (hplain : (backTo cpos (starEach [] X.env)).any (·.1) = false := by rfl) :
    PE X (.Call (.Attribute o "extend" apos) [e] [] cpos) (mExtE to te) :=
  pe_weak (pe_bm PySem.F.plainAttrs_list PySem.F.slot_list_extend PySem.F.type_list_extend mt_extend (pe_c ho) (pa_cons (pe_c he) pa_nil hs) hbase hfew hline hs hplain) fun σ H Q q => by
    refine ⟨_, q, fun x H1 r => ?_⟩
    obtain ⟨l, xs, rfl, h, r⟩ := r
    refine ⟨Or.inl ⟨rfl, _, SqL.of h⟩, _, r, fun y H2 r2 => ?_⟩
    unfold mExt at r2
    obtain ⟨l2, b2, ys, zs, e2, rfl, h2, h3, hz, q2⟩ := r2
    exact ⟨l2, b2, ys, zs, e2, rfl, h2, h3, sz hz, q2⟩
theorem op_repM {X : Cx} : OpR X (binaryOp .Mult) mRep := fun pins s σ H x y v u Q I rx ry q => op_rep pins s σ H x y v u Q I rx ry (by
  unfold mRep at q
  obtain ⟨l, k, xs, e1, e2, h1, h0, hk, hz, h⟩ := q
  have big : (2 : Int) ^ 63 = 9223372036854775808 := by decide
  exact ⟨l, k, xs, e1, e2, h1, by omega, by omega, sz hz, h.go⟩)
theorem rd_rep {l : Addr} {k : Int} {xs : List V} {H : Hp} {Q : VK} (h1 : H l = some (.lst xs)) (h0 : 0 ≤ k) (hk : k ≤ 100000) (hz : xs.length * k.toNat ≤ 1000000) (h : NewO (.lst (List.replicate k.toNat xs).flatten) H Q) : mRep (.ref l) (.int k) H Q := by
  unfold mRep
  exact ⟨l, k, xs, rfl, rfl, h1, h0, hk, hz, h⟩
def mMin3 : List V → Hp → VK → Prop := fun vs H Q => ∃ i j k, vs = [.int i, .int j, .int k] ∧ Q (.int (min (min i j) k)) H
theorem call_min3M {X : Cx} (hc : X.calm = true) : CallR X (.builtin "min") mMin3 := fun pins s σ H xs us Q I r ⟨i, j, k, e, q⟩ => call_min3Nu hc pins s σ H xs us Q I r ⟨_, _, _, _, e, by
  show (Option.map (fun c => if c = true then V.int j else V.int i) (some (decide (j < i)))).bind _ = _
  by_cases h : j < i
  · rw [decide_eq_true h]
    show Option.map (fun c => if c = true then V.int k else V.int j) (some (decide (k < j))) = some (.int (min (min i j) k))
    by_cases h2 : k < j
    · rw [decide_eq_true h2]
      show some (V.int k) = _
      congr 2
      omega
    · rw [decide_eq_false h2]
      show some (V.int j) = _
      congr 2
      omega
  · rw [decide_eq_false h]
    show Option.map (fun c => if c = true then V.int k else V.int i) (some (decide (k < i))) = some (.int (min (min i j) k))
    by_cases h2 : k < i
    · rw [decide_eq_true h2]
      show some (V.int k) = _
      congr 2
      omega
    · rw [decide_eq_false h2]
      show some (V.int i) = _
      congr 2
      omega, q⟩
/-! ### comprehensions whose elements are new tuples -/
def EltT (te : TE) (σ : L2.St) (H : Hp) (xs : List V) : Prop := ∀ H', Same H H' → te σ H' fun v H'' => Same H' H'' ∧ ∃ p, v = .ref p ∧ H'' p = some (.tup xs)
def NewTs (n : Nat) (f : Nat → List V) (H : Hp) (Q : VK) : Prop := ∀ (D : Addr) (H' : Hp) (ps : List Addr), H D = none → Same H H' → H' D = some (.lst (ps.map V.ref)) → ps.length = n → (∀ i p, ps[i]? = some p → H' p = some (.tup (f i))) → Q (.ref D) H'
@[irreducible] def mLcTR3 (ta : TA) (j : Nat) (te : TE) (vs : List Nat) : TE := fun σ H Q => ta σ H fun ws H1 => ∃ (lo hi c : Int) (n : Nat) (f : Nat → List V), ws = [.int lo, .int hi, .int c] ∧ RgC lo hi c n ∧ n ≤ 1000 ∧ (∀ i, i < n → EltT te ((wipe σ vs).set j (some (.int (lo + (i : Nat) * c)))) H1 (f i)) ∧ NewTs n f H1 Q
theorem rd_lcTR3 {ta : TA} {j : Nat} {te : TE} {vs : List Nat} {σ : L2.St} {H : Hp} {Q : VK} (h : ta σ H fun ws H1 => ∃ (lo hi c : Int) (n : Nat) (f : Nat → List V), ws = [.int lo, .int hi, .int c] ∧ RgC lo hi c n ∧ n ≤ 1000 ∧ (∀ i, i < n → EltT te ((wipe σ vs).set j (some (.int (lo + (i : Nat) * c)))) H1 (f i)) ∧ NewTs n f H1 Q) : mLcTR3 ta j te vs σ H Q := by
  unfold mLcTR3
  exact h
@[irreducible] def mLcTL (K : PySem.W.Frag) (tl : TE) (j : Nat) (te : TE) (vs : List Nat) : TE := fun σ H Q => tl σ H fun x H1 => ∃ (a : Addr) (xs : List V) (f : Nat → List V), x = .ref a ∧ SqL K H1 a xs ∧ xs.length ≤ 1000 ∧ (∀ i y, xs[i]? = some y → EltT te ((wipe σ vs).set j (some y)) H1 (f i)) ∧ NewTs xs.length f H1 Q
theorem rd_lcTL {K : PySem.W.Frag} {tl : TE} {j : Nat} {te : TE} {vs : List Nat} {σ : L2.St} {H : Hp} {Q : VK} (h : tl σ H fun x H1 => ∃ (a : Addr) (xs : List V) (f : Nat → List V), x = .ref a ∧ SqL K H1 a xs ∧ xs.length ≤ 1000 ∧ (∀ i y, xs[i]? = some y → EltT te ((wipe σ vs).set j (some y)) H1 (f i)) ∧ NewTs xs.length f H1 Q) : mLcTL K tl j te vs σ H Q := by
  unfold mLcTL
  exact h
def TsW (H1 : Hp) (D : Addr) (f : Nat → List V) (i : Nat) (H' : Hp) : Prop := Same H1 H' ∧ ∃ ps : List Addr, H' D = some (.lst (ps.map V.ref)) ∧ ps.length = i ∧ ∀ k p, ps[k]? = some p → H' p = some (.tup (f k))
theorem TsW.next {H1 H' H'' : Hp} {D p : Addr} {f : Nat → List V} {i : Nat} (hD : H1 D = none) (w : TsW H1 D f i H') (s : Same H' H'') (hp : H'' p = some (.tup (f i))) : ∃ acc, H'' D = some (.lst acc) ∧ acc.length = i ∧ TsW H1 D f (i + 1) (upd H'' D (.lst (acc ++ [.ref p]))) := by
  obtain ⟨sm, ps, hd, hl, ht⟩ := w
  have hd2 := s _ _ hd
  have ne : ∀ {q : Addr} {xs : List V}, H'' q = some (.tup xs) → q ≠ D := fun {q xs} h e => by
    rw [e, hd2] at h
    cases h
  refine ⟨_, hd2, by rw [List.length_map, hl], same_mut (sm.trans s) hD, ps ++ [p], ?_, by rw [List.length_append, List.length_singleton, hl], fun k q hk => ?_⟩
  · rw [upd_same, List.map_append]
    rfl
  · by_cases h : k < ps.length
    · rw [List.getElem?_append_left h] at hk
      have := s _ _ (ht k q hk)
      rw [upd_ne (ne this)]
      exact this
    · rw [List.getElem?_append_right (by omega)] at hk
      have h0 : k - ps.length = 0 := by
        cases e : k - ps.length with
        | zero => rfl
        | succ m => rw [e] at hk; simp at hk
      rw [h0] at hk
      have e : p = q := Option.some.inj hk
      have ek : k = i := by omega
      subst e
      rw [ek, upd_ne (ne hp)]
      exact hp
section
variable {X : Cx} {te : TE} {ta : TA} {pos : Pos}
theorem lcTR3_of {ta : TA} {j : Nat} {te : TE} {vs : List Nat} {σ : L2.St} {H : Hp} {Q : VK} (hj : vs = [j]) (q : mLcTR3 ta j te vs σ H Q) : tLc (iRng3 (cTA ta)) (gName j) tYes (cTE te) vs σ H Q := by
  unfold mLcTR3 at q
  refine ⟨_, q, fun ws H1 r => ?_⟩
  obtain ⟨lo, hi, c, n, f, rfl, hr, hn, he, hq⟩ := r
  refine ⟨lo, hi, c, n, rfl, hr, fun D hD => ?_⟩
  refine ⟨fun i m H' => m = n - i ∧ i ≤ n ∧ TsW H1 D f i H', ⟨n, rfl, Nat.zero_le _, same_upd hD, [], upd_same, rfl, fun k p h => by cases h⟩, ?_⟩
  rintro i m H' ⟨rfl, hi, w⟩
  by_cases hlt : i < n
  · refine .inr ⟨hlt, TsW H1 D f (i + 1), fun H2 w2 => ⟨n - (i + 1), by omega, rfl, hlt, w2⟩, fun x H2 y => ?_⟩
    obtain ⟨e, y⟩ := y
    subst e
    subst y
    refine ⟨wipe_set hj, _, he i hlt _ w.1, fun v H'' r => ?_⟩
    obtain ⟨s, p, rfl, hp⟩ := r
    obtain ⟨acc, h1, h2, h3⟩ := w.next hD s hp
    exact ⟨acc, h1, szl (by omega), h3⟩
  · have e : i = n := by omega
    subst e
    obtain ⟨sm, ps, hd, hl, ht⟩ := w
    exact .inl ⟨Nat.le_refl _, hq D H' ps hD sm hd hl ht⟩
theorem lcTL_of {K : PySem.W.Frag} {tl : TE} {j : Nat} {te : TE} {vs : List Nat} {σ : L2.St} {H : Hp} {Q : VK} (hj : vs = [j]) (q : mLcTL K tl j te vs σ H Q) : tLc (iList K (cTE tl)) (gName j) tYes (cTE te) vs σ H Q := by
  unfold mLcTL at q
  refine ⟨_, q, fun x H1 r => ?_⟩
  obtain ⟨a, xs, f, rfl, hx, hn, he, hq⟩ := r
  refine ⟨a, rfl, ⟨xs, hx⟩, fun D hD => ?_⟩
  refine lc_list (xs := xs) (fun i H' => TsW H1 D f i H') ⟨same_upd hD, [], upd_same, rfl, fun k p h => by cases h⟩ (fun i H' _ w => w.1.seq hx) (fun i y H' hi w => ⟨wipe_set hj, _, he i y hi H' w.1, fun v H'' r => ?_⟩) fun H' w => ?_
  · obtain ⟨s, p, rfl, hp⟩ := r
    obtain ⟨acc, h1, h2, h3⟩ := w.next hD s hp
    have hl : i < xs.length := (List.getElem?_eq_some_iff.mp hi).1
    exact ⟨acc, h1, szl (by omega), h3⟩
  · obtain ⟨sm, ps, hd, hl, ht⟩ := w
    exact hq D H' ps hD sm hd hl ht
theorem pe_lcTL {elt it : Expr} {scope : Scope} {j : Nat} {x : Str} {xpos : Pos} (hc : X.calm = true) (hN : X.N.Nodup) {tl : TE} (ha : PE X it tl) (ok : BlkOk X.N X.env.scope scope [(x, j)])
    (hgt : ∀ (s : Shared) (H : Hp) (C : Addr) (cl : List (Str × Addr)) (fp : List Addr), PG (X.blk s H scope (compEnvC scope cl C X.env) fp) (.Name x xpos) (gName j))
    (he : ∀ (s : Shared) (H : Hp) (C : Addr) (cl : List (Str × Addr)) (fp : List Addr), PE (X.blk s H scope (compEnvC scope cl C X.env) fp) elt te) (hs2 : ∀ y, foldedSetIterable it X.env y = pure y := by intro _; rfl) :
    PE X (.ListComp elt [⟨.Name x xpos, it, [], 0⟩] scope pos) (mLcTL X.K tl j te [j]) :=
  pe_weak (pe_lc hc hN (pi_list (pe_c ha)) ok hgt (fun _ _ _ _ _ => pts_nil) (fun s H C cl fp => pe_c (he s H C cl fp)) hs2) fun _ _ _ q => lcTL_of rfl q
theorem ps_setLcTL {i : Nat} {y : Str} {py spos : Pos} {elt it : Expr} {scope : Scope} {j : Nat} {x : Str} {xpos : Pos} {tl : TE} (hc : X.calm = true) (hN : X.N.Nodup) (hy : X.N[i]? = some y) (hyl : X.env.scope.names.lookup y = some .local)
    (hsw : swapsWith (.ListComp elt [⟨.Name x xpos, it, [], 0⟩] scope pos) (some (.Name y py)) spos.line X.env = pure true) (ha : PE X it tl) (ok : BlkOk X.N X.env.scope scope [(x, j)])
    (hgt : ∀ (s : Shared) (H : Hp) (C : Addr) (cl : List (Str × Addr)) (fp : List Addr), PG (X.blk s H scope (compEnvC scope cl C X.env) fp) (.Name x xpos) (gName j))
    (he : ∀ (s : Shared) (H : Hp) (C : Addr) (cl : List (Str × Addr)) (fp : List Addr), PE (X.blk s H scope (compEnvC scope cl C X.env) fp) elt te) (hs2 : ∀ y, foldedSetIterable it X.env y = pure y := by intro _; rfl) :
    PS X (.Assign [.Name y py] (.ListComp elt [⟨.Name x xpos, it, [], 0⟩] scope pos) spos) (tAsg (mLcTL X.K tl j te [j]) (gName i)) :=
  ps_weak (ps_setLc hc hN hy hyl hsw (pi_list (pe_c ha)) ok hgt (fun _ _ _ _ _ => pts_nil) (fun s H C cl fp => pe_c (he s H C cl fp)) hs2) fun _ _ _ q => lcTL_of rfl q
theorem ps_setLcTR3 {i : Nat} {y : Str} {py spos : Pos} {elt : Expr} {scope : Scope} {j : Nat} {x : Str} {a b c : Expr} {p p2 xpos : Pos} (hc : X.calm = true) (hN : X.N.Nodup) (hy : X.N[i]? = some y) (hyl : X.env.scope.names.lookup y = some .local)
    (hsw : swapsWith (.ListComp elt [⟨.Name x xpos, .Call (.Name "range" p) [a, b, c] [] p2, [], 0⟩] scope pos) (some (.Name y py)) spos.line X.env = pure true) (hg : Gl X "range") (hm : X.mg "range" = none) (ha : PA X [a, b, c] ta) (ok : BlkOk X.N X.env.scope scope [(x, j)])
    (hgt : ∀ (s : Shared) (H : Hp) (C : Addr) (cl : List (Str × Addr)) (fp : List Addr), PG (X.blk s H scope (compEnvC scope cl C X.env) fp) (.Name x xpos) (gName j))
    (he : ∀ (s : Shared) (H : Hp) (C : Addr) (cl : List (Str × Addr)) (fp : List Addr), PE (X.blk s H scope (compEnvC scope cl C X.env) fp) elt te)
    (hs : starEach [a, b, c] X.env = (false, eval a X.env) :: starEach [b, c] X.env := by rfl) (hpl : (backTo p2 (starEach [b, c] X.env)).any (·.1) = false := by rfl) (hs2 : ∀ y, foldedSetIterable (.Call (.Name "range" p) [a, b, c] [] p2) X.env y = pure y := by intro _; rfl) :
    PS X (.Assign [.Name y py] (.ListComp elt [⟨.Name x xpos, .Call (.Name "range" p) [a, b, c] [] p2, [], 0⟩] scope pos) spos) (tAsg (mLcTR3 ta j te [j]) (gName i)) :=
  ps_weak (ps_setLc hc hN hy hyl hsw (pi_range3 hg hm (pa_c ha) hs hpl) ok hgt (fun _ _ _ _ _ => pts_nil) (fun s H C cl fp => pe_c (he s H C cl fp)) hs2) fun _ _ _ q => lcTR3_of rfl q
end

/-! ### the same rules within a comprehension: the written part by its own name -/
section
variable {X : Cx} {K : PySem.W.Frag}
theorem ix_listK (h : X.K = K) : IxR X (mIxL K) := h ▸ ix_listM
theorem ix_tupK (h : X.K = K) : IxR X (mIxT K) := h ▸ ix_tupM
theorem call_lenK (h : X.K = K) : CallR X (.builtin "len") (mLen K) := h ▸ call_lenM
end

theorem br_nonI {x : Int} {A B : Prop} (h : B) : Br (decide (V.int x = V.non)) A B := br_f (fun e => by cases e) h
theorem br_nonR {x : Addr} {A B : Prop} (h : B) : Br (decide (V.ref x = V.non)) A B := br_f (fun e => by cases e) h
theorem br_nonN {A B : Prop} (h : A) : Br (decide (V.non = V.non)) A B := br_t rfl h
theorem dec_nonI {x : Int} : decide (V.int x = V.non) = false := decide_eq_false fun e => by cases e
theorem dec_nonR {x : Addr} : decide (V.ref x = V.non) = false := decide_eq_false fun e => by cases e

/-! ### if t: x = e, told once by what x holds behind it -/
@[irreducible] def IfSet (b : Bool) (te : TE) (i : Nat) (D : Ends) (σ : L2.St) (H : Hp) : Prop := ∃ P : V → Hp → Prop, (b = true → te σ H P) ∧ (b = false → ∃ v, σ.set i (some v) = σ ∧ P v H) ∧ ∀ v H', P v H' → D.nx (σ.set i (some v)) H'
theorem rd_ifSet {b : Bool} {te : TE} {i : Nat} {D : Ends} {σ : L2.St} {H : Hp} (P : V → Hp → Prop) (h1 : b = true → te σ H P) (h2 : b = false → ∃ v, σ.set i (some v) = σ ∧ P v H) (k : ∀ v H', P v H' → D.nx (σ.set i (some v)) H') : IfSet b te i D σ H := by
  unfold IfSet
  exact ⟨P, h1, h2, k⟩
def mIfSet (tt : TT) (te : TE) (i : Nat) : TS := fun D σ H => tt σ H fun b H1 => IfSet b te i D σ H1
theorem ps_ifSet {X : Cx} {i : Nat} {x : Str} {c e : Expr} {tt : TT} {te : TE} {pos pos2 pos' : Pos} (hc : PT X c tt) (hN : X.N.Nodup) (hi : X.N[i]? = some x) (hx : Loc X.env.scope x) (he : PE X e te) (hs : swapsWith e (some (.Name x pos')) pos2.line X.env = pure false := by rfl)
    (hf : X.fn x = true ∨ X.env.scope.names.lookup x = some .local := by first | exact .inl rfl | exact .inr rfl | assumption) : PS X (.If c [.Assign [.Name x pos'] e pos2] [] pos) (mIfSet tt te i) :=
  ps_weak (ps_if (pt_c hc) (pss_one (ps_set (i := i) hN hi hx (pe_c he) hs hf)) pss_nil) fun D σ H q => ⟨_, q, fun b H1 r => by
    unfold IfSet at r
    obtain ⟨P, h1, h2, k⟩ := r
    cases b with
    | true => exact iteT ⟨P, h1 rfl, fun v H' p => k v H' p⟩
    | false =>
      obtain ⟨v, e, p⟩ := h2 rfl
      refine iteF ?_
      have := k v H1 p
      rw [e] at this
      exact this⟩
end My

namespace My
open PySem L2
/-! ### the text by places -/
def topS (i : Nat) : Stmt := PySem.Challenge.pw_bearerwise_k03_cutting.main.body.getD i (.Pass ⟨0, 0, 0, 0⟩)
abbrev S_BearerError___init : Stmt := inClass (topS 1) 0
abbrev S_field_bytes : Stmt := topS 4
abbrev S_pack : Stmt := topS 5
abbrev S_unpack : Stmt := topS 6
abbrev S_short : Stmt := topS 8
abbrev S_u_has_offset : Stmt := topS 16
abbrev S_u_data_widths : Stmt := topS 17
abbrev S_u_status_head : Stmt := topS 18
abbrev S_u_range_widths : Stmt := topS 19
abbrev S_data_piece : Stmt := topS 20
abbrev S_status_bytes : Stmt := topS 21
abbrev S_u_read_data : Stmt := topS 22
abbrev S_u_read_status : Stmt := topS 23
abbrev S_read_piece : Stmt := topS 24
abbrev S_u_part_of : Stmt := topS 25
abbrev S_cut : Stmt := topS 26
abbrev S_u_law_two : Stmt := topS 28
abbrev S_u_law_tape : Stmt := topS 29
abbrev S_u_law_at : Stmt := topS 30
abbrev S_u_law_part : Stmt := topS 31
abbrev S_u_law_length : Stmt := topS 32
abbrev S_u_law_end : Stmt := topS 33
abbrev S_u_law_right : Stmt := topS 34
abbrev S_law : Stmt := topS 35
theorem sc_BearerError___init : FnScope ["self"] ["self"] (defScope S_BearerError___init) := ⟨rfl, rfl, rfl, by decide +kernel, rfl, by decide +kernel, by decide +kernel⟩
theorem sc_field_bytes : FnScope ["widths", "width"] ["widths"] (defScope S_field_bytes) := ⟨rfl, rfl, rfl, by decide +kernel, rfl, by decide +kernel, by decide +kernel⟩
theorem sc_pack : FnScope ["widths", "values", "size", "row", "width", "value", "at"] ["widths", "values"] (defScope S_pack) := ⟨rfl, rfl, rfl, by decide +kernel, rfl, by decide +kernel, by decide +kernel⟩
theorem sc_unpack : FnScope ["widths", "data", "size", "row", "one", "unread", "values", "width"] ["widths", "data"] (defScope S_unpack) := ⟨rfl, rfl, rfl, by decide +kernel, rfl, by decide +kernel, by decide +kernel⟩
theorem sc_short : FnScope ["number", "bits"] ["number", "bits"] (defScope S_short) := ⟨rfl, rfl, rfl, by decide +kernel, rfl, by decide +kernel, by decide +kernel⟩
theorem sc_u_has_offset : FnScope ["part"] ["part"] (defScope S_u_has_offset) := ⟨rfl, rfl, rfl, by decide +kernel, rfl, by decide +kernel, by decide +kernel⟩
theorem sc_u_data_widths : FnScope ["bits", "part"] ["bits", "part"] (defScope S_u_data_widths) := ⟨rfl, rfl, rfl, by decide +kernel, rfl, by decide +kernel, by decide +kernel⟩
theorem sc_u_status_head : FnScope ["bits"] ["bits"] (defScope S_u_status_head) := ⟨rfl, rfl, rfl, by decide +kernel, rfl, by decide +kernel, by decide +kernel⟩
theorem sc_u_range_widths : FnScope ["bits"] ["bits"] (defScope S_u_range_widths) := ⟨rfl, rfl, rfl, by decide +kernel, rfl, by decide +kernel, by decide +kernel⟩
theorem sc_data_piece : FnScope ["bits", "poll", "number", "part", "offset", "body", "values"] ["bits", "poll", "number", "part", "offset", "body"] (defScope S_data_piece) := ⟨rfl, rfl, rfl, by decide +kernel, rfl, by decide +kernel, by decide +kernel⟩
theorem sc_status_bytes : FnScope ["bits", "count"] ["bits", "count"] (defScope S_status_bytes) := ⟨rfl, rfl, rfl, by decide +kernel, rfl, by decide +kernel, by decide +kernel⟩
theorem sc_u_read_data : FnScope ["bits", "piece", "widths", "_", "poll", "number", "part", "size", "offset"] ["bits", "piece"] (defScope S_u_read_data) := ⟨rfl, rfl, rfl, by decide +kernel, rfl, by decide +kernel, by decide +kernel⟩
theorem sc_u_read_status : FnScope ["bits", "piece", "widths", "_", "upto", "count", "told", "missing", "at"] ["bits", "piece"] (defScope S_u_read_status) := ⟨rfl, rfl, rfl, by decide +kernel, rfl, by decide +kernel, by decide +kernel⟩
theorem sc_read_piece : FnScope ["bits", "piece"] ["bits", "piece"] (defScope S_read_piece) := ⟨rfl, rfl, rfl, by decide +kernel, rfl, by decide +kernel, by decide +kernel⟩
theorem sc_u_part_of : FnScope ["packet", "start", "end"] ["packet", "start", "end"] (defScope S_u_part_of) := ⟨rfl, rfl, rfl, by decide +kernel, rfl, by decide +kernel, by decide +kernel⟩
theorem sc_cut : FnScope ["bits", "poll", "number", "packet", "start", "stop", "room", "head", "end", "part"] ["bits", "poll", "number", "packet", "start", "stop", "room"] (defScope S_cut) := ⟨rfl, rfl, rfl, by decide +kernel, rfl, by decide +kernel, by decide +kernel⟩
theorem sc_u_law_two : FnScope ["many", "value", "k"] ["many"] (defScope S_u_law_two) := ⟨rfl, rfl, rfl, by decide +kernel, rfl, by decide +kernel, by decide +kernel⟩
theorem sc_u_law_tape : FnScope ["script", "tape", "k", "value", "step"] ["script"] (defScope S_u_law_tape) := ⟨rfl, rfl, rfl, by decide +kernel, rfl, by decide +kernel, by decide +kernel⟩
theorem sc_u_law_at : FnScope ["tape", "k"] ["tape", "k"] (defScope S_u_law_at) := ⟨rfl, rfl, rfl, by decide +kernel, rfl, by decide +kernel, by decide +kernel⟩
theorem sc_u_law_part : FnScope ["packet", "start", "end"] ["packet", "start", "end"] (defScope S_u_law_part) := ⟨rfl, rfl, rfl, by decide +kernel, rfl, by decide +kernel, by decide +kernel⟩
theorem sc_u_law_length : FnScope ["bits", "packet", "start", "end"] ["bits", "packet", "start", "end"] (defScope S_u_law_length) := ⟨rfl, rfl, rfl, by decide +kernel, rfl, by decide +kernel, by decide +kernel⟩
theorem sc_u_law_end : FnScope ["bits", "packet", "start", "stop", "room", "best", "end"] ["bits", "packet", "start", "stop", "room"] (defScope S_u_law_end) := ⟨rfl, rfl, rfl, by decide +kernel, rfl, by decide +kernel, by decide +kernel⟩
theorem sc_u_law_right : FnScope ["bits", "poll", "number", "packet", "start", "stop", "room", "told", "due", "parts"] ["bits", "poll", "number", "packet", "start", "stop", "room"] (defScope S_u_law_right) := ⟨rfl, rfl, rfl, by decide +kernel, rfl, by decide +kernel, by decide +kernel⟩
theorem sc_law : FnScope ["script", "tape", "bits", "size", "packet", "kept", "start", "stop", "number", "poll", "room", "body", "at", "turn", "found", "k"] ["script"] (defScope S_law) := ⟨rfl, rfl, rfl, by decide +kernel, rfl, by decide +kernel, by decide +kernel⟩
/-! ### what the top has written -/
structure Tx (P : Program) (w : World) (K : PySem.W.Frag) (mg : Str → Option Value) (base : Heap) where
  n_len : mg "len" = none
  n_range : mg "range" = none
  n_abs : mg "abs" = none
  n_int : mg "int" = none
  n_sum : mg "sum" = none
  n_zip : mg "zip" = none
  n_min : mg "min" = none
  n_max : mg "max" = none
  n_isinstance : mg "isinstance" = none
  n_list : mg "list" = none
  n_tuple : mg "tuple" = none
  g_MOST_MISSING : (∃ t, mg "MOST_MISSING" = some (.int 8 t))
  g_DATA : (∃ t, mg "DATA" = some (.int 0 t))
  g_WHOLE : (∃ t, mg "WHOLE" = some (.int 0 t))
  g_BEGINNING : (∃ t, mg "BEGINNING" = some (.int 1 t))
  g_END : (∃ t, mg "END" = some (.int 2 t))
  g_WITHIN : (∃ t, mg "WITHIN" = some (.int 3 t))
  C_BearerError : Addr
  g_BearerError : mg "BearerError" = some (.ref C_BearerError)
  C_NotValid : Addr
  g_NotValid : mg "NotValid" = some (.ref C_NotValid)
  a_BearerError___init : Addr
  d_BearerError___init : FuncData
  p_BearerError___init : DefAt0 K "__init__" "BearerError.__init__" S_BearerError___init ["self"] a_BearerError___init d_BearerError___init
  a_field_bytes : Addr
  d_field_bytes : FuncData
  p_field_bytes : DefAt K mg "field_bytes" "field_bytes" S_field_bytes ["widths"] a_field_bytes d_field_bytes
  a_pack : Addr
  d_pack : FuncData
  p_pack : DefAt K mg "pack" "pack" S_pack ["widths", "values"] a_pack d_pack
  a_unpack : Addr
  d_unpack : FuncData
  p_unpack : DefAt K mg "unpack" "unpack" S_unpack ["widths", "data"] a_unpack d_unpack
  a_short : Addr
  d_short : FuncData
  p_short : DefAt K mg "short" "short" S_short ["number", "bits"] a_short d_short
  a_u_has_offset : Addr
  d_u_has_offset : FuncData
  p_u_has_offset : DefAt K mg "_has_offset" "_has_offset" S_u_has_offset ["part"] a_u_has_offset d_u_has_offset
  a_u_data_widths : Addr
  d_u_data_widths : FuncData
  p_u_data_widths : DefAt K mg "_data_widths" "_data_widths" S_u_data_widths ["bits", "part"] a_u_data_widths d_u_data_widths
  a_u_status_head : Addr
  d_u_status_head : FuncData
  p_u_status_head : DefAt K mg "_status_head" "_status_head" S_u_status_head ["bits"] a_u_status_head d_u_status_head
  a_u_range_widths : Addr
  d_u_range_widths : FuncData
  p_u_range_widths : DefAt K mg "_range_widths" "_range_widths" S_u_range_widths ["bits"] a_u_range_widths d_u_range_widths
  a_data_piece : Addr
  d_data_piece : FuncData
  p_data_piece : DefAt K mg "data_piece" "data_piece" S_data_piece ["bits", "poll", "number", "part", "offset", "body"] a_data_piece d_data_piece
  a_status_bytes : Addr
  d_status_bytes : FuncData
  p_status_bytes : DefAt K mg "status_bytes" "status_bytes" S_status_bytes ["bits", "count"] a_status_bytes d_status_bytes
  a_u_read_data : Addr
  d_u_read_data : FuncData
  p_u_read_data : DefAt K mg "_read_data" "_read_data" S_u_read_data ["bits", "piece"] a_u_read_data d_u_read_data
  a_u_read_status : Addr
  d_u_read_status : FuncData
  p_u_read_status : DefAt K mg "_read_status" "_read_status" S_u_read_status ["bits", "piece"] a_u_read_status d_u_read_status
  a_read_piece : Addr
  d_read_piece : FuncData
  p_read_piece : DefAt K mg "read_piece" "read_piece" S_read_piece ["bits", "piece"] a_read_piece d_read_piece
  a_u_part_of : Addr
  d_u_part_of : FuncData
  p_u_part_of : DefAt K mg "_part_of" "_part_of" S_u_part_of ["packet", "start", "end"] a_u_part_of d_u_part_of
  a_cut : Addr
  d_cut : FuncData
  p_cut : DefAt K mg "cut" "cut" S_cut ["bits", "poll", "number", "packet", "start", "stop", "room"] a_cut d_cut
  a_u_law_two : Addr
  d_u_law_two : FuncData
  p_u_law_two : DefAt K mg "_law_two" "_law_two" S_u_law_two ["many"] a_u_law_two d_u_law_two
  a_u_law_tape : Addr
  d_u_law_tape : FuncData
  p_u_law_tape : DefAt K mg "_law_tape" "_law_tape" S_u_law_tape ["script"] a_u_law_tape d_u_law_tape
  a_u_law_at : Addr
  d_u_law_at : FuncData
  p_u_law_at : DefAt K mg "_law_at" "_law_at" S_u_law_at ["tape", "k"] a_u_law_at d_u_law_at
  a_u_law_part : Addr
  d_u_law_part : FuncData
  p_u_law_part : DefAt K mg "_law_part" "_law_part" S_u_law_part ["packet", "start", "end"] a_u_law_part d_u_law_part
  a_u_law_length : Addr
  d_u_law_length : FuncData
  p_u_law_length : DefAt K mg "_law_length" "_law_length" S_u_law_length ["bits", "packet", "start", "end"] a_u_law_length d_u_law_length
  a_u_law_end : Addr
  d_u_law_end : FuncData
  p_u_law_end : DefAt K mg "_law_end" "_law_end" S_u_law_end ["bits", "packet", "start", "stop", "room"] a_u_law_end d_u_law_end
  a_u_law_right : Addr
  d_u_law_right : FuncData
  p_u_law_right : DefAt K mg "_law_right" "_law_right" S_u_law_right ["bits", "poll", "number", "packet", "start", "stop", "room"] a_u_law_right d_u_law_right
  a_law : Addr
  d_law : FuncData
  p_law : DefAt K mg "law" "law" S_law ["script"] a_law d_law
  o_BearerError : OexC K C_BearerError
  i_BearerError : PySem.W.findIn K (.ref C_BearerError) "__init__" = some (some (.ref a_BearerError___init))
  t_BearerError : PySem.W.typeIn K (.ref a_BearerError___init) = some (.type "function")
  e_BearerError : ExcC K C_BearerError
  s_BearerError_BearerError : PySem.W.subIn K (.ref C_BearerError) (.ref C_BearerError) = some true
  s_BearerError_NotValid : PySem.W.subIn K (.ref C_BearerError) (.ref C_NotValid) = some false
  y_BearerError : PySem.W.typeIn K (.ref C_BearerError) = some (.type "type")
  l_BearerError : PySem.W.isClsIn K C_BearerError = true
  o_NotValid : OexC K C_NotValid
  i_NotValid : PySem.W.findIn K (.ref C_NotValid) "__init__" = some (some (.ref a_BearerError___init))
  t_NotValid : PySem.W.typeIn K (.ref a_BearerError___init) = some (.type "function")
  e_NotValid : ExcC K C_NotValid
  s_NotValid_BearerError : PySem.W.subIn K (.ref C_NotValid) (.ref C_BearerError) = some true
  s_NotValid_NotValid : PySem.W.subIn K (.ref C_NotValid) (.ref C_NotValid) = some true
  y_NotValid : PySem.W.typeIn K (.ref C_NotValid) = some (.type "type")
  l_NotValid : PySem.W.isClsIn K C_NotValid = true
/-! ### the walk's own steps -/
local macro_rules | `(tactic| walk_at "side") => `(tactic| first
  | exact rfl
  | assumption
  | omega
  | decide
  | exact Nat.le_of_ble_eq_true rfl
  | exact ⟨by omega, by omega⟩
  | exact ⟨by omega, by omega, by omega⟩
  | exact Or.inl ⟨by omega, by omega⟩
  | exact Or.inr ⟨by omega, by omega⟩)
local macro_rules | `(tactic| walk_at "sm") => `(tactic| first
  | assumption
  | exact Same.refl _
  | (refine Same.trans ?_ (by assumption); walk_at "sm"))
local macro_rules | `(tactic| walk_at "hp") => `(tactic| first
  | assumption
  | (refine (?_ : Same _ _) _ _ (by assumption); walk_at "sm"))
local macro_rules | `(tactic| walk_at "sq") => `(tactic| first
  | assumption
  | (refine sq_of ?_; assumption)
  | (refine st_of ?_; assumption)
  | (refine Same.seq ?_ (by assumption); walk_at "sm")
  | (refine Same.sqt ?_ (by assumption); walk_at "sm")
  | (refine sq_of ?_; walk_at "hp")
  | (refine st_of ?_; walk_at "hp"))
local macro_rules | `(tactic| walk_at "rd") => `(tactic| first
  | refine ⟨_, rfl, ?_⟩
  | refine ⟨_, _, rfl, rfl, ?_⟩
  | refine Or.inl ⟨_, rfl, ?_⟩
  | refine Or.inr ⟨_, rfl, ?_⟩
  | refine ⟨_, _, _, rfl, ?_⟩
  | with_reducible refine br_nonI ?_
  | with_reducible refine br_nonR ?_
  | with_reducible refine br_nonN ?_
  | refine And.intro (by walk_at "side") ?_
  | refine rd_tup ?_
  | refine rd_lst ?_
  | with_reducible refine br_F ?_
  | with_reducible refine br_T ?_
  | with_reducible refine br_nF ?_
  | with_reducible refine br_nT ?_
  | refine ⟨_, rfl, rfl, ?_⟩
  | refine rd_isiIB ?_
  | refine rd_sum (by walk_at "sq") ?_
  | refine rd_lenI (by walk_at "sq") ?_
  | refine rd_len (by walk_at "sq") ?_
  | refine ⟨_, _, rfl, (by walk_at "hp"), ?_⟩)

section
variable {P : Program} {w : World} {K : PySem.W.Frag} {mg : Str → Option Value} {base : Heap}
theorem ok_BearerError___init (T : Tx P w K mg base) : FnOk P w K mg base CX0 1 T.a_BearerError___init T.d_BearerError___init ["self"] spInit0 := by
  refine T.p_BearerError___init.F.ok sc_BearerError___init (fun vs H Q E h => ?_) (fun cdv A outer s H vs Q E hr h => ?_)
  · obtain ⟨a, rfl, _⟩ := h
    rfl
  · obtain ⟨a, rfl, q⟩ := h
    exact ⟨_, pss_one ps_pass, q⟩
theorem Tx.x_BearerError (T : Tx P w K mg base) : PlainExc P w K mg base "BearerError" T.C_BearerError T.a_BearerError___init T.d_BearerError___init := ⟨T.o_BearerError, T.i_BearerError, T.t_BearerError, ok_BearerError___init T, T.p_BearerError___init.b, T.g_BearerError⟩
theorem Tx.m_BearerError_BearerError (T : Tx P w K mg base) : PySem.W.exmOne K (.ref T.C_BearerError) (.ref T.C_BearerError) = some true := PySem.W.exm_ref T.o_BearerError.exC T.e_BearerError.hd T.y_BearerError T.s_BearerError_BearerError
theorem Tx.m_BearerError_NotValid (T : Tx P w K mg base) : PySem.W.exmOne K (.ref T.C_BearerError) (.ref T.C_NotValid) = some false := PySem.W.exm_ref T.o_NotValid.exC T.e_NotValid.hd T.y_NotValid T.s_BearerError_NotValid
theorem Tx.x_NotValid (T : Tx P w K mg base) : PlainExc P w K mg base "NotValid" T.C_NotValid T.a_BearerError___init T.d_BearerError___init := ⟨T.o_NotValid, T.i_NotValid, T.t_NotValid, ok_BearerError___init T, T.p_BearerError___init.b, T.g_NotValid⟩
theorem Tx.m_NotValid_BearerError (T : Tx P w K mg base) : PySem.W.exmOne K (.ref T.C_NotValid) (.ref T.C_BearerError) = some true := PySem.W.exm_ref T.o_BearerError.exC T.e_BearerError.hd T.y_BearerError T.s_NotValid_BearerError
theorem Tx.m_NotValid_NotValid (T : Tx P w K mg base) : PySem.W.exmOne K (.ref T.C_NotValid) (.ref T.C_NotValid) = some true := PySem.W.exm_ref T.o_NotValid.exC T.e_NotValid.hd T.y_NotValid T.s_NotValid_NotValid
def sp_short (K : PySem.W.Frag) : Sp := fun vs H Q _ => ∃ n b : Int, vs = [.int n, .int b] ∧ 0 ≤ b ∧ b ≤ 1000 ∧ Q (.int (n % 2 ^ b.toNat)) H
@[irreducible] def ip_short (K : PySem.W.Frag) : Sp := sp_short K
theorem op_short {K : PySem.W.Frag} {vs : List V} {H : Hp} {Q : VK} {E : XK} (h : sp_short K vs H Q E) : ip_short K vs H Q E := by
  unfold ip_short
  exact h
theorem un_short {K : PySem.W.Frag} {vs : List V} {H : Hp} {Q : VK} {E : XK} (h : ip_short K vs H Q E) : sp_short K vs H Q E := by
  unfold ip_short at h
  exact h
theorem ok_short (T : Tx P w K mg base) : FnOk P w K mg base CX0 1 T.a_short T.d_short ["number", "bits"] (ip_short K) := by
  refine T.p_short.F.ok sc_short (fun vs H Q E h => ?_) (fun cdv A outer s H vs Q E hr h => ?_)
  · obtain ⟨n, b, rfl, h1, h2, q⟩ := un_short h
    rfl
  · obtain ⟨n, b, rfl, h1, h2, q⟩ := un_short h
    refine ⟨_, (pss_one (ps_ret (pe_op op_modM (pv 0) (pe_op op_shl1M pe_int (pv 1))))), ?_⟩
    (repeat walk_at "rd")
    refine ⟨two_pos _, ?_⟩
    exact q
end
/-! fields: the mathematics -/
def rowP (ps : List (Int × Int)) : Int := ps.foldl (fun r p => r * 2 ^ p.1.toNat + p.2) 0
def okP (p : Int × Int) : Bool := decide (1 ≤ p.1) && decide (0 ≤ p.2) && decide (p.2 < 2 ^ p.1.toNat)
def okF (ws vs : List Int) : Bool := decide (ws.length = vs.length) && (ws.zip vs).all okP
def wok (ws : List Int) : Bool := ws.all fun w => decide (1 ≤ w)
def sizeF (ws : List Int) : Int := (ws.sum + 7) / 8
def byteAt (R : Int) (size i : Nat) : Int := R / 2 ^ (8 * ((size : Int) - 1 - (i : Int))).toNat % 256
def bytesOf (R : Int) (size : Nat) : List Int := (List.range size).map (byteAt R size)
def packF (ws vs : List Int) : List Int := bytesOf (rowP (ws.zip vs) * 2 ^ (8 * sizeF ws - ws.sum).toNat) (sizeF ws).toNat
def num256 (ds : List Int) : Int := ds.foldl (fun r d => r * 2 ^ 8 + d) 0
def fldF (N : Int) : Int → List Int → List Int
  | _, [] => []
  | u, w :: ws => N / 2 ^ (u - w).toNat % 2 ^ w.toNat :: fldF N (u - w) ws
def unpF (ws ds : List Int) : List Int := fldF (num256 (ds.take (sizeF ws).toNat)) (8 * sizeF ws) ws

theorem pow_nn (k : Nat) : (0 : Int) < 2 ^ k := Int.pow_pos (by decide)
theorem pow_add2 (a b : Nat) : (2 : Int) ^ (a + b) = 2 ^ a * 2 ^ b := Int.pow_add ..
theorem rowP_snoc (ps : List (Int × Int)) (p : Int × Int) : rowP (ps ++ [p]) = rowP ps * 2 ^ p.1.toNat + p.2 := by
  unfold rowP
  rw [List.foldl_append]
  rfl
theorem num256_snoc (ds : List Int) (d : Int) : num256 (ds ++ [d]) = num256 ds * 2 ^ 8 + d := by
  unfold num256
  rw [List.foldl_append]
  rfl
theorem okP_iff {p : Int × Int} : okP p = true ↔ 1 ≤ p.1 ∧ 0 ≤ p.2 ∧ p.2 < 2 ^ p.1.toNat := by
  unfold okP
  simp only [Bool.and_eq_true, decide_eq_true_eq, and_assoc]
theorem wok_iff {ws : List Int} : wok ws = true ↔ ∀ w ∈ ws, 1 ≤ w := by
  unfold wok
  simp only [List.all_eq_true, decide_eq_true_eq]
theorem sum_nn {ws : List Int} (h : ∀ w ∈ ws, 0 ≤ w) : 0 ≤ ws.sum := by
  induction ws with
  | nil => exact Int.le_refl 0
  | cons w r ih =>
    rw [List.sum_cons]
    have := h w List.mem_cons_self
    have := ih fun x hx => h x (List.mem_cons_of_mem _ hx)
    omega
theorem snoc_ind {α : Type} {P : List α → Prop} (h0 : P []) (hs : ∀ l x, P l → P (l ++ [x])) : ∀ l, P l := by
  intro l
  have : ∀ n, ∀ l : List α, l.length = n → P l := by
    intro n
    induction n with
    | zero =>
      intro l hl
      rw [List.eq_nil_of_length_eq_zero hl]
      exact h0
    | succ n ih =>
      intro l hl
      have hne : l ≠ [] := by
        intro e
        rw [e] at hl
        cases hl
      rw [← List.dropLast_concat_getLast hne]
      exact hs _ _ (ih _ (by rw [List.length_dropLast]; omega))
  exact this _ l rfl
theorem rowP_bound : ∀ ps : List (Int × Int), ps.all okP = true → 0 ≤ rowP ps ∧ rowP ps < 2 ^ (ps.map Prod.fst).sum.toNat := by
  refine snoc_ind ?_ ?_
  · intro _
    exact ⟨Int.le_refl 0, by decide⟩
  · intro ps p ih h
    rw [List.all_append, Bool.and_eq_true] at h
    obtain ⟨h1, h2⟩ := h
    have hp : okP p = true := by simpa using h2
    obtain ⟨a, b, c⟩ := okP_iff.mp hp
    obtain ⟨i1, i2⟩ := ih h1
    have hs : 0 ≤ (ps.map Prod.fst).sum := sum_nn fun w hw => by
      obtain ⟨q, hq, rfl⟩ := List.mem_map.mp hw
      have := okP_iff.mp (List.all_eq_true.mp h1 q hq)
      omega
    rw [rowP_snoc, List.map_append, List.sum_append]
    have e : ((ps.map Prod.fst).sum + ([p].map Prod.fst).sum).toNat = (ps.map Prod.fst).sum.toNat + p.1.toNat := by
      have : ([p].map Prod.fst).sum = p.1 := by simp
      rw [this]
      omega
    rw [e, pow_add2]
    have hw := pow_nn p.1.toNat
    refine ⟨Int.add_nonneg (Int.mul_nonneg i1 (Int.le_of_lt hw)) b, ?_⟩
    have : rowP ps * 2 ^ p.1.toNat ≤ (2 ^ (ps.map Prod.fst).sum.toNat - 1) * 2 ^ p.1.toNat := Int.mul_le_mul_of_nonneg_right (by omega) (Int.le_of_lt hw)
    rw [Int.sub_mul, Int.one_mul] at this
    omega
theorem num256_bound : ∀ ds : List Int, (∀ d ∈ ds, 0 ≤ d ∧ d < 256) → 0 ≤ num256 ds ∧ num256 ds < 2 ^ (8 * ds.length) := by
  refine snoc_ind ?_ ?_
  · intro _
    exact ⟨Int.le_refl 0, by decide⟩
  · intro ds d ih h
    obtain ⟨i1, i2⟩ := ih fun x hx => h x (List.mem_append_left _ hx)
    obtain ⟨a, b⟩ := h d (List.mem_append_right _ List.mem_cons_self)
    rw [num256_snoc, List.length_append, List.length_singleton, Nat.mul_add, pow_add2]
    have e : (2 : Int) ^ (8 * 1) = 256 := by decide
    have e2 : (2 : Int) ^ 8 = 256 := by decide
    rw [e]
    omega
/-- one number cut into bytes, read again -/
theorem bytes_split (R : Int) (n : Nat) : ∀ i, i ≤ n → num256 ((List.range i).map (byteAt R n)) = R / 2 ^ (8 * (n - i)) % 2 ^ (8 * i) := by
  intro i
  induction i with
  | zero =>
    intro _
    show (0 : Int) = _ % 2 ^ (8 * 0)
    simp
  | succ i ih =>
    intro hi
    have h1 := ih (by omega)
    rw [List.range_succ, List.map_append, List.map_singleton, num256_snoc, h1]
    unfold byteAt
    have e1 : (8 * ((n : Int) - 1 - (i : Int))).toNat = 8 * (n - (i + 1)) := by omega
    rw [e1]
    have e2 : 8 * (n - i) = 8 * (n - (i + 1)) + 8 := by omega
    rw [e2, pow_add2, ← Int.ediv_ediv_of_nonneg (Int.le_of_lt (pow_nn _))]
    generalize R / 2 ^ (8 * (n - (i + 1))) = x
    have e3 : 8 * (i + 1) = 8 * i + 8 := by omega
    rw [e3, pow_add2]
    have e4 : (2 : Int) ^ 8 = 256 := by decide
    rw [e4]
    generalize hM : (2 : Int) ^ (8 * i) = M
    have hM0 : 0 < M := by rw [← hM]; exact pow_nn _
    have k := Int.emod_nonneg x (show M * 256 ≠ 0 by omega)
    have q1 := Int.mul_ediv_add_emod x (M * 256)
    have q2 := Int.mul_ediv_add_emod (x / 256) M
    have q3 := Int.mul_ediv_add_emod x 256
    have b2 := Int.emod_nonneg (x / 256) (show M ≠ 0 by omega)
    have b2' := Int.emod_lt_of_pos (x / 256) hM0
    have b3 := Int.emod_nonneg x (show (256 : Int) ≠ 0 by omega)
    have b3' := Int.emod_lt_of_pos x (show (0 : Int) < 256 by omega)
    have ed : x / (M * 256) = x / 256 / M := by
      rw [Int.mul_comm M 256, Int.ediv_ediv_of_nonneg (by decide)]
    rw [ed] at q1
    generalize hy : x / 256 / M = y at *
    have e5 : M * 256 * y = 256 * (M * y) := by rw [Int.mul_comm M 256, Int.mul_assoc]
    rw [e5] at q1
    omega
theorem bytes_num {R : Int} {n : Nat} (h0 : 0 ≤ R) (h1 : R < 2 ^ (8 * n)) : num256 (bytesOf R n) = R := by
  have e := bytes_split R n n (Nat.le_refl n)
  unfold bytesOf
  rw [e, Nat.sub_self, Nat.mul_zero, Int.pow_zero, Int.ediv_one]
  exact Int.emod_eq_of_lt h0 h1
theorem byteAt_bound (R : Int) (n i : Nat) : 0 ≤ byteAt R n i ∧ byteAt R n i < 256 := by
  unfold byteAt
  omega
theorem bytesOf_length (R : Int) (n : Nat) : (bytesOf R n).length = n := by
  unfold bytesOf
  rw [List.length_map, List.length_range]
/-- the fields read again -/
theorem fld_back : ∀ (ps : List (Int × Int)) (A : Int) (pad : Nat), ps.all okP = true → 0 ≤ A →
    fldF ((A * 2 ^ (ps.map Prod.fst).sum.toNat + rowP ps) * 2 ^ pad) ((ps.map Prod.fst).sum + pad) (ps.map Prod.fst) = ps.map Prod.snd := by
  intro ps
  induction ps with
  | nil => intro A pad _ _; rfl
  | cons p r ih =>
    intro A pad h hA
    rw [List.all_cons, Bool.and_eq_true] at h
    obtain ⟨hp, hr⟩ := h
    obtain ⟨a, b, c⟩ := okP_iff.mp hp
    have hs : 0 ≤ (r.map Prod.fst).sum := sum_nn fun w hw => by
      obtain ⟨q, hq, rfl⟩ := List.mem_map.mp hw
      have := okP_iff.mp (List.all_eq_true.mp hr q hq)
      omega
    -- rowP (p :: r) = p.2 * 2^S + rowP r
    have hrow : ∀ (l : List (Int × Int)) (z : Int), l.all okP = true → l.foldl (fun r p => r * 2 ^ p.1.toNat + p.2) z = z * 2 ^ (l.map Prod.fst).sum.toNat + rowP l := by
      intro l
      induction l with
      | nil =>
        intro z _
        show z = z * 2 ^ (0 : Int).toNat + 0
        simp
      | cons q t ih2 =>
        intro z hl
        rw [List.all_cons, Bool.and_eq_true] at hl
        obtain ⟨hq, ht⟩ := hl
        have hq1 := okP_iff.mp hq
        have ht0 : 0 ≤ (t.map Prod.fst).sum := sum_nn fun w hw => by
          obtain ⟨q, hq, rfl⟩ := List.mem_map.mp hw
          have := okP_iff.mp (List.all_eq_true.mp ht q hq)
          omega
        rw [List.foldl_cons, ih2 _ ht]
        show _ = z * 2 ^ (q.1 + (t.map Prod.fst).sum).toNat + List.foldl _ (0 * 2 ^ q.1.toNat + q.2) t
        rw [ih2 _ ht]
        have e : (q.1 + (t.map Prod.fst).sum).toNat = q.1.toNat + (t.map Prod.fst).sum.toNat := by omega
        rw [e, pow_add2, Int.zero_mul, Int.zero_add, Int.add_mul, Int.mul_assoc]
        omega
    have e1 : rowP (p :: r) = p.2 * 2 ^ (r.map Prod.fst).sum.toNat + rowP r := by
      show List.foldl _ (0 * 2 ^ p.1.toNat + p.2) r = _
      rw [hrow r _ hr, Int.zero_mul, Int.zero_add]
    have e2 : ((p :: r).map Prod.fst).sum = p.1 + (r.map Prod.fst).sum := by simp
    rw [e1, e2]
    have e3 : (p.1 + (r.map Prod.fst).sum).toNat = p.1.toNat + (r.map Prod.fst).sum.toNat := by omega
    rw [e3, pow_add2]
    obtain ⟨r1, r2⟩ := rowP_bound r hr
    generalize hS : (r.map Prod.fst).sum = S at *
    generalize hR : rowP r = R at *
    have eN : (A * (2 ^ p.1.toNat * 2 ^ S.toNat) + (p.2 * 2 ^ S.toNat + R)) = (A * 2 ^ p.1.toNat + p.2) * 2 ^ S.toNat + R := by
      rw [Int.add_mul, Int.mul_assoc]
      omega
    rw [eN]
    show fldF _ _ (p.1 :: r.map Prod.fst) = p.2 :: r.map Prod.snd
    show _ :: _ = _
    have eu : p.1 + S + (pad : Int) - p.1 = S + pad := by omega
    rw [eu, ih (A * 2 ^ p.1.toNat + p.2) pad hr (Int.add_nonneg (Int.mul_nonneg hA (Int.le_of_lt (pow_nn _))) b)]
    congr 1
    have e4 : (S + (pad : Int)).toNat = S.toNat + pad := by omega
    rw [e4, pow_add2, Int.mul_ediv_mul_of_pos_left _ _ (pow_nn pad)]
    rw [Int.add_comm (_ * 2 ^ S.toNat) R, Int.add_mul_ediv_right _ _ (Int.ne_of_gt (pow_nn S.toNat)), Int.ediv_eq_zero_of_lt r1 r2, Int.zero_add, Int.add_comm, Int.add_mul_emod_self_right]
    exact Int.emod_eq_of_lt b c
theorem zip_fst {ws vs : List Int} (h : ws.length = vs.length) : (ws.zip vs).map Prod.fst = ws := List.map_fst_zip (by omega)
theorem zip_snd {ws vs : List Int} (h : ws.length = vs.length) : (ws.zip vs).map Prod.snd = vs := List.map_snd_zip (by omega)
theorem okF_wok {ws vs : List Int} (h : okF ws vs = true) : wok ws = true := by
  unfold okF at h
  rw [Bool.and_eq_true, decide_eq_true_eq] at h
  rw [wok_iff, ← zip_fst h.1]
  intro w hw
  obtain ⟨q, hq, rfl⟩ := List.mem_map.mp hw
  exact (okP_iff.mp (List.all_eq_true.mp h.2 q hq)).1
/-- what was packed is read again, whatever stands behind -/
theorem unp_pack {ws vs es : List Int} (h : okF ws vs = true) : unpF ws (packF ws vs ++ es) = vs := by
  have hw := okF_wok h
  unfold okF at h
  rw [Bool.and_eq_true, decide_eq_true_eq] at h
  obtain ⟨hl, hp⟩ := h
  have hs : 0 ≤ ws.sum := sum_nn fun w hw' => by
    have := wok_iff.mp hw w hw'
    omega
  obtain ⟨b1, b2⟩ := rowP_bound _ hp
  rw [zip_fst hl] at b2
  have hz : 0 ≤ sizeF ws := by unfold sizeF; omega
  unfold unpF
  have e1 : (packF ws vs ++ es).take (sizeF ws).toNat = packF ws vs := by
    have : (packF ws vs).length = (sizeF ws).toNat := bytesOf_length _ _
    rw [List.take_append_of_le_length (by omega), List.take_of_length_le (by omega)]
  rw [e1]
  have hpad : 0 ≤ 8 * sizeF ws - ws.sum := by unfold sizeF; omega
  have e2 : num256 (packF ws vs) = rowP (ws.zip vs) * 2 ^ (8 * sizeF ws - ws.sum).toNat := by
    refine bytes_num (Int.mul_nonneg b1 (Int.le_of_lt (pow_nn _))) ?_
    have e3 : 8 * (sizeF ws).toNat = ws.sum.toNat + (8 * sizeF ws - ws.sum).toNat := by omega
    rw [e3, pow_add2]
    exact Int.mul_lt_mul_of_pos_right b2 (pow_nn _)
  rw [e2]
  have k := fld_back (ws.zip vs) 0 (8 * sizeF ws - ws.sum).toNat hp (Int.le_refl 0)
  rw [zip_fst hl, zip_snd hl, Int.zero_mul, Int.zero_add] at k
  have e4 : ws.sum + ((8 * sizeF ws - ws.sum).toNat : Int) = 8 * sizeF ws := by omega
  rw [e4] at k
  exact k
theorem take_all {α : Type} {l : List α} {i : Nat} {x : α} {f : α → Bool} (h : (l.take i).all f = true) (hx : l[i]? = some x) (hf : f x = true) : (l.take (i + 1)).all f = true := by
  rw [take_snoc hx, List.all_append, h]
  simp [hf]
theorem take_all_full {α : Type} {l : List α} {f : α → Bool} {i : Nat} (hi : l.length ≤ i) (h : (l.take i).all f = true) : l.all f = true := by
  rw [List.take_of_length_le hi] at h
  exact h
theorem not_all {α : Type} {l : List α} {i : Nat} {x : α} {f : α → Bool} (hx : l[i]? = some x) (hf : f x = false) : l.all f = false := by
  cases e : l.all f with
  | false => rfl
  | true =>
    rw [List.all_eq_true.mp e x (List.mem_of_getElem? hx)] at hf
    cases hf
theorem map_get {ns : List Int} {i : Nat} {y : V} (h : (ns.map V.int)[i]? = some y) : ∃ x, ns[i]? = some x ∧ y = .int x := by
  rw [List.getElem?_map] at h
  cases e : ns[i]? with
  | none => rw [e] at h; cases h
  | some x => rw [e] at h; exact ⟨x, rfl, (Option.some.inj h).symm⟩
section
variable {P : Program} {w : World} {K : PySem.W.Frag} {mg : Str → Option Value} {base : Heap}
def sp_field_bytes (K : PySem.W.Frag) (C : Addr) : Sp := fun vs H Q E => ∃ (a : Addr) (ws : List Int), vs = [.ref a] ∧ SqL K H a (ws.map V.int) ∧ (wok ws = true → Q (.int (sizeF ws)) H) ∧ (wok ws = false → E (.ref C) none H)
@[irreducible] def ip_field_bytes (K : PySem.W.Frag) (C : Addr) : Sp := sp_field_bytes K C
theorem op_field_bytes {K : PySem.W.Frag} {C : Addr} {vs : List V} {H : Hp} {Q : VK} {E : XK} (h : sp_field_bytes K C vs H Q E) : ip_field_bytes K C vs H Q E := by
  unfold ip_field_bytes
  exact h
theorem un_field_bytes {K : PySem.W.Frag} {C : Addr} {vs : List V} {H : Hp} {Q : VK} {E : XK} (h : ip_field_bytes K C vs H Q E) : sp_field_bytes K C vs H Q E := by
  unfold ip_field_bytes at h
  exact h
theorem ok_field_bytes (T : Tx P w K mg base) : FnOk P w K mg base (L2.CX P w) 3 T.a_field_bytes T.d_field_bytes ["widths"] (ip_field_bytes K T.C_NotValid) := by
  refine T.p_field_bytes.F.okX sc_field_bytes (fun vs H Q E h => ?_) (fun cdv A outer s H vs Q E hr h => ?_)
  · obtain ⟨a, ws, rfl, hS, q, e⟩ := un_field_bytes h
    rfl
  · obtain ⟨a, ws, rfl, hS, q, e⟩ := un_field_bytes h
    refine ⟨_, (pss_cons (ps_forL (passes_of rfl) rfl (pv 0) (pg_name (i := 1) sc_field_bytes.nd rfl (Or.inl rfl)) (pss_one (ps_ifM (pt_cmpR op_ltM (pv 1) pe_int (nomark _)) (pss_one (ps_raise rfl (takes_of rfl rfl rfl rfl) (pmk_plain T.x_NotValid (hr.mono (by decide)) rfl))) pss_nil))) (pss_one (ps_ret (pe_op op_fdivM (pe_op op_addM (pe_callB (call_sumM rfl) (by rfl) T.n_sum (by decide +kernel) (pa_cons (pv 0) pa_nil)) pe_int) pe_int)))), ?_⟩
    refine rd_forL ?_
    (repeat walk_at "rd")
    refine ⟨a, _, fun i σ H' => Stop (H' = H ∧ wok (ws.take i) = true ∧ ∃ v, σ = [some (.ref a), v]), rfl, hS, .a ⟨rfl, rfl, none, rfl⟩, fun i σ' H' hi p => ?_, fun i y σ' H' hi p => ?_, fun σ' H' p => ?_⟩
    · obtain ⟨rfl, _⟩ := p.un
      exact hS
    · obtain ⟨rfl, hw, v, rfl⟩ := p.un
      obtain ⟨x, hx, rfl⟩ := map_get hi
      (repeat walk_at "rd")
      refine br_by (fun h => ?_) (fun h => ?_)
      · exact e (not_all hx (decide_eq_false (by omega)))
      · exact .a ⟨rfl, take_all hw hx (decide_eq_true (by omega)), some (.int x), rfl⟩
    · obtain ⟨rfl, hw, v, rfl⟩ := p.un
      rw [List.length_map, List.take_length] at hw
      (repeat walk_at "rd")
      exact q hw
def sp_pack (K : PySem.W.Frag) (C : Addr) : Sp := fun as H Q E => ∃ (a b : Addr) (ws vs : List Int), as = [.ref a, .ref b] ∧ SqL K H a (ws.map V.int) ∧ SqL K H b (vs.map V.int) ∧ ws.length ≤ 500 ∧ (∀ w ∈ ws, w ≤ 1000) ∧
  (okF ws vs = true → NewO (.lst ((packF ws vs).map V.int)) H Q) ∧ (okF ws vs = false → ∀ H', Same H H' → E (.ref C) none H')
theorem sum_le {ws : List Int} (h : ∀ w ∈ ws, w ≤ 1000) : ws.sum ≤ 1000 * (ws.length : Int) := by
  induction ws with
  | nil => exact Int.le_refl 0
  | cons w r ih =>
    rw [List.sum_cons, List.length_cons]
    have := h w List.mem_cons_self
    have := ih fun x hx => h x (List.mem_cons_of_mem _ hx)
    omega
theorem shl_of {i : Int} {j : Int} {n : Nat} (h0 : 0 ≤ i) (h : i < 2 ^ n) (hj : 0 ≤ j) (hn : (n : Int) + j ≤ 134217728) : CShl i j := by
  have e : j = ((j.toNat : Nat) : Int) := by omega
  rw [e]
  refine shl_ok (n := n) ?_ (by omega)
  have : ((i.natAbs : Nat) : Int) < ((2 ^ n : Nat) : Int) := by
    rw [Int.natCast_pow]
    show (i.natAbs : Int) < 2 ^ n
    omega
  exact Int.ofNat_lt.mp this
theorem okF_false {ws vs : List Int} (h : ws.length ≠ vs.length ∨ (ws.zip vs).all okP = false) : okF ws vs = false := by
  unfold okF
  rcases h with h | h
  · rw [decide_eq_false h]
    rfl
  · rw [h, Bool.and_false]
@[irreducible] def ip_pack (K : PySem.W.Frag) (C : Addr) : Sp := sp_pack K C
theorem op_pack {K : PySem.W.Frag} {C : Addr} {vs : List V} {H : Hp} {Q : VK} {E : XK} (h : sp_pack K C vs H Q E) : ip_pack K C vs H Q E := by
  unfold ip_pack
  exact h
theorem un_pack {K : PySem.W.Frag} {C : Addr} {vs : List V} {H : Hp} {Q : VK} {E : XK} (h : ip_pack K C vs H Q E) : sp_pack K C vs H Q E := by
  unfold ip_pack at h
  exact h
theorem ok_pack (T : Tx P w K mg base) : FnOk P w K mg base (L2.CX P w) 4 T.a_pack T.d_pack ["widths", "values"] (ip_pack K T.C_NotValid) := by
  have G_field_bytes := ok_field_bytes T
  refine T.p_pack.F.okX sc_pack (fun vs H Q E h => ?_) (fun cdv A outer s H vs Q E hr h => ?_)
  · obtain ⟨a, b, ws, vs, rfl, hS, hT, hn, hw, q, e⟩ := un_pack h
    rfl
  · obtain ⟨a, b, ws, vs, rfl, hS, hT, hn, hw, q, e⟩ := un_pack h
    refine ⟨_, (pss_cons (ps_ifM (pt_cmpR op_ne (pe_callB call_lenM (by rfl) T.n_len PySem.boot_len (pa_cons (pv 0) pa_nil)) (pe_callB call_lenM (by rfl) T.n_len PySem.boot_len (pa_cons (pv 1) pa_nil)) (nomark _)) (pss_one (ps_raise rfl (takes_of rfl rfl rfl rfl) (pmk_plain T.x_NotValid (hr.mono (by decide)) rfl))) pss_nil) (pss_cons (ps_set (i := 2) sc_pack.nd rfl (Or.inr rfl) (pe_call G_field_bytes (hr.mono (by decide)) rfl T.p_field_bytes.m T.p_field_bytes.F.kp T.p_field_bytes.b .nil (passes_call (takes_of rfl rfl rfl rfl) (fun _ _ _ _ h => h)) (pa_cons (pv 0) pa_nil))) (pss_cons (ps_set (i := 3) sc_pack.nd rfl (Or.inr rfl) pe_int) (pss_cons (ps_forZ (passes_of rfl) rfl rfl T.n_zip (pa_cons (pv 0) (pa_cons (pv 1) pa_nil)) (pg_tup rfl (pgs_cons (pg_name (i := 4) sc_pack.nd rfl (Or.inl rfl)) (pgs_cons (pg_name (i := 5) sc_pack.nd rfl (Or.inl rfl)) pgs_nil))) (pss_cons (ps_ifM (PW.pt (pw_orM (pt_cmpR op_ltM (pv 5) pe_int (nomark _)) (pw_or1 (pt_cmpR op_geM (pv 5) (pe_op op_shl1M pe_int (pv 4)) (nomark _))))) (pss_one (ps_raise rfl (takes_of rfl rfl rfl rfl) (pmk_plain T.x_NotValid (hr.mono (by decide)) rfl))) pss_nil) (pss_one (ps_set (i := 3) sc_pack.nd rfl (Or.inr rfl) (pe_op op_addM (pe_op op_shlM (pv 3) (pv 4)) (pv 5)))))) (pss_cons (ps_set (i := 3) sc_pack.nd rfl (Or.inr rfl) (pe_op op_shlM (pv 3) (pe_op op_subM (pe_op op_mulM pe_int (pv 2)) (pe_callB (call_sumM rfl) (by rfl) T.n_sum (by decide +kernel) (pa_cons (pv 0) pa_nil))))) (pss_one (ps_ret (pe_lcR1 rfl sc_pack.nd rfl T.n_range (pa_cons (pv 2) pa_nil) (blkOk_by (own := [("at", 6)]) (N := ["widths", "values", "size", "row", "width", "value", "at"]) (sc := defScope S_pack) (by decide +kernel)) (fun _ _ _ _ _ => (pg_name (i := 6) sc_pack.nd rfl (Or.inl rfl))) (fun _ _ _ _ _ => (pe_op op_bandM (pe_op op_shrM (pv 3) (pe_op op_mulM pe_int (pe_op op_subM (pe_op op_subM (pv 2) pe_int) (pv 6)))) pe_int)))))))))), ?_⟩
    (repeat walk_at "rd")
    refine br_enby (fun h => ?_) (fun h => ?_)
    · exact e (okF_false (.inl (by omega))) _ (Same.refl _)
    (repeat walk_at "rd")
    refine op_field_bytes ⟨a, ws, rfl, hS, fun hwk => ?_, fun hwk => ?_⟩
    rotate_left
    · refine e ?_ _ (Same.refl _)
      cases k : okF ws vs with
      | false => rfl
      | true => rw [okF_wok k] at hwk; cases hwk
    (repeat walk_at "rd")
    refine rd_forZ ?_
    (repeat walk_at "rd")
    have hl : ws.length = vs.length := by omega
    have hsum := sum_le hw
    have hs0 : 0 ≤ ws.sum := sum_nn fun w hw' => by
      have := wok_iff.mp hwk w hw'
      omega
    have hsz : 0 ≤ sizeF ws ∧ ws.sum ≤ 8 * sizeF ws ∧ 8 * sizeF ws ≤ ws.sum + 7 := by unfold sizeF; omega
    have zl : (ws.zip vs).length = ws.length := by rw [List.length_zip]; omega
    refine ⟨a, b, _, _, fun i σ H' => Stop (Same H H' ∧ ((ws.zip vs).take i).all okP = true ∧ ∃ x y z, σ = [some (.ref a), some (.ref b), some (.int (sizeF ws)), some (.int (rowP ((ws.zip vs).take i))), x, y, z]), rfl, hS, hT, by rw [List.length_map, List.length_map, hl], .a ⟨Same.refl _, rfl, _, _, _, rfl⟩, fun i σ' H' p => ?_, fun i x y σ' H' H'' hx hy p s2 => ?_, fun σ' H' p => ?_⟩
    · obtain ⟨sm, _⟩ := p.un
      exact ⟨sm.seq hS, sm.seq hT⟩
    · obtain ⟨sm, hok, x1, y1, z1, rfl⟩ := p.un
      obtain ⟨wd, hwd, rfl⟩ := map_get hx
      obtain ⟨vl, hvl, rfl⟩ := map_get hy
      have hz : (ws.zip vs)[i]? = some (wd, vl) := by rw [List.getElem?_zip_eq_some]; exact ⟨hwd, hvl⟩
      have hw1 := wok_iff.mp hwk wd (List.mem_of_getElem? hwd)
      have hw2 := hw wd (List.mem_of_getElem? hwd)
      obtain ⟨b1, b2⟩ := rowP_bound _ hok
      have hbig : (List.map Prod.fst ((ws.zip vs).take i)).sum.toNat ≤ 1000000 := by
        rw [List.map_take, zip_fst hl]
        have h1 := sum_le (ws := ws.take i) fun w h => hw w (List.mem_of_mem_take h)
        rw [List.length_take] at h1
        omega
      (repeat walk_at "rd")
      refine br_by (fun h1 => ?_) (fun h1 => ?_)
      · (repeat walk_at "rd")
        exact e (okF_false (.inr (not_all hz (by unfold okP; rw [decide_eq_false (show ¬ 0 ≤ (wd, vl).2 from by show ¬ 0 ≤ vl; omega), Bool.and_false]; rfl)))) _ (sm.trans s2)
      (repeat walk_at "rd")
      refine br_by (fun h2 => ?_) (fun h2 => ?_)
      · (repeat walk_at "rd")
        exact e (okF_false (.inr (not_all hz (by unfold okP; rw [decide_eq_false (show ¬ (wd, vl).2 < 2 ^ (wd, vl).1.toNat from by show ¬ vl < 2 ^ wd.toNat; omega), Bool.and_false])))) _ (sm.trans s2)
      (repeat walk_at "rd")
      refine ⟨shl_of b1 b2 (by omega) (by omega), ?_⟩
      (repeat walk_at "rd")
      refine .a ⟨sm.trans s2, take_all hok hz (okP_iff.mpr ⟨hw1, by show 0 ≤ vl; omega, by show vl < 2 ^ wd.toNat; omega⟩), _, _, _, by rw [take_snoc hz, rowP_snoc]; rfl⟩
    · obtain ⟨sm, hok, x1, y1, z1, rfl⟩ := p.un
      rw [List.length_map, ← zl, List.take_length] at hok ⊢
      have hokF : okF ws vs = true := by unfold okF; rw [decide_eq_true hl, hok]; rfl
      obtain ⟨b1, b2⟩ := rowP_bound _ hok
      rw [zip_fst hl] at b2
      (repeat walk_at "rd")
      refine ⟨shl_of b1 b2 (by omega) (by omega), ?_⟩
      (repeat walk_at "rd")
      refine rd_lcR1 ?_
      (repeat walk_at "rd")
      refine ⟨_, fun i => V.int (byteAt (rowP (ws.zip vs) * 2 ^ (8 * sizeF ws - ws.sum).toNat) (sizeF ws).toNat i), rfl, ⟨by omega, by omega⟩, fun i hi H1 s1 => ?_, fun p H1 hp s1 e1 => ?_⟩
      · (repeat walk_at "rd")
        refine ⟨?_, Same.refl _⟩
        have e1 : (255 : Int) = 2 ^ 8 - 1 := by decide
        rw [e1, Bits.bitAnd_mask _ (Int.ediv_nonneg (Int.mul_nonneg b1 (Int.le_of_lt (pow_nn _))) (Int.le_of_lt (pow_nn _)))]
        have e2 : ((sizeF ws).toNat : Int) = sizeF ws := by omega
        show V.int _ = V.int (byteAt _ _ _)
        unfold byteAt
        rw [e2]
        rfl
      · refine q hokF p H1 (sm.free hp) (sm.trans s1) ?_
        rw [e1]
        unfold packF bytesOf
        rw [List.map_map]
        rfl
def unpOk (ws ds : List Int) : Bool := wok ws && decide (sizeF ws ≤ (ds.length : Int))
def sp_unpack (K : PySem.W.Frag) (C : Addr) : Sp := fun as H Q E => ∃ (a b : Addr) (ws ds : List Int), as = [.ref a, .ref b] ∧ SqL K H a (ws.map V.int) ∧ SqL K H b (ds.map V.int) ∧ ws.length ≤ 500 ∧ (∀ w ∈ ws, w ≤ 1000) ∧ (∀ d ∈ ds, 0 ≤ d ∧ d < 256) ∧
  (unpOk ws ds = true → NewO (.lst ((unpF ws ds).map V.int)) H Q) ∧ (unpOk ws ds = false → ∀ H', Same H H' → E (.ref C) none H')
theorem cutV_to {ds : List Int} {k : Int} (h0 : 0 ≤ k) : cutV (ds.map V.int) none (some k) = (ds.take k.toNat).map V.int := by
  unfold cutV
  rw [HT.sIx_none]
  have e : k = ((k.toNat : Nat) : Int) := by omega
  rw [e, HT.sIx_nat, List.drop_zero, Nat.sub_zero, List.length_map, ← List.map_take]
  congr 1
  rw [Int.toNat_natCast]
  by_cases h : k.toNat ≤ ds.length
  · rw [Nat.min_eq_left h]
  · rw [Nat.min_eq_right (by omega), List.take_of_length_le (Nat.le_refl _), List.take_of_length_le (by omega)]
theorem fldF_snoc (N : Int) : ∀ (ws : List Int) (u w : Int), fldF N u (ws ++ [w]) = fldF N u ws ++ [N / 2 ^ (u - ws.sum - w).toNat % 2 ^ w.toNat]
  | [], u, w => by
    show [N / 2 ^ (u - w).toNat % 2 ^ w.toNat] = [] ++ [N / 2 ^ (u - 0 - w).toNat % 2 ^ w.toNat]
    rw [Int.sub_zero]
    rfl
  | x :: r, u, w => by
    show _ :: fldF N (u - x) (r ++ [w]) = _ :: fldF N (u - x) r ++ _
    rw [fldF_snoc N r, List.sum_cons]
    have e : u - x - r.sum - w = u - (x + r.sum) - w := by omega
    rw [e]
    rfl
theorem fldF_len (N : Int) : ∀ (ws : List Int) (u : Int), (fldF N u ws).length = ws.length
  | [], _ => rfl
  | x :: r, u => by
    show (fldF N (u - x) r).length + 1 = r.length + 1
    rw [fldF_len N r]
@[irreducible] def ip_unpack (K : PySem.W.Frag) (C : Addr) : Sp := sp_unpack K C
theorem op_unpack {K : PySem.W.Frag} {C : Addr} {vs : List V} {H : Hp} {Q : VK} {E : XK} (h : sp_unpack K C vs H Q E) : ip_unpack K C vs H Q E := by
  unfold ip_unpack
  exact h
theorem un_unpack {K : PySem.W.Frag} {C : Addr} {vs : List V} {H : Hp} {Q : VK} {E : XK} (h : ip_unpack K C vs H Q E) : sp_unpack K C vs H Q E := by
  unfold ip_unpack at h
  exact h
theorem ok_unpack (T : Tx P w K mg base) : FnOk P w K mg base (L2.CX P w) 4 T.a_unpack T.d_unpack ["widths", "data"] (ip_unpack K T.C_NotValid) := by
  have G_field_bytes := ok_field_bytes T
  refine T.p_unpack.F.okX sc_unpack (fun vs H Q E h => ?_) (fun cdv A outer s H vs Q E hr h => ?_)
  · obtain ⟨a, b, ws, ds, rfl, hS, hT, hn, hw, hd, q, e⟩ := un_unpack h
    rfl
  · obtain ⟨a, b, ws, ds, rfl, hS, hT, hn, hw, hd, q, e⟩ := un_unpack h
    refine ⟨_, (pss_cons (ps_set (i := 2) sc_unpack.nd rfl (Or.inl rfl) (pe_call G_field_bytes (hr.mono (by decide)) rfl T.p_field_bytes.m T.p_field_bytes.F.kp T.p_field_bytes.b .nil (passes_call (takes_of rfl rfl rfl rfl) (fun _ _ _ _ h => h)) (pa_cons (pv 0) pa_nil))) (pss_cons (ps_ifM (pt_cmpR op_ltM (pe_callB call_lenM (by rfl) T.n_len PySem.boot_len (pa_cons (pv 1) pa_nil)) (pv 2) (nomark _)) (pss_one (ps_raise rfl (takes_of rfl rfl rfl rfl) (pmk_plain T.x_NotValid (hr.mono (by decide)) rfl))) pss_nil) (pss_cons (ps_set (i := 3) sc_unpack.nd rfl (Or.inl rfl) pe_int) (pss_cons (ps_forL (passes_of rfl) rfl (pe_slice sl_listM (pv 1) po_none (po_some (pv 2))) (pg_name (i := 4) sc_unpack.nd rfl (Or.inl rfl)) (pss_one (ps_set (i := 3) sc_unpack.nd rfl (Or.inl rfl) (pe_op op_addM (pe_op op_shlM (pv 3) pe_int) (pv 4))))) (pss_cons (ps_set (i := 5) sc_unpack.nd rfl (Or.inl rfl) (pe_op op_mulM pe_int (pv 2))) (pss_cons (ps_set (i := 6) sc_unpack.nd rfl (Or.inl rfl) (pe_lstM pa_nil)) (pss_cons (ps_forL (passes_of rfl) rfl (pv 0) (pg_name (i := 7) sc_unpack.nd rfl (Or.inl rfl)) (pss_cons (ps_set (i := 5) sc_unpack.nd rfl (Or.inl rfl) (pe_op op_subM (pv 5) (pv 7))) (pss_one (ps_expr (pe_app (pv 6) (pe_op op_bandM (pe_op op_shrM (pv 3) (pv 5)) (pe_op op_subM (pe_op op_shl1M pe_int (pv 7)) pe_int))))))) (pss_one (ps_ret (pv 6)))))))))), ?_⟩
    (repeat walk_at "rd")
    refine op_field_bytes ⟨a, ws, rfl, hS, fun hwk => ?_, fun hwk => ?_⟩
    rotate_left
    · refine e ?_ _ (Same.refl _)
      unfold unpOk
      rw [hwk]
      rfl
    (repeat walk_at "rd")
    refine br_by (fun h => ?_) (fun h => ?_)
    · (repeat walk_at "rd")
      refine e ?_ _ (Same.refl _)
      unfold unpOk
      rw [decide_eq_false (by omega), Bool.and_false]
    have hsum := sum_le hw
    have hs0 : 0 ≤ ws.sum := sum_nn fun w hw' => by
      have := wok_iff.mp hwk w hw'
      omega
    have hsz : 0 ≤ sizeF ws ∧ ws.sum ≤ 8 * sizeF ws ∧ 8 * sizeF ws ≤ ws.sum + 7 := by unfold sizeF; omega
    (repeat walk_at "rd")
    refine rd_forL ?_
    (repeat walk_at "rd")
    refine rd_sl hT ?_
    rw [cutV_to hsz.1]
    intro p H1 np s1 e1
    generalize hpre : ds.take (sizeF ws).toNat = pre at e1
    have hb : ∀ d ∈ pre, 0 ≤ d ∧ d < 256 := fun d h => hd d (by rw [← hpre] at h; exact List.mem_of_mem_take h)
    have hlen : (pre.length : Int) = sizeF ws := by
      rw [← hpre, List.length_take]
      omega
    refine ⟨p, _, fun i σ H' => Stop (H' = H1 ∧ ∃ x y z u, σ = [some (.ref a), some (.ref b), some (.int (sizeF ws)), some (.int (num256 (pre.take i))), x, y, z, u]), rfl, sq_of e1, .a ⟨rfl, _, _, _, _, rfl⟩, fun i σ' H' hi p => ?_, fun i y σ' H' hi p => ?_, fun σ' H' p => ?_⟩
    · obtain ⟨rfl, _⟩ := p.un
      exact sq_of e1
    · obtain ⟨rfl, x1, y1, z1, u1, rfl⟩ := p.un
      obtain ⟨d, hx, rfl⟩ := map_get hi
      have hi2 := (List.getElem?_eq_some_iff.mp hx).1
      obtain ⟨b1, b2⟩ := num256_bound (pre.take i) fun d h => hb d (List.mem_of_mem_take h)
      rw [List.length_take] at b2
      (repeat walk_at "rd")
      refine ⟨shl_of b1 b2 (by decide) (by omega), ?_⟩
      (repeat walk_at "rd")
      exact .a ⟨rfl, _, _, _, _, by rw [take_snoc hx, num256_snoc]; rfl⟩
    · obtain ⟨rfl, x1, y1, z1, u1, rfl⟩ := p.un
      rw [List.length_map, List.take_length]
      obtain ⟨b1, b2⟩ := num256_bound pre hb
      generalize hN : num256 pre = N at b1 b2
      (repeat walk_at "rd")
      intro l H2 nl s2 e2
      (repeat walk_at "rd")
      refine rd_forL ?_
      (repeat walk_at "rd")
      have hSS : Same H H2 := s1.trans s2
      refine ⟨a, _, fun i σ H' => Stop (Same H' H' ∧ Same H H' ∧ H' l = some (.lst ((fldF N (8 * sizeF ws) (ws.take i)).map V.int)) ∧ ∃ x y, σ = [some (.ref a), some (.ref b), some (.int (sizeF ws)), some (.int N), x, some (.int (8 * sizeF ws - (ws.take i).sum)), some (.ref l), y]), rfl, hSS.seq hS, .a ⟨Same.refl _, hSS, e2, _, _, by show _ = [_, _, _, _, _, some (V.int (8 * sizeF ws - 0)), _, _]; rw [Int.sub_zero]; rfl⟩, fun i σ' H' hi p => ?_, fun i y σ' H' hi p => ?_, fun σ' H' p => ?_⟩
      · obtain ⟨_, sm, _⟩ := p.un
        exact sm.seq hS
      · obtain ⟨_, sm, el, x2, y2, rfl⟩ := p.un
        obtain ⟨wd, hx, rfl⟩ := map_get hi
        have hi2 := (List.getElem?_eq_some_iff.mp hx).1
        have hw1 := wok_iff.mp hwk wd (List.mem_of_getElem? hx)
        have hw2 := hw wd (List.mem_of_getElem? hx)
        have hsumi : 0 ≤ 8 * sizeF ws - (ws.take i).sum - wd := by
          have h1 : (ws.take (i + 1)).sum = (ws.take i).sum + wd := by
            rw [take_snoc hx, List.sum_append]
            simp
          have h2 : ws.sum = (ws.take (i + 1)).sum + (ws.drop (i + 1)).sum := by
            rw [← List.sum_append, List.take_append_drop]
          have h3 : 0 ≤ (ws.drop (i + 1)).sum := sum_nn fun w h => by
            have := wok_iff.mp hwk w (List.mem_of_mem_drop h)
            omega
          omega
        (repeat walk_at "rd")
        refine rd_app el (by rw [List.length_map, fldF_len, List.length_take]; omega) ?_
        have e5 : Builtin.bitAnd (N / 2 ^ (8 * sizeF ws - (ws.take i).sum - wd).toNat) (2 ^ wd.toNat - 1) = N / 2 ^ (8 * sizeF ws - (ws.take i).sum - wd).toNat % 2 ^ wd.toNat := Bits.bitAnd_mask _ (Int.ediv_nonneg b1 (Int.le_of_lt (pow_nn _)))
        rw [e5]
        have nl0 : H l = none := s1.free nl
        refine .a ⟨Same.refl _, same_mut sm nl0, ?_, _, _, by rw [take_snoc hx, List.sum_append]; show _ = [_, _, _, _, _, some (V.int (8 * sizeF ws - ((ws.take i).sum + ([wd] : List Int).sum))), _, _]; rw [show 8 * sizeF ws - ((ws.take i).sum + ([wd] : List Int).sum) = 8 * sizeF ws - (ws.take i).sum - wd by simp; omega]; rfl⟩
        rw [upd_same, take_snoc hx, fldF_snoc, List.map_append]
        rfl
      · obtain ⟨_, sm, el, x2, y2, rfl⟩ := p.un
        rw [List.length_map, List.take_length] at el
        (repeat walk_at "rd")
        refine q ?_ l H' (s1.free nl) sm ?_
        · unfold unpOk
          rw [hwk, decide_eq_true (by omega)]
          rfl
        · rw [el]
          unfold unpF
          rw [hpre, hN]
def sp_u_law_two (K : PySem.W.Frag) : Sp := fun vs H Q _ => ∃ n : Int, vs = [.int n] ∧ n ≤ 100000 ∧ -100000 ≤ n ∧ Q (.int (2 ^ n.toNat)) H
@[irreducible] def ip_u_law_two (K : PySem.W.Frag) : Sp := sp_u_law_two K
theorem op_u_law_two {K : PySem.W.Frag} {vs : List V} {H : Hp} {Q : VK} {E : XK} (h : sp_u_law_two K vs H Q E) : ip_u_law_two K vs H Q E := by
  unfold ip_u_law_two
  exact h
theorem un_u_law_two {K : PySem.W.Frag} {vs : List V} {H : Hp} {Q : VK} {E : XK} (h : ip_u_law_two K vs H Q E) : sp_u_law_two K vs H Q E := by
  unfold ip_u_law_two at h
  exact h
theorem ok_u_law_two (T : Tx P w K mg base) : FnOk P w K mg base CX0 1 T.a_u_law_two T.d_u_law_two ["many"] (ip_u_law_two K) := by
  refine T.p_u_law_two.F.ok sc_u_law_two (fun vs H Q E h => ?_) (fun cdv A outer s H vs Q E hr h => ?_)
  · obtain ⟨n, rfl, h1, q⟩ := un_u_law_two h
    rfl
  · obtain ⟨n, rfl, h1, q⟩ := un_u_law_two h
    refine ⟨_, (pss_cons (ps_set (i := 1) sc_u_law_two.nd rfl (Or.inl rfl) pe_int) (pss_cons (ps_forR1 PassesOwn.never rfl rfl T.n_range (pa_cons (pv 0) pa_nil) (pg_name (i := 2) sc_u_law_two.nd rfl (Or.inl rfl)) (pss_one (ps_set (i := 1) sc_u_law_two.nd rfl (Or.inl rfl) (pe_op op_mulM pe_int (pv 1))))) (pss_one (ps_ret (pv 1))))), ?_⟩
    obtain ⟨h2, q⟩ := q
    (repeat walk_at "rd")
    refine rd_forR1 ?_
    (repeat walk_at "rd")
    refine ⟨n, fun i σ H' => Stop (H' = H ∧ ∃ v, σ = [some (.int n), some (.int (2 ^ i)), v]), rfl, ⟨h2, h1⟩, .a ⟨rfl, none, rfl⟩, fun i σ' H' hi p => ?_, fun σ' H' p => ?_⟩
    · obtain ⟨rfl, v, rfl⟩ := p.un
      (repeat walk_at "rd")
      refine .a ⟨rfl, some (.int (i : Nat)), ?_⟩
      rw [Int.pow_succ, Int.mul_comm]
      rfl
    · obtain ⟨rfl, v, rfl⟩ := p.un
      (repeat walk_at "rd")
      exact q
/-- all the tape's cells -/
def TapeOk (ns : List Int) : Prop := ∀ x ∈ ns, 0 ≤ x ∧ x < 1000
theorem tape_get {ns : List Int} (h : TapeOk ns) (k : Nat) : 0 ≤ ns.getD k 0 ∧ ns.getD k 0 < 1000 := by
  rw [List.getD_eq_getElem?_getD]
  cases e : ns[k]? with
  | none => exact ⟨Int.le_refl 0, by decide⟩
  | some x => exact h x (List.mem_of_getElem? e)
def sp_u_law_at (K : PySem.W.Frag) : Sp := fun vs H Q _ => ∃ (a : Addr) (ns : List Int) (k : Int), vs = [.ref a, .int k] ∧ SqL K H a (ns.map V.int) ∧ TapeOk ns ∧ 0 ≤ k ∧ (∀ x : Int, 0 ≤ x → x < 1000 → x = ns.getD k.toNat 0 → Q (.int x) H)
@[irreducible] def ip_u_law_at (K : PySem.W.Frag) : Sp := sp_u_law_at K
theorem op_u_law_at {K : PySem.W.Frag} {vs : List V} {H : Hp} {Q : VK} {E : XK} (h : sp_u_law_at K vs H Q E) : ip_u_law_at K vs H Q E := by
  unfold ip_u_law_at
  exact h
theorem un_u_law_at {K : PySem.W.Frag} {vs : List V} {H : Hp} {Q : VK} {E : XK} (h : ip_u_law_at K vs H Q E) : sp_u_law_at K vs H Q E := by
  unfold ip_u_law_at at h
  exact h
theorem ok_u_law_at (T : Tx P w K mg base) : FnOk P w K mg base CX0 1 T.a_u_law_at T.d_u_law_at ["tape", "k"] (ip_u_law_at K) := by
  refine T.p_u_law_at.F.ok sc_u_law_at (fun vs H Q E h => ?_) (fun cdv A outer s H vs Q E hr h => ?_)
  · obtain ⟨a, ns, k, rfl, hS, hn, hk, q⟩ := un_u_law_at h
    rfl
  · obtain ⟨a, ns, k, rfl, hS, hn, hk, q⟩ := un_u_law_at h
    refine ⟨_, (pss_cons (ps_ifM (pt_cmpR op_ltM (pv 1) (pe_callB call_lenM (by rfl) T.n_len PySem.boot_len (pa_cons (pv 0) pa_nil)) (nomark _)) (pss_one (ps_ret (pe_ix ix_listM (pv 0) (pv 1) (fun _ _ => rfl)))) pss_nil) (pss_one (ps_ret pe_int))), ?_⟩
    (repeat walk_at "rd")
    refine br_by (fun h => ?_) (fun h => ?_)
    · (repeat walk_at "rd")
      refine rd_ixI hS hk h ?_
      have hb := tape_get hn k.toNat
      exact q _ hb.1 hb.2 rfl
    · have e : ns.getD k.toNat 0 = 0 := by
        rw [List.getD_eq_getElem?_getD, List.getElem?_eq_none (by omega)]
        rfl
      (repeat walk_at "rd")
      exact q 0 (by decide) (by decide) e.symm
def sp_u_law_tape (K : PySem.W.Frag) : Sp := fun vs H Q _ => ∃ (a : Addr) (ns : List Int), vs = [.ref a] ∧ SqL K H a (ns.map V.int) ∧ ns.length ≤ 63 ∧ (∀ ts : List Int, TapeOk ts → NewO (.lst (ts.map V.int)) H Q)
/-- between two turns: the tape so far -/
structure TapeW (H : Hp) (a p : Addr) (m : Nat) (σ : L2.St) (H' : Hp) : Prop where
  sm : Same H H'
  np : H p = none
  tp : ∃ ts : List Int, H' p = some (.lst (ts.map V.int)) ∧ ts.length ≤ m ∧ TapeOk ts
  fr : ∃ x y z, σ = [some (.ref a), some (.ref p), x, y, z]
theorem tape_more {ts : List Int} (h : TapeOk ts) {x : Int} (h0 : 0 ≤ x) (h1 : x < 1000) : TapeOk (ts ++ [x]) := fun y hy => by
  rcases List.mem_append.mp hy with hy | hy
  · exact h y hy
  · rw [List.mem_singleton.mp hy]
    exact ⟨h0, h1⟩
@[irreducible] def ip_u_law_tape (K : PySem.W.Frag) : Sp := sp_u_law_tape K
theorem op_u_law_tape {K : PySem.W.Frag} {vs : List V} {H : Hp} {Q : VK} {E : XK} (h : sp_u_law_tape K vs H Q E) : ip_u_law_tape K vs H Q E := by
  unfold ip_u_law_tape
  exact h
theorem un_u_law_tape {K : PySem.W.Frag} {vs : List V} {H : Hp} {Q : VK} {E : XK} (h : ip_u_law_tape K vs H Q E) : sp_u_law_tape K vs H Q E := by
  unfold ip_u_law_tape at h
  exact h
theorem ok_u_law_tape (T : Tx P w K mg base) : FnOk P w K mg base CX0 1 T.a_u_law_tape T.d_u_law_tape ["script"] (ip_u_law_tape K) := by
  refine T.p_u_law_tape.F.ok sc_u_law_tape (fun vs H Q E h => ?_) (fun cdv A outer s H vs Q E hr h => ?_)
  · obtain ⟨a, ns, rfl, hS, hn, q⟩ := un_u_law_tape h
    rfl
  · obtain ⟨a, ns, rfl, hS, hn, q⟩ := un_u_law_tape h
    refine ⟨_, (pss_cons (ps_set (i := 1) sc_u_law_tape.nd rfl (Or.inl rfl) (pe_lstM pa_nil)) (pss_cons (ps_forR1 PassesOwn.never rfl rfl T.n_range (pa_cons (pe_callB call_lenM (by rfl) T.n_len PySem.boot_len (pa_cons (pv 0) pa_nil)) pa_nil) (pg_name (i := 2) sc_u_law_tape.nd rfl (Or.inl rfl)) (pss_cons (ps_set (i := 3) sc_u_law_tape.nd rfl (Or.inl rfl) (pe_callB call_abs (by rfl) T.n_abs (by decide +kernel) (pa_cons (pe_callTy call_int1 (by rfl) T.n_int (by decide +kernel) (pa_cons (pe_ix ix_listM (pv 0) (pv 2) (fun _ _ => rfl)) pa_nil)) pa_nil))) (pss_one (ps_ifM (pt_cmpR op_geM (pv 3) (pe_op op_powM pe_int pe_int) (nomark _)) (pss_one (ps_forR1 PassesOwn.never rfl rfl T.n_range (pa_cons pe_int pa_nil) (pg_name (i := 4) sc_u_law_tape.nd rfl (Or.inl rfl)) (pss_one (ps_ifM (pt_cmpR op_gtM (pv 3) pe_int (nomark _)) (pss_cons (ps_expr (pe_app (pv 1) (pe_op op_modM (pv 3) pe_int))) (pss_one (ps_set (i := 3) sc_u_law_tape.nd rfl (Or.inl rfl) (pe_op op_fdivM (pv 3) pe_int)))) pss_nil)))) (pss_one (ps_forR1 PassesOwn.never rfl rfl T.n_range (pa_cons pe_int pa_nil) (pg_name (i := 4) sc_u_law_tape.nd rfl (Or.inl rfl)) (pss_cons (ps_set (i := 3) sc_u_law_tape.nd rfl (Or.inl rfl) (pe_op op_modM (pe_op op_addM (pe_op op_addM (pe_op op_mulM (pv 3) pe_int) (pe_op op_mulM pe_int (pe_op op_addM (pv 2) pe_int))) (pe_op op_mulM pe_int (pv 4))) pe_int)) (pss_cons (ps_set (i := 3) sc_u_law_tape.nd rfl (Or.inl rfl) (pe_op op_modM (pe_op op_mulM (pv 3) pe_int) pe_int)) (pss_one (ps_expr (pe_app (pv 1) (pe_op op_modM (pe_op op_fdivM (pv 3) pe_int) pe_int)))))))))))) (pss_one (ps_ret (pv 1))))), ?_⟩
    refine rd_lst ?_
    (repeat walk_at "rd")
    intro p H1 np s1 e1
    refine rd_forR1 ?_
    (repeat walk_at "rd")
    refine ⟨_, fun i σ H' => Stop (TapeW H a p (60 * i) σ H'), rfl, ⟨by omega, by omega⟩, .a ⟨s1, np, ⟨[], e1, Nat.zero_le _, fun x hx => by cases hx⟩, ⟨_, _, _, rfl⟩⟩, fun i σ' H' hi w => ?_, fun σ' H' w => ?_⟩
    · obtain ⟨sm, _, ⟨ts, etp, hts, htok⟩, x, y, z, rfl⟩ := w.un
      (repeat walk_at "rd")
      refine rd_ixI (by walk_at "sq") (by omega) (by omega) ?_
      (repeat walk_at "rd")
      generalize hv : ns.getD _ 0 = v
      have hneg : ∃ u : Int, (if v < 0 then -v else v) = u ∧ 0 ≤ u := by
        refine ⟨_, rfl, ?_⟩
        split <;> omega
      obtain ⟨u, eu, hu⟩ := hneg
      rw [eu]
      refine br_by (fun h => ?_) (fun h => ?_)
      · refine rd_forR1 ?_
        (repeat walk_at "rd")
        refine ⟨_, fun j σ H'' => Stop (TapeW H a p (60 * i + j) σ H'' ∧ ∃ u z, 0 ≤ u ∧ σ = [some (.ref a), some (.ref p), some (.int (i : Nat)), some (.int u), z]), rfl, ⟨by decide, by decide⟩, .a ⟨⟨sm, np, ⟨ts, etp, hts, htok⟩, ⟨_, _, _, rfl⟩⟩, u, z, hu, rfl⟩, fun j σ2 H2 hj w2 => ?_, fun σ2 H2 w2 => ?_⟩
        · obtain ⟨⟨sm2, _, ⟨ts2, etp2, hts2, htok2⟩, _⟩, u2, z2, hu2, rfl⟩ := w2.un
          (repeat walk_at "rd")
          refine br_by (fun h3 => ?_) (fun h3 => ?_)
          · (repeat walk_at "rd")
            refine rd_app etp2 (by rw [List.length_map]; omega) ?_
            (repeat walk_at "rd")
            refine .a ⟨⟨same_mut sm2 np, np, ⟨ts2 ++ [u2 % 1000], ?_, by rw [List.length_append, List.length_singleton]; omega, tape_more htok2 (by omega) (by omega)⟩, ⟨_, _, _, rfl⟩⟩, u2 / 1000, _, by omega, rfl⟩
            rw [upd_same, List.map_append]
            rfl
          · exact .a ⟨⟨sm2, np, ⟨ts2, etp2, by omega, htok2⟩, ⟨_, _, _, rfl⟩⟩, u2, _, hu2, rfl⟩
        · obtain ⟨⟨sm2, _, ⟨ts2, etp2, hts2, htok2⟩, _⟩, u2, z2, hu2, rfl⟩ := w2.un
          exact .a ⟨sm2, np, ⟨ts2, etp2, by omega, htok2⟩, ⟨_, _, _, rfl⟩⟩
      · refine rd_forR1 ?_
        (repeat walk_at "rd")
        refine ⟨_, fun j σ H'' => Stop (TapeW H a p (60 * i + j) σ H'' ∧ ∃ u z, 0 ≤ u ∧ σ = [some (.ref a), some (.ref p), some (.int (i : Nat)), some (.int u), z]), rfl, ⟨by decide, by decide⟩, .a ⟨⟨sm, np, ⟨ts, etp, hts, htok⟩, ⟨_, _, _, rfl⟩⟩, u, z, hu, rfl⟩, fun j σ2 H2 hj w2 => ?_, fun σ2 H2 w2 => ?_⟩
        · obtain ⟨⟨sm2, _, ⟨ts2, etp2, hts2, htok2⟩, _⟩, u2, z2, hu2, rfl⟩ := w2.un
          (repeat walk_at "rd")
          refine rd_app etp2 (by rw [List.length_map]; omega) ?_
          refine .a ⟨⟨same_mut sm2 np, np, ⟨ts2 ++ [?w], ?h1, ?h2, tape_more htok2 ?h3 ?h4⟩, ⟨_, _, _, rfl⟩⟩, ?u, ?z, ?h5, ?h6⟩
          case h1 =>
            rw [upd_same, List.map_append]
            rfl
          case h6 => rfl
          case h2 =>
            rw [List.length_append, List.length_singleton]
            omega
          all_goals omega
        · obtain ⟨⟨sm2, _, ⟨ts2, etp2, hts2, htok2⟩, _⟩, u2, z2, hu2, rfl⟩ := w2.un
          exact .a ⟨sm2, np, ⟨ts2, etp2, by omega, htok2⟩, ⟨_, _, _, rfl⟩⟩
    · obtain ⟨sm, _, ⟨ts, etp, hts, htok⟩, x, y, z, rfl⟩ := w.un
      (repeat walk_at "rd")
      exact q ts htok p _ np sm etp
end
/-! pieces: the mathematics -/
def hasOff (part : Int) : Bool := decide (part = 2) || decide (part = 3)
def dataW (bits part : Int) : List Int := if hasOff part = true then [1, 1, bits, 2, 8] else [1, 1, bits, 2]
def dataVals (poll : Bool) (sn part off : Int) : List Int := if hasOff part = true then [0, if poll = true then 1 else 0, sn, part, off] else [0, if poll = true then 1 else 0, sn, part]
def dataF (bits : Int) (poll : Bool) (number part off : Int) (body : List Int) : List Int := packF (dataW bits part) (dataVals poll (number % 2 ^ bits.toNat) part off) ++ body
inductive Parts where
  | data (poll : Bool) (number part off : Int) (body : List Int)
  | status (upto : Int) (ms : List (Int × Int × Int))
def statusBytes (bits count : Int) : Int := (5 + bits + count * (bits + 16) + 7) / 8
def statusW (bits : Int) (n : Nat) : List Int := [1, bits, 4] ++ (List.replicate n [bits, 8, 8]).flatten
def statusVals (bits upto : Int) (ms : List (Int × Int × Int)) : List Int := [1, upto % 2 ^ bits.toNat, (ms.length : Int)] ++ ms.flatMap fun r => [r.1 % 2 ^ bits.toNat, r.2.1, r.2.2]
def statusF (bits upto : Int) (ms : List (Int × Int × Int)) : List Int := packF (statusW bits ms.length) (statusVals bits upto ms)
def rowsOf (told : List Int) (n : Nat) : List (Int × Int × Int) := (List.range n).map fun i => (told.getD (3 * i) 0, told.getD (3 * i + 1) 0, told.getD (3 * i + 2) 0)
def readData (bits : Int) (piece : List Int) : Option Parts :=
  if (piece.length : Int) < sizeF [1, 1, bits, 2] then none
  else if (piece.length : Int) ≤ sizeF (dataW bits ((unpF [1, 1, bits, 2] piece).getD 3 0)) then none
  else some (.data (decide ((unpF [1, 1, bits, 2] piece).getD 1 0 = 1)) ((unpF [1, 1, bits, 2] piece).getD 2 0) ((unpF [1, 1, bits, 2] piece).getD 3 0)
    (if hasOff ((unpF [1, 1, bits, 2] piece).getD 3 0) = true then (unpF (dataW bits ((unpF [1, 1, bits, 2] piece).getD 3 0)) piece).getD 4 0 else 0)
    (piece.drop (sizeF (dataW bits ((unpF [1, 1, bits, 2] piece).getD 3 0))).toNat))
def readStatus (bits : Int) (piece : List Int) : Option Parts :=
  if (piece.length : Int) < sizeF [1, bits, 4] then none
  else if 8 < (unpF [1, bits, 4] piece).getD 2 0 ∨ (piece.length : Int) ≠ statusBytes bits ((unpF [1, bits, 4] piece).getD 2 0) then none
  else some (.status ((unpF [1, bits, 4] piece).getD 1 0) (rowsOf ((unpF (statusW bits ((unpF [1, bits, 4] piece).getD 2 0).toNat) piece).drop 3) ((unpF [1, bits, 4] piece).getD 2 0).toNat))
def readF (bits : Int) (piece : List Int) : Option Parts :=
  if piece.length = 0 then none else if (unpF [1] piece).getD 0 0 = 0 then readData bits piece else readStatus bits piece

theorem fldF_app (N : Int) : ∀ (ws us : List Int) (u : Int), fldF N u (ws ++ us) = fldF N u ws ++ fldF N (u - ws.sum) us
  | [], us, u => by
    show fldF N u us = [] ++ fldF N (u - 0) us
    rw [Int.sub_zero]
    rfl
  | x :: r, us, u => by
    show _ :: fldF N (u - x) (r ++ us) = _ :: fldF N (u - x) r ++ _
    rw [fldF_app N r, List.sum_cons]
    have e : u - x - r.sum = u - (x + r.sum) := by omega
    rw [e]
    rfl
theorem fldF_length (N : Int) : ∀ (ws : List Int) (u : Int), (fldF N u ws).length = ws.length
  | [], _ => rfl
  | x :: r, u => by
    show (fldF N (u - x) r).length + 1 = r.length + 1
    rw [fldF_length N r]
theorem fldF_shift (N : Int) (d : Nat) : ∀ (ws : List Int) (u : Int), (∀ w ∈ ws, 0 ≤ w) → ws.sum ≤ u → fldF N (u + d) ws = fldF (N / 2 ^ d) u ws
  | [], _, _, _ => rfl
  | x :: r, u, h, hu => by
    rw [List.sum_cons] at hu
    have hx := h x List.mem_cons_self
    have hr : 0 ≤ r.sum := sum_nn fun w hw => h w (List.mem_cons_of_mem _ hw)
    show _ :: _ = _ :: _
    have e : u + (d : Int) - x = u - x + d := by omega
    rw [e, fldF_shift N d r (u - x) (fun w hw => h w (List.mem_cons_of_mem _ hw)) (by omega)]
    congr 1
    have e2 : (u - x + (d : Int)).toNat = d + (u - x).toNat := by omega
    rw [e2, pow_add2, ← Int.ediv_ediv_of_nonneg (Int.le_of_lt (pow_nn d))]
theorem num256_app (xs ys : List Int) : num256 (xs ++ ys) = num256 xs * 2 ^ (8 * ys.length) + num256 ys := by
  have key : ∀ (ys : List Int) (z : Int), ys.foldl (fun r d => r * 2 ^ 8 + d) z = z * 2 ^ (8 * ys.length) + num256 ys := by
    intro ys
    induction ys with
    | nil => intro z; show z = z * 2 ^ 0 + 0; simp
    | cons y r ih =>
      intro z
      rw [List.foldl_cons, ih]
      show _ = z * 2 ^ (8 * (r.length + 1)) + List.foldl _ (0 * 2 ^ 8 + y) r
      rw [ih, Nat.mul_add, pow_add2, Int.zero_mul, Int.zero_add, Int.add_mul]
      have : z * 2 ^ 8 * 2 ^ (8 * r.length) = z * (2 ^ (8 * r.length) * 2 ^ (8 * 1)) := by
        rw [Int.mul_assoc, Int.mul_comm (2 ^ 8)]
      omega
  unfold num256
  rw [List.foldl_append]
  exact key ys _
/-- the fields ahead do not hang on those behind -/
theorem unp_app {ws us ds : List Int} (hw : ∀ w ∈ ws ++ us, 0 ≤ w) (hd : ∀ d ∈ ds, 0 ≤ d ∧ d < 256) (hl : sizeF (ws ++ us) ≤ (ds.length : Int)) :
    unpF (ws ++ us) ds = unpF ws ds ++ fldF (num256 (ds.take (sizeF (ws ++ us)).toNat)) (8 * sizeF (ws ++ us) - ws.sum) us := by
  unfold unpF
  rw [fldF_app]
  congr 1
  have h1 : 0 ≤ ws.sum := sum_nn fun w h => hw w (List.mem_append_left _ h)
  have h2 : 0 ≤ us.sum := sum_nn fun w h => hw w (List.mem_append_right _ h)
  have e0 : (ws ++ us).sum = ws.sum + us.sum := List.sum_append
  have hs : 0 ≤ sizeF ws ∧ sizeF ws ≤ sizeF (ws ++ us) ∧ ws.sum ≤ 8 * sizeF ws := by unfold sizeF; rw [e0]; omega
  generalize hs' : sizeF (ws ++ us) = s' at *
  generalize hs2 : sizeF ws = s at *
  have e1 : ds.take s'.toNat = ds.take s.toNat ++ (ds.drop s.toNat).take (s'.toNat - s.toNat) := by
    rw [← List.take_add]
    congr 1
    omega
  have hlen : ((ds.drop s.toNat).take (s'.toNat - s.toNat)).length = s'.toNat - s.toNat := by
    rw [List.length_take, List.length_drop]
    omega
  have e2 : 8 * s' = 8 * s + ((8 * (s'.toNat - s.toNat) : Nat) : Int) := by omega
  rw [e2, fldF_shift _ _ ws (8 * s) (fun w h => hw w (List.mem_append_left _ h)) hs.2.2]
  congr 1
  rw [e1, num256_app, hlen]
  obtain ⟨b1, b2⟩ := num256_bound ((ds.drop s.toNat).take (s'.toNat - s.toNat)) fun d h => hd d (List.mem_of_mem_drop (List.mem_of_mem_take h))
  rw [hlen] at b2
  rw [Int.add_comm, Int.add_mul_ediv_right _ _ (Int.ne_of_gt (pow_nn _)), Int.ediv_eq_zero_of_lt b1 b2, Int.zero_add]
theorem unpF_length (ws ds : List Int) : (unpF ws ds).length = ws.length := fldF_length _ _ _
theorem packF_length {ws vs : List Int} (h : wok ws = true) : ((packF ws vs).length : Int) = sizeF ws := by
  have e : (packF ws vs).length = (sizeF ws).toNat := bytesOf_length _ _
  have h0 : 0 ≤ ws.sum := sum_nn fun w hw => by have := wok_iff.mp h w hw; omega
  rw [e]
  unfold sizeF
  omega
theorem packF_byte {ws vs : List Int} {d : Int} (h : d ∈ packF ws vs) : 0 ≤ d ∧ d < 256 := by
  unfold packF bytesOf at h
  obtain ⟨k, _, rfl⟩ := List.mem_map.mp h
  exact byteAt_bound _ _ _
/-- fields packed and read by a beginning of their widths -/
theorem unp_pack_pre {ws us vs es : List Int} (h : okF (ws ++ us) vs = true) (he : ∀ d ∈ es, 0 ≤ d ∧ d < 256) : unpF ws (packF (ws ++ us) vs ++ es) = vs.take ws.length := by
  have hw := okF_wok h
  have k := unp_pack (es := es) h
  have hb : ∀ d ∈ packF (ws ++ us) vs ++ es, 0 ≤ d ∧ d < 256 := fun d hd => by
    rcases List.mem_append.mp hd with hd | hd
    · exact packF_byte hd
    · exact he d hd
  have hl := packF_length (vs := vs) hw
  rw [unp_app (fun w hw' => by have := wok_iff.mp hw w hw'; omega) hb (by rw [List.length_append]; omega)] at k
  have k2 := congrArg (List.take ws.length) k
  rw [List.take_append_of_le_length (by rw [unpF_length]; omega), List.take_of_length_le (by rw [unpF_length]; omega)] at k2
  exact k2
theorem okF_cons {w v : Int} {ws vs : List Int} : okF (w :: ws) (v :: vs) = (okP (w, v) && okF ws vs) := by
  unfold okF
  rw [List.zip_cons_cons, List.all_cons, List.length_cons, List.length_cons]
  by_cases h : ws.length = vs.length
  · rw [decide_eq_true h, decide_eq_true (by omega), Bool.true_and, Bool.true_and]
  · rw [decide_eq_false h, decide_eq_false (by omega), Bool.false_and, Bool.false_and, Bool.and_false]
theorem okF_nil : okF [] [] = true := rfl
theorem okP_lit {w v : Int} (h1 : 1 ≤ w) (h2 : 0 ≤ v) (h3 : v < 2 ^ w.toNat) : okP (w, v) = true := okP_iff.mpr ⟨h1, h2, h3⟩
theorem data_ok {bits sn part off : Int} {poll : Bool} (hb : 1 ≤ bits) (hs : 0 ≤ sn ∧ sn < 2 ^ bits.toNat) (hp : 0 ≤ part ∧ part < 4) (ho : 0 ≤ off ∧ off < 256) : okF (dataW bits part) (dataVals poll sn part off) = true := by
  have e1 : (2 : Int) ^ (1 : Int).toNat = 2 := by decide
  have e2 : (2 : Int) ^ (2 : Int).toNat = 4 := by decide
  have e8 : (2 : Int) ^ (8 : Int).toNat = 256 := by decide
  have hpo : (0 : Int) ≤ (if poll = true then 1 else 0) ∧ (if poll = true then (1 : Int) else 0) < 2 := by cases poll <;> decide
  unfold dataW dataVals
  by_cases h : hasOff part = true
  · rw [if_pos h, if_pos h, okF_cons, okF_cons, okF_cons, okF_cons, okF_cons, okF_nil, okP_lit (by decide) (by decide) (by decide), okP_lit (by decide) hpo.1 (by rw [e1]; exact hpo.2), okP_lit hb hs.1 hs.2, okP_lit (by decide) hp.1 (by rw [e2]; exact hp.2), okP_lit (by decide) ho.1 (by rw [e8]; exact ho.2)]
    rfl
  · rw [if_neg h, if_neg h, okF_cons, okF_cons, okF_cons, okF_cons, okF_nil, okP_lit (by decide) (by decide) (by decide), okP_lit (by decide) hpo.1 (by rw [e1]; exact hpo.2), okP_lit hb hs.1 hs.2, okP_lit (by decide) hp.1 (by rw [e2]; exact hp.2)]
    rfl
/-- a data piece, read -/
theorem read_data {bits number part off : Int} {poll : Bool} {body : List Int} (hb : 1 ≤ bits) (hp : 0 ≤ part ∧ part < 4) (ho : 0 ≤ off ∧ off < 256) (hy : ∀ d ∈ body, 0 ≤ d ∧ d < 256) (hne : body ≠ []) :
    readF bits (dataF bits poll number part off body) = some (.data poll (number % 2 ^ bits.toNat) part (if hasOff part = true then off else 0) body) := by
  have hsn : 0 ≤ number % 2 ^ bits.toNat ∧ number % 2 ^ bits.toNat < 2 ^ bits.toNat := ⟨Int.emod_nonneg _ (Int.ne_of_gt (pow_nn _)), Int.emod_lt_of_pos _ (pow_nn _)⟩
  unfold dataF
  generalize number % 2 ^ bits.toNat = sn at hsn
  have hok := data_ok (poll := poll) hb hsn hp ho
  have hw := okF_wok hok
  have hl := packF_length (vs := dataVals poll sn part off) hw
  have hbl : 0 < body.length := List.length_pos_iff.mpr hne
  have hsz : 1 ≤ sizeF (dataW bits part) ∧ sizeF [1, 1, bits, 2] ≤ sizeF (dataW bits part) := by
    unfold dataW sizeF
    split <;> simp <;> omega
  generalize hP : packF (dataW bits part) (dataVals poll sn part off) = P at *
  -- the prefixes
  have u1 : unpF [1] (P ++ body) = [0] := by
    by_cases h : hasOff part = true
    · have e : dataW bits part = [1] ++ [1, bits, 2, 8] := by unfold dataW; rw [if_pos h]; rfl
      rw [← hP, e]
      rw [e] at hok
      rw [unp_pack_pre hok hy]
      unfold dataVals
      rw [if_pos h]
      rfl
    · have e : dataW bits part = [1] ++ [1, bits, 2] := by unfold dataW; rw [if_neg h]; rfl
      rw [← hP, e]
      rw [e] at hok
      rw [unp_pack_pre hok hy]
      unfold dataVals
      rw [if_neg h]
      rfl
  have u4 : unpF [1, 1, bits, 2] (P ++ body) = [0, if poll = true then 1 else 0, sn, part] := by
    by_cases h : hasOff part = true
    · have e : dataW bits part = [1, 1, bits, 2] ++ [8] := by unfold dataW; rw [if_pos h]; rfl
      rw [← hP, e]
      rw [e] at hok
      rw [unp_pack_pre hok hy]
      unfold dataVals
      rw [if_pos h]
      rfl
    · have e : dataW bits part = [1, 1, bits, 2] ++ [] := by unfold dataW; rw [if_neg h]; rfl
      rw [← hP, e]
      rw [e] at hok
      rw [unp_pack_pre hok hy]
      unfold dataVals
      rw [if_neg h]
      rfl
  have u5 : unpF (dataW bits part) (P ++ body) = dataVals poll sn part off := by
    rw [← hP]
    exact unp_pack hok
  unfold readF
  rw [if_neg (by rw [List.length_append]; omega), u1, if_pos (show ([0] : List Int).getD 0 0 = 0 from rfl)]
  unfold readData
  rw [u4]
  show (if _ then none else if ((P ++ body).length : Int) ≤ sizeF (dataW bits part) then none else some (Parts.data (decide ((if poll = true then (1 : Int) else 0) = 1)) sn part (if hasOff part = true then (unpF (dataW bits part) (P ++ body)).getD 4 0 else 0) ((P ++ body).drop (sizeF (dataW bits part)).toNat))) = _
  rw [if_neg (by rw [List.length_append]; omega), if_neg (by rw [List.length_append]; omega), u5]
  have e1 : decide ((if poll = true then (1 : Int) else 0) = 1) = poll := by cases poll <;> rfl
  have e2 : (P ++ body).drop (sizeF (dataW bits part)).toNat = body := by
    have : (sizeF (dataW bits part)).toNat = P.length := by omega
    rw [this]
    exact List.drop_left
  rw [e1, e2]
  congr 2
  by_cases h : hasOff part = true
  · rw [if_pos h, if_pos h]
    unfold dataVals
    rw [if_pos h]
    rfl
  · rw [if_neg h, if_neg h]
/-- what a reader hands back, as it stands in a heap -/
def rowV (r : Int × Int × Int) : List V := [.int r.1, .int r.2.1, .int r.2.2]
structure RowsAt (H : Hp) (a : Addr) (ms : List (Int × Int × Int)) : Prop where
  ex : ∃ ps : List Addr, H a = some (.lst (ps.map V.ref)) ∧ ps.length = ms.length ∧ ∀ (i : Nat) (p : Addr) (r : Int × Int × Int), ps[i]? = some p → ms[i]? = some r → H p = some (.tup (rowV r))
theorem RowsAt.mono {H H' : Hp} {a : Addr} {ms : List (Int × Int × Int)} (h : RowsAt H a ms) (s : Same H H') : RowsAt H' a ms := by
  obtain ⟨ps, h1, h2, h3⟩ := h.ex
  exact ⟨ps, s _ _ h1, h2, fun i p r e1 e2 => s _ _ (h3 i p r e1 e2)⟩
def PartsAt (H : Hp) (v : V) : Option Parts → Prop
  | none => v = .non
  | some (.data poll n part off body) => ∃ p b, v = .ref p ∧ H p = some (.tup [.str "data", .bl poll, .int n, .int part, .int off, .ref b]) ∧ H b = some (.lst (body.map V.int))
  | some (.status upto ms) => ∃ p m, v = .ref p ∧ H p = some (.tup [.str "status", .int upto, .ref m]) ∧ RowsAt H m ms
def rowD (r : Int × Int × Int) : PyData := .tuple [.int r.1, .int r.2.1, .int r.2.2]
def partsD : Option Parts → PyData
  | none => .none
  | some (.data poll n part off body) => .tuple [.str "data", .bool poll, .int n, .int part, .int off, .list (body.map PyData.int)]
  | some (.status upto ms) => .tuple [.str "status", .int upto, .list (ms.map rowD)]
theorem dpa_rows {K : PySem.W.Frag} {H : Hp} : ∀ {ps : List Addr} {ms : List (Int × Int × Int)}, ps.length = ms.length → (∀ (i : Nat) (p : Addr) (r : Int × Int × Int), ps[i]? = some p → ms[i]? = some r → H p = some (.tup (rowV r))) → DpAll K H (ps.map V.ref) (ms.map rowD)
  | [], [], _, _ => .nil
  | p :: ps, r :: ms, hl, h => .cons (.tup (st_of (h 0 p r rfl rfl)) (.cons (.int _) (.cons (.int _) (.cons (.int _) .nil)))) (dpa_rows (by simpa using hl) fun i q x e1 e2 => h (i + 1) q x e1 e2)
theorem RowsAt.dp {K : PySem.W.Frag} {H : Hp} {a : Addr} {ms : List (Int × Int × Int)} (h : RowsAt H a ms) : Dp K H (.ref a) (.list (ms.map rowD)) := by
  obtain ⟨ps, h1, h2, h3⟩ := h.ex
  exact .lst (sq_of h1) (dpa_rows h2 h3)
theorem sh_rows (ms : List (Int × Int × Int)) : Sh 2 (.list (ms.map rowD)) := sh_lst (sh_map (fun r => sh_tup (sh_cons sh_int (sh_cons sh_int (sh_cons sh_int sh_nil)))) ms)
theorem PartsAt.dp {K : PySem.W.Frag} {H : Hp} {v : V} {r : Option Parts} (h : PartsAt H v r) : Dp K H v (partsD r) := by
  match r, h with
  | none, h =>
    rw [show v = .non from h]
    exact .non
  | some (.data poll n part off body), h =>
    obtain ⟨p, b, rfl, h1, h2⟩ := h
    exact .tup (st_of h1) (.cons (.str _) (.cons (.bl _) (.cons (.int _) (.cons (.int _) (.cons (.int _) (.cons (dp_ints (sq_of h2)) .nil))))))
  | some (.status upto ms), h =>
    obtain ⟨p, m, rfl, h1, h2⟩ := h
    exact .tup (st_of h1) (.cons (.str _) (.cons (.int _) (.cons h2.dp .nil)))
theorem sh_parts : ∀ r : Option Parts, Sh 3 (partsD r)
  | none => sh_non
  | some (.data _ _ _ _ body) => sh_tup (sh_cons (sh_str (by decide +kernel)) (sh_cons sh_bl (sh_cons sh_int (sh_cons sh_int (sh_cons sh_int (sh_cons (sh_lst (sh_ints body)) sh_nil))))))
  | some (.status _ ms) => sh_tup (sh_cons (sh_str (by decide +kernel)) (sh_cons sh_int (sh_cons (sh_rows ms) sh_nil)))
theorem PartsAt.mono {H H' : Hp} {v : V} {r : Option Parts} (h : PartsAt H v r) (s : Same H H') : PartsAt H' v r := by
  match r, h with
  | none, h => exact h
  | some (.data poll n part off body), h =>
    obtain ⟨p, b, e, h1, h2⟩ := h
    exact ⟨p, b, e, s _ _ h1, s _ _ h2⟩
  | some (.status upto ms), h =>
    obtain ⟨p, m, e, h1, h2⟩ := h
    exact ⟨p, m, e, s _ _ h1, h2.mono s⟩
theorem cutV_from {ds : List Int} {k : Int} (h0 : 0 ≤ k) : cutV (ds.map V.int) (some k) none = (ds.drop k.toNat).map V.int := by
  unfold cutV
  have e : k = ((k.toNat : Nat) : Int) := by omega
  rw [HT.sIx_none]
  rw [e, HT.sIx_nat, Int.toNat_natCast, List.length_map, ← List.map_drop, ← List.map_take]
  congr 1
  by_cases h : k.toNat ≤ ds.length
  · rw [Nat.min_eq_left h, List.take_of_length_le (by rw [List.length_drop]; omega)]
  · rw [Nat.min_eq_right (by omega), Nat.sub_self, List.take_zero, List.drop_eq_nil_of_le (by omega)]
theorem size_data {bits part : Int} (h : 1 ≤ bits) (h2 : bits ≤ 100) : 1 ≤ sizeF (dataW bits part) ∧ sizeF (dataW bits part) ≤ 20 := by
  unfold dataW sizeF
  split <;> simp <;> omega
theorem dataW_wok {bits part : Int} (h : 1 ≤ bits) : wok (dataW bits part) = true := by
  rw [wok_iff]
  unfold dataW
  intro w hw
  split at hw <;> simp at hw <;> omega
theorem dataW_le {bits part : Int} (h : bits ≤ 100) : ∀ w ∈ dataW bits part, w ≤ 1000 := by
  unfold dataW
  intro w hw
  split at hw <;> simp at hw <;> omega
theorem dataW_len (bits part : Int) : (dataW bits part).length ≤ 5 := by
  unfold dataW
  split <;> exact Nat.le_of_ble_eq_true rfl
section
variable {P : Program} {w : World} {K : PySem.W.Frag} {mg : Str → Option Value} {base : Heap}
def sp_u_has_offset (K : PySem.W.Frag) : Sp := fun vs H Q _ => ∃ p : Int, vs = [.int p] ∧ Q (.bl (hasOff p)) H
@[irreducible] def ip_u_has_offset (K : PySem.W.Frag) : Sp := sp_u_has_offset K
theorem op_u_has_offset {K : PySem.W.Frag} {vs : List V} {H : Hp} {Q : VK} {E : XK} (h : sp_u_has_offset K vs H Q E) : ip_u_has_offset K vs H Q E := by
  unfold ip_u_has_offset
  exact h
theorem un_u_has_offset {K : PySem.W.Frag} {vs : List V} {H : Hp} {Q : VK} {E : XK} (h : ip_u_has_offset K vs H Q E) : sp_u_has_offset K vs H Q E := by
  unfold ip_u_has_offset at h
  exact h
theorem ok_u_has_offset (T : Tx P w K mg base) : FnOk P w K mg base CX0 1 T.a_u_has_offset T.d_u_has_offset ["part"] (ip_u_has_offset K) := by
  refine T.p_u_has_offset.F.ok sc_u_has_offset (fun vs H Q E h => ?_) (fun cdv A outer s H vs Q E hr h => ?_)
  · obtain ⟨p, rfl, q⟩ := un_u_has_offset h
    rfl
  · obtain ⟨p, rfl, q⟩ := un_u_has_offset h
    refine ⟨_, (pss_one (ps_ret (pe_orM (pe_cmpR op_eq (pv 0) (pe_gint rfl T.g_END) (nomark _)) (pe_one (pe_cmpR op_eq (pv 0) (pe_gint rfl T.g_WITHIN) (nomark _)))))), ?_⟩
    (repeat walk_at "rd")
    refine br_eby (fun h => ?_) (fun h => ?_)
    · (repeat walk_at "rd")
      refine q_bl q ?_
      unfold hasOff
      rw [decide_eq_true h]
      rfl
    · (repeat walk_at "rd")
      refine q_bl q ?_
      unfold hasOff
      rw [decide_eq_false h, Bool.false_or]
      by_cases h3 : p = 3
      · rw [decide_eq_true h3, decide_eq_true (congrArg V.int h3)]
      · rw [decide_eq_false h3, decide_eq_false fun e => h3 (V.int.inj e)]
def sp_u_data_widths (K : PySem.W.Frag) : Sp := fun vs H Q _ => ∃ b p : Int, vs = [.int b, .int p] ∧ NewO (.lst ((dataW b p).map V.int)) H Q
@[irreducible] def ip_u_data_widths (K : PySem.W.Frag) : Sp := sp_u_data_widths K
theorem op_u_data_widths {K : PySem.W.Frag} {vs : List V} {H : Hp} {Q : VK} {E : XK} (h : sp_u_data_widths K vs H Q E) : ip_u_data_widths K vs H Q E := by
  unfold ip_u_data_widths
  exact h
theorem un_u_data_widths {K : PySem.W.Frag} {vs : List V} {H : Hp} {Q : VK} {E : XK} (h : ip_u_data_widths K vs H Q E) : sp_u_data_widths K vs H Q E := by
  unfold ip_u_data_widths at h
  exact h
theorem ok_u_data_widths (T : Tx P w K mg base) : FnOk P w K mg base CX0 2 T.a_u_data_widths T.d_u_data_widths ["bits", "part"] (ip_u_data_widths K) := by
  have G_u_has_offset := ok_u_has_offset T
  refine T.p_u_data_widths.F.ok sc_u_data_widths (fun vs H Q E h => ?_) (fun cdv A outer s H vs Q E hr h => ?_)
  · obtain ⟨b, p, rfl, q⟩ := un_u_data_widths h
    rfl
  · obtain ⟨b, p, rfl, q⟩ := un_u_data_widths h
    refine ⟨_, (pss_cons (ps_ifM (pt_val (pe_call G_u_has_offset (hr.mono (by decide)) rfl T.p_u_has_offset.m T.p_u_has_offset.F.kp T.p_u_has_offset.b .nil pass0 (pa_cons (pv 1) pa_nil))) (pss_one (ps_ret (pe_lstM (pa_cons pe_int (pa_cons pe_int (pa_cons (pv 0) (pa_cons pe_int (pa_cons pe_int pa_nil)))))))) pss_nil) (pss_one (ps_ret (pe_lstM (pa_cons pe_int (pa_cons pe_int (pa_cons (pv 0) (pa_cons pe_int pa_nil)))))))), ?_⟩
    (repeat walk_at "rd")
    refine op_u_has_offset ⟨p, rfl, ?_⟩
    (repeat walk_at "rd")
    unfold dataW at q
    refine br_b (fun h => ?_) (fun h => ?_)
    · rw [if_pos h] at q
      (repeat walk_at "rd")
      exact q
    · rw [if_neg (by rw [h]; decide)] at q
      (repeat walk_at "rd")
      exact q
def sp_u_status_head (K : PySem.W.Frag) : Sp := fun vs H Q _ => ∃ b : Int, vs = [.int b] ∧ NewO (.lst (([1, b, 4] : List Int).map V.int)) H Q
@[irreducible] def ip_u_status_head (K : PySem.W.Frag) : Sp := sp_u_status_head K
theorem op_u_status_head {K : PySem.W.Frag} {vs : List V} {H : Hp} {Q : VK} {E : XK} (h : sp_u_status_head K vs H Q E) : ip_u_status_head K vs H Q E := by
  unfold ip_u_status_head
  exact h
theorem un_u_status_head {K : PySem.W.Frag} {vs : List V} {H : Hp} {Q : VK} {E : XK} (h : ip_u_status_head K vs H Q E) : sp_u_status_head K vs H Q E := by
  unfold ip_u_status_head at h
  exact h
theorem ok_u_status_head (T : Tx P w K mg base) : FnOk P w K mg base CX0 1 T.a_u_status_head T.d_u_status_head ["bits"] (ip_u_status_head K) := by
  refine T.p_u_status_head.F.ok sc_u_status_head (fun vs H Q E h => ?_) (fun cdv A outer s H vs Q E hr h => ?_)
  · obtain ⟨b, rfl, q⟩ := un_u_status_head h
    rfl
  · obtain ⟨b, rfl, q⟩ := un_u_status_head h
    refine ⟨_, (pss_one (ps_ret (pe_lstM (pa_cons pe_int (pa_cons (pv 0) (pa_cons pe_int pa_nil)))))), ?_⟩
    (repeat walk_at "rd")
    exact q
def sp_u_range_widths (K : PySem.W.Frag) : Sp := fun vs H Q _ => ∃ b : Int, vs = [.int b] ∧ NewO (.lst (([b, 8, 8] : List Int).map V.int)) H Q
@[irreducible] def ip_u_range_widths (K : PySem.W.Frag) : Sp := sp_u_range_widths K
theorem op_u_range_widths {K : PySem.W.Frag} {vs : List V} {H : Hp} {Q : VK} {E : XK} (h : sp_u_range_widths K vs H Q E) : ip_u_range_widths K vs H Q E := by
  unfold ip_u_range_widths
  exact h
theorem un_u_range_widths {K : PySem.W.Frag} {vs : List V} {H : Hp} {Q : VK} {E : XK} (h : ip_u_range_widths K vs H Q E) : sp_u_range_widths K vs H Q E := by
  unfold ip_u_range_widths at h
  exact h
theorem ok_u_range_widths (T : Tx P w K mg base) : FnOk P w K mg base CX0 1 T.a_u_range_widths T.d_u_range_widths ["bits"] (ip_u_range_widths K) := by
  refine T.p_u_range_widths.F.ok sc_u_range_widths (fun vs H Q E h => ?_) (fun cdv A outer s H vs Q E hr h => ?_)
  · obtain ⟨b, rfl, q⟩ := un_u_range_widths h
    rfl
  · obtain ⟨b, rfl, q⟩ := un_u_range_widths h
    refine ⟨_, (pss_one (ps_ret (pe_lstM (pa_cons (pv 0) (pa_cons pe_int (pa_cons pe_int pa_nil)))))), ?_⟩
    (repeat walk_at "rd")
    exact q
def sp_data_piece (K : PySem.W.Frag) : Sp := fun vs H Q _ => ∃ (bits : Int) (poll : Bool) (n part off : Int) (b : Addr) (body : List Int), vs = [.int bits, .bl poll, .int n, .int part, .int off, .ref b] ∧ (1 ≤ bits ∧ bits ≤ 100) ∧ (0 ≤ part ∧ part < 4) ∧ (0 ≤ off ∧ off < 256) ∧ H b = some (.lst (body.map V.int)) ∧ body.length ≤ 10000 ∧
  NewO (.lst ((dataF bits poll n part off body).map V.int)) H Q
@[irreducible] def ip_data_piece (K : PySem.W.Frag) : Sp := sp_data_piece K
theorem op_data_piece {K : PySem.W.Frag} {vs : List V} {H : Hp} {Q : VK} {E : XK} (h : sp_data_piece K vs H Q E) : ip_data_piece K vs H Q E := by
  unfold ip_data_piece
  exact h
theorem un_data_piece {K : PySem.W.Frag} {vs : List V} {H : Hp} {Q : VK} {E : XK} (h : ip_data_piece K vs H Q E) : sp_data_piece K vs H Q E := by
  unfold ip_data_piece at h
  exact h
theorem ok_data_piece (T : Tx P w K mg base) : FnOk P w K mg base CX0 5 T.a_data_piece T.d_data_piece ["bits", "poll", "number", "part", "offset", "body"] (ip_data_piece K) := by
  have G_u_has_offset := ok_u_has_offset T
  have G_short := ok_short T
  have G_pack := ok_pack T
  have G_u_data_widths := ok_u_data_widths T
  refine T.p_data_piece.F.ok sc_data_piece (fun vs H Q E h => ?_) (fun cdv A outer s H vs Q E hr h => ?_)
  · obtain ⟨bits, poll, n, part, off, b, body, rfl, hb, hp, ho, hB, hl, q⟩ := un_data_piece h
    rfl
  · obtain ⟨bits, poll, n, part, off, b, body, rfl, hb, hp, ho, hB, hl, q⟩ := un_data_piece h
    refine ⟨_, (pss_cons (ps_set (i := 6) sc_data_piece.nd rfl (Or.inl rfl) (pe_lstM (pa_cons (pe_gint rfl T.g_DATA) (pa_cons (pe_ifM (pt_val (pv 1)) pe_int pe_int) (pa_cons (pe_call G_short (hr.mono (by decide)) rfl T.p_short.m T.p_short.F.kp T.p_short.b .nil pass0 (pa_cons (pv 2) (pa_cons (pv 0) pa_nil))) (pa_cons (pv 3) pa_nil)))))) (pss_cons (ps_ifM (pt_val (pe_call G_u_has_offset (hr.mono (by decide)) rfl T.p_u_has_offset.m T.p_u_has_offset.F.kp T.p_u_has_offset.b .nil pass0 (pa_cons (pv 3) pa_nil))) (pss_one (ps_expr (pe_app (pv 6) (pv 4)))) pss_nil) (pss_one (ps_ret (pe_op op_catM (pe_call G_pack (hr.mono (by decide)) rfl T.p_pack.m T.p_pack.F.kp T.p_pack.b .nil passL (pa_cons (pe_call G_u_data_widths (hr.mono (by decide)) rfl T.p_u_data_widths.m T.p_u_data_widths.F.kp T.p_u_data_widths.b .nil pass0 (pa_cons (pv 0) (pa_cons (pv 3) pa_nil))) (pa_cons (pv 6) pa_nil))) (pv 5)))))), ?_⟩
    have fin : ∀ (H1 H2 : Hp) (vp wp : Addr), Same H H1 → H1 vp = some (.lst ((dataVals poll (n % 2 ^ bits.toNat) part off).map V.int)) → Same H1 H2 → H2 wp = some (.lst ((dataW bits part).map V.int)) → ∀ (Q2 : VK), (∀ p3 H3, Same H H3 → H p3 = none → H3 p3 = some (.lst ((packF (dataW bits part) (dataVals poll (n % 2 ^ bits.toNat) part off)).map V.int)) → Q2 (.ref p3) H3) → ip_pack K T.C_NotValid [.ref wp, .ref vp] H2 Q2 E0 := fun H1 H2 vp wp s1 e1 s2 e2 Q2 k => by
      have hok := data_ok (poll := poll) hb.1 (sn := n % 2 ^ bits.toNat) ⟨Int.emod_nonneg _ (Int.ne_of_gt (pow_nn _)), Int.emod_lt_of_pos _ (pow_nn _)⟩ hp ho
      refine op_pack ⟨wp, vp, _, _, rfl, sq_of e2, sq_of (s2 _ _ e1), ?_, dataW_le hb.2, fun _ p3 H3 n3 s3 e3 => ?_, fun h => by rw [hok] at h; cases h⟩
      · exact Nat.le_trans (dataW_len _ _) (by decide)
      · have s13 := (s1.trans s2).trans s3
        exact k p3 H3 s13 ((s1.trans s2).free n3) e3
    have e0 : ∀ (ho2 : hasOff part = true), dataVals poll (n % 2 ^ bits.toNat) part off = [0, if poll = true then 1 else 0, n % 2 ^ bits.toNat, part] ++ [off] := fun h => by unfold dataVals; rw [if_pos h]; rfl
    have e1' : ∀ (ho2 : hasOff part = false), dataVals poll (n % 2 ^ bits.toNat) part off = [0, if poll = true then 1 else 0, n % 2 ^ bits.toNat, part] := fun h => by unfold dataVals; rw [if_neg (by rw [h]; decide)]
    have fin2 : ∀ (p3 : Addr) (H3 : Hp), Same H H3 → H p3 = none → H3 p3 = some (.lst ((packF (dataW bits part) (dataVals poll (n % 2 ^ bits.toNat) part off)).map V.int)) → mCat K (.ref p3) (.ref b) H3 Q := fun p3 H3 s3 n3 e3 => by
      have hl2 : (packF (dataW bits part) (dataVals poll (n % 2 ^ bits.toNat) part off)).length ≤ 20 := by
        have h1 := packF_length (vs := dataVals poll (n % 2 ^ bits.toNat) part off) (dataW_wok (part := part) hb.1)
        have h2 := size_data (part := part) hb.1 hb.2
        omega
      refine rd_cat e3 (s3 _ _ hB) (by rw [List.length_map, List.length_map]; omega) fun p4 H4 n4 s4 e4 => ?_
      refine q p4 H4 (s3.free n4) (s3.trans s4) ?_
      rw [e4]
      unfold dataF
      rw [List.map_append]
    cases poll
    all_goals
      (repeat walk_at "rd")
      refine op_short ⟨n, bits, rfl, by omega, by omega, ?_⟩
      (repeat walk_at "rd")
      intro vp H1 n1 s1 e1
      (repeat walk_at "rd")
      refine op_u_has_offset ⟨part, rfl, ?_⟩
      (repeat walk_at "rd")
      refine br_b (fun h => ?_) (fun h => ?_)
      · (repeat walk_at "rd")
        refine rd_app e1 (by exact Nat.le_of_ble_eq_true rfl) ?_
        (repeat walk_at "rd")
        refine op_u_data_widths ⟨bits, part, rfl, fun wp H2 n2 s2 e2 => ?_⟩
        (repeat walk_at "rd")
        exact fin (upd H1 vp _) H2 vp wp (same_mut s1 n1) (by rw [upd_same, e0 h]; rfl) s2 e2 _ fun p3 H3 s3 n3 e3 => by
          (repeat walk_at "rd")
          exact fin2 p3 H3 s3 n3 e3
      · (repeat walk_at "rd")
        refine op_u_data_widths ⟨bits, part, rfl, fun wp H2 n2 s2 e2 => ?_⟩
        (repeat walk_at "rd")
        exact fin H1 H2 vp wp s1 (by rw [e1, e1' h]; rfl) s2 e2 _ fun p3 H3 s3 n3 e3 => by
          (repeat walk_at "rd")
          exact fin2 p3 H3 s3 n3 e3
def sp_status_bytes (K : PySem.W.Frag) : Sp := fun vs H Q _ => ∃ bits c : Int, vs = [.int bits, .int c] ∧ (1 ≤ bits ∧ bits ≤ 100) ∧ (0 ≤ c ∧ c ≤ 1000) ∧ ∀ H', Same H H' → Q (.int (statusBytes bits c)) H'
@[irreducible] def ip_status_bytes (K : PySem.W.Frag) : Sp := sp_status_bytes K
theorem op_status_bytes {K : PySem.W.Frag} {vs : List V} {H : Hp} {Q : VK} {E : XK} (h : sp_status_bytes K vs H Q E) : ip_status_bytes K vs H Q E := by
  unfold ip_status_bytes
  exact h
theorem un_status_bytes {K : PySem.W.Frag} {vs : List V} {H : Hp} {Q : VK} {E : XK} (h : ip_status_bytes K vs H Q E) : sp_status_bytes K vs H Q E := by
  unfold ip_status_bytes at h
  exact h
theorem ok_status_bytes (T : Tx P w K mg base) : FnOk P w K mg base CX0 4 T.a_status_bytes T.d_status_bytes ["bits", "count"] (ip_status_bytes K) := by
  have G_field_bytes := ok_field_bytes T
  have G_u_status_head := ok_u_status_head T
  have G_u_range_widths := ok_u_range_widths T
  refine T.p_status_bytes.F.ok sc_status_bytes (fun vs H Q E h => ?_) (fun cdv A outer s H vs Q E hr h => ?_)
  · obtain ⟨bits, c, rfl, hb, hc, q⟩ := un_status_bytes h
    rfl
  · obtain ⟨bits, c, rfl, hb, hc, q⟩ := un_status_bytes h
    refine ⟨_, (pss_one (ps_ret (pe_call G_field_bytes (hr.mono (by decide)) rfl T.p_field_bytes.m T.p_field_bytes.F.kp T.p_field_bytes.b .nil passL (pa_cons (pe_lstM (pa_cons (pe_op op_addM (pe_callB (call_sumM rfl) (by rfl) T.n_sum (by decide +kernel) (pa_cons (pe_call G_u_status_head (hr.mono (by decide)) rfl T.p_u_status_head.m T.p_u_status_head.F.kp T.p_u_status_head.b .nil pass0 (pa_cons (pv 0) pa_nil)) pa_nil)) (pe_op op_mulM (pv 1) (pe_callB (call_sumM rfl) (by rfl) T.n_sum (by decide +kernel) (pa_cons (pe_call G_u_range_widths (hr.mono (by decide)) rfl T.p_u_range_widths.m T.p_u_range_widths.F.kp T.p_u_range_widths.b .nil pass0 (pa_cons (pv 0) pa_nil)) pa_nil)))) pa_nil)) pa_nil)))), ?_⟩
    (repeat walk_at "rd")
    refine op_u_status_head ⟨bits, rfl, fun p1 H1 n1 s1 e1 => ?_⟩
    (repeat walk_at "rd")
    refine op_u_range_widths ⟨bits, rfl, fun p2 H2 n2 s2 e2 => ?_⟩
    (repeat walk_at "rd")
    intro p3 H3 n3 s3 e3
    have e : ([1, bits, 4] : List Int).sum + c * ([bits, 8, 8] : List Int).sum = 5 + bits + c * (bits + 16) := by
      simp
      have : bits + (8 + 8) = bits + 16 := by omega
      omega
    rw [e] at e3
    have hcb : 0 ≤ c * (bits + 16) := Int.mul_nonneg hc.1 (by omega)
    refine op_field_bytes ⟨p3, [5 + bits + c * (bits + 16)], rfl, sq_of e3, fun _ => ?_, fun h => ?_⟩
    · refine q_int (q H3 ((s1.trans s2).trans s3)) ?_
      unfold statusBytes sizeF
      simp
    · have h2 : wok [5 + bits + c * (bits + 16)] = true := by
        unfold wok
        simp
        omega
      rw [h2] at h
      cases h
def sp_u_read_data (K : PySem.W.Frag) : Sp := fun vs H Q _ => ∃ (bits : Int) (a : Addr) (ds : List Int), vs = [.int bits, .ref a] ∧ (1 ≤ bits ∧ bits ≤ 100) ∧ SqL K H a (ds.map V.int) ∧ (∀ d ∈ ds, 0 ≤ d ∧ d < 256) ∧ ds.length ≤ 10000 ∧ ∀ v H', Same H H' → PartsAt H' v (readData bits ds) → Q v H'
theorem list4 {l : List Int} (h : l.length = 4) : ∃ a b c d, l = [a, b, c, d] := by
  match l, h with
  | [a, b, c, d], _ => exact ⟨a, b, c, d, rfl⟩
theorem list3 {l : List Int} (h : l.length = 3) : ∃ a b c, l = [a, b, c] := by
  match l, h with
  | [a, b, c], _ => exact ⟨a, b, c, rfl⟩
@[irreducible] def ip_u_read_data (K : PySem.W.Frag) : Sp := sp_u_read_data K
theorem op_u_read_data {K : PySem.W.Frag} {vs : List V} {H : Hp} {Q : VK} {E : XK} (h : sp_u_read_data K vs H Q E) : ip_u_read_data K vs H Q E := by
  unfold ip_u_read_data
  exact h
theorem un_u_read_data {K : PySem.W.Frag} {vs : List V} {H : Hp} {Q : VK} {E : XK} (h : ip_u_read_data K vs H Q E) : sp_u_read_data K vs H Q E := by
  unfold ip_u_read_data at h
  exact h
theorem ok_u_read_data (T : Tx P w K mg base) : FnOk P w K mg base CX0 5 T.a_u_read_data T.d_u_read_data ["bits", "piece"] (ip_u_read_data K) := by
  have G_u_data_widths := ok_u_data_widths T
  have G_unpack := ok_unpack T
  have G_field_bytes := ok_field_bytes T
  have G_u_has_offset := ok_u_has_offset T
  refine T.p_u_read_data.F.ok sc_u_read_data (fun vs H Q E h => ?_) (fun cdv A outer s H vs Q E hr h => ?_)
  · obtain ⟨bits, a, ds, rfl, hb, hA, hd, hl, q⟩ := un_u_read_data h
    rfl
  · obtain ⟨bits, a, ds, rfl, hb, hA, hd, hl, q⟩ := un_u_read_data h
    refine ⟨_, (pss_cons (ps_set (i := 2) sc_u_read_data.nd rfl (Or.inl rfl) (pe_call G_u_data_widths (hr.mono (by decide)) rfl T.p_u_data_widths.m T.p_u_data_widths.F.kp T.p_u_data_widths.b .nil pass0 (pa_cons (pv 0) (pa_cons (pe_gint rfl T.g_WHOLE) pa_nil)))) (pss_cons (ps_ifM (pt_cmpR op_ltM (pe_callB call_lenM (by rfl) T.n_len PySem.boot_len (pa_cons (pv 1) pa_nil)) (pe_call G_field_bytes (hr.mono (by decide)) rfl T.p_field_bytes.m T.p_field_bytes.F.kp T.p_field_bytes.b .nil passL (pa_cons (pv 2) pa_nil)) (nomark _)) (pss_one (ps_ret pe_non)) pss_nil) (pss_cons (ps_asg (pe_call G_unpack (hr.mono (by decide)) rfl T.p_unpack.m T.p_unpack.F.kp T.p_unpack.b .nil passL (pa_cons (pv 2) (pa_cons (pv 1) pa_nil))) (pg_lst rfl (pgs_cons (pg_name (i := 3) sc_u_read_data.nd rfl (Or.inl rfl)) (pgs_cons (pg_name (i := 4) sc_u_read_data.nd rfl (Or.inl rfl)) (pgs_cons (pg_name (i := 5) sc_u_read_data.nd rfl (Or.inl rfl)) (pgs_cons (pg_name (i := 6) sc_u_read_data.nd rfl (Or.inl rfl)) pgs_nil)))))) (pss_cons (ps_set (i := 2) sc_u_read_data.nd rfl (Or.inl rfl) (pe_call G_u_data_widths (hr.mono (by decide)) rfl T.p_u_data_widths.m T.p_u_data_widths.F.kp T.p_u_data_widths.b .nil pass0 (pa_cons (pv 0) (pa_cons (pv 6) pa_nil)))) (pss_cons (ps_set (i := 7) sc_u_read_data.nd rfl (Or.inl rfl) (pe_call G_field_bytes (hr.mono (by decide)) rfl T.p_field_bytes.m T.p_field_bytes.F.kp T.p_field_bytes.b .nil passL (pa_cons (pv 2) pa_nil))) (pss_cons (ps_ifM (pt_cmpR op_leM (pe_callB call_lenM (by rfl) T.n_len PySem.boot_len (pa_cons (pv 1) pa_nil)) (pv 7) (nomark _)) (pss_one (ps_ret pe_non)) pss_nil) (pss_cons (ps_set (i := 8) sc_u_read_data.nd rfl (Or.inl rfl) (pe_ifM (pt_val (pe_call G_u_has_offset (hr.mono (by decide)) rfl T.p_u_has_offset.m T.p_u_has_offset.F.kp T.p_u_has_offset.b .nil pass0 (pa_cons (pv 6) pa_nil))) (pe_ix ix_listM (pe_call G_unpack (hr.mono (by decide)) rfl T.p_unpack.m T.p_unpack.F.kp T.p_unpack.b .nil passL (pa_cons (pv 2) (pa_cons (pv 1) pa_nil))) pe_int (fun _ _ => rfl)) pe_int)) (pss_one (ps_ret (pe_tupM (pa_cons pe_str (pa_cons (pe_cmpR op_eq (pv 4) pe_int (nomark _)) (pa_cons (pv 5) (pa_cons (pv 6) (pa_cons (pv 8) (pa_cons (pe_slice sl_listM (pv 1) (po_some (pv 7)) po_none) pa_nil)))))))))))))))), ?_⟩
    (repeat walk_at "rd")
    refine op_u_data_widths ⟨bits, 0, rfl, fun p1 H1 n1 s1 e1 => ?_⟩
    have ew : dataW bits 0 = [1, 1, bits, 2] := rfl
    rw [ew] at e1
    have hw4 : wok [1, 1, bits, 2] = true := dataW_wok (part := 0) hb.1
    have hle4 : ∀ w ∈ ([1, 1, bits, 2] : List Int), w ≤ 1000 := dataW_le (part := 0) hb.2
    (repeat walk_at "rd")
    refine op_field_bytes ⟨p1, _, rfl, sq_of e1, fun _ => ?_, fun h => by rw [hw4] at h; cases h⟩
    (repeat walk_at "rd")
    refine br_by (fun h => ?_) (fun h => ?_)
    · (repeat walk_at "rd")
      refine q _ _ s1 ?_
      unfold readData
      rw [if_pos h]
      rfl
    (repeat walk_at "rd")
    refine op_unpack ⟨p1, a, _, ds, rfl, sq_of e1, s1.seq hA, Nat.le_of_ble_eq_true rfl, hle4, hd, fun _ p2 H2 n2 s2 e2 => ?_, fun h2 => ?_⟩
    rotate_left
    · unfold unpOk at h2
      rw [hw4, decide_eq_true (by omega)] at h2
      cases h2
    obtain ⟨u0, u1, u2, u3, hu⟩ := list4 (unpF_length [1, 1, bits, 2] ds)
    rw [hu] at e2
    (repeat walk_at "rd")
    refine ⟨p2, _, rfl, sq_of e2, rfl, ?_⟩
    refine ⟨_, _, rfl, ?_⟩
    refine ⟨_, _, rfl, ?_⟩
    refine ⟨_, _, rfl, ?_⟩
    refine ⟨_, _, rfl, ?_⟩
    (repeat walk_at "rd")
    refine op_u_data_widths ⟨bits, u3, rfl, fun p3 H3 n3 s3 e3 => ?_⟩
    have s13 : Same H H3 := (s1.trans s2).trans s3
    have hwk := dataW_wok (part := u3) hb.1
    (repeat walk_at "rd")
    refine op_field_bytes ⟨p3, _, rfl, sq_of e3, fun _ => ?_, fun h => by rw [hwk] at h; cases h⟩
    (repeat walk_at "rd")
    have hg3 : (unpF [1, 1, bits, 2] ds).getD 3 0 = u3 := by rw [hu]; rfl
    have hg2 : (unpF [1, 1, bits, 2] ds).getD 2 0 = u2 := by rw [hu]; rfl
    have hg1 : (unpF [1, 1, bits, 2] ds).getD 1 0 = u1 := by rw [hu]; rfl
    refine br_by (fun h3 => ?_) (fun h3 => ?_)
    · (repeat walk_at "rd")
      refine q _ _ s13 ?_
      unfold readData
      rw [if_neg h, hg3, if_pos h3]
      rfl
    have hsz := size_data (part := u3) hb.1 hb.2
    have fin : ∀ (off : Int), (if hasOff u3 = true then (unpF (dataW bits u3) ds).getD 4 0 else 0) = off → ∀ (H4 : Hp), Same H H4 → ∀ Q2 : VK, (∀ b H5, H4 b = none → Same H4 H5 → H5 b = some (.lst ((ds.drop (sizeF (dataW bits u3)).toNat).map V.int)) → ∀ t H6, H5 t = none → Same H5 H6 → H6 t = some (.tup [.str "data", .bl (decide (V.int u1 = V.int 1)), .int u2, .int u3, .int off, .ref b]) → Q (.ref t) H6) := fun off ho H4 s4 Q2 b H5 n5 s5 e5 t H6 n6 s6 e6 => by
      refine q _ _ ((s4.trans s5).trans s6) ?_
      unfold readData
      rw [if_neg h, hg3, hg2, hg1, if_neg h3, ho]
      have e : decide (V.int u1 = V.int 1) = decide (u1 = 1) := by
        by_cases h : u1 = 1
        · rw [decide_eq_true h, decide_eq_true (congrArg V.int h)]
        · rw [decide_eq_false h, decide_eq_false fun e => h (V.int.inj e)]
      rw [e] at e6
      exact ⟨t, b, rfl, e6, s6 _ _ e5⟩
    (repeat walk_at "rd")
    refine op_u_has_offset ⟨u3, rfl, ?_⟩
    (repeat walk_at "rd")
    refine br_b (fun ho => ?_) (fun ho => ?_)
    · (repeat walk_at "rd")
      refine op_unpack ⟨p3, a, _, ds, rfl, sq_of e3, s13.seq hA, Nat.le_trans (dataW_len _ _) (by decide), dataW_le hb.2, hd, fun _ p4 H4 n4 s4 e4 => ?_, fun h2 => ?_⟩
      rotate_left
      · unfold unpOk at h2
        rw [hwk, decide_eq_true (by omega)] at h2
        cases h2
      have hl5 : (unpF (dataW bits u3) ds).length = 5 := by
        rw [unpF_length]
        unfold dataW
        rw [if_pos ho]
        rfl
      (repeat walk_at "rd")
      refine rd_ixI (sq_of e4) (by decide) (by rw [hl5]; decide) ?_
      (repeat walk_at "rd")
      refine rd_sl ((s13.trans s4).seq hA) fun b H5 n5 s5 e5 => ?_
      rw [cutV_from (by omega)] at e5
      (repeat walk_at "rd")
      intro t H6 n6 s6 e6
      exact fin _ (by rw [if_pos ho]; rfl) H4 (s13.trans s4) Q b H5 n5 s5 e5 t H6 n6 s6 e6
    · (repeat walk_at "rd")
      refine rd_sl (s13.seq hA) fun b H5 n5 s5 e5 => ?_
      rw [cutV_from (by omega)] at e5
      (repeat walk_at "rd")
      intro t H6 n6 s6 e6
      exact fin 0 (by rw [if_neg (by rw [ho]; decide)]) H3 s13 Q b H5 n5 s5 e5 t H6 n6 s6 e6
def sp_u_read_status (K : PySem.W.Frag) : Sp := fun vs H Q _ => ∃ (bits : Int) (a : Addr) (ds : List Int), vs = [.int bits, .ref a] ∧ (1 ≤ bits ∧ bits ≤ 100) ∧ SqL K H a (ds.map V.int) ∧ (∀ d ∈ ds, 0 ≤ d ∧ d < 256) ∧ ds.length ≤ 10000 ∧ ∀ v H', Same H H' → PartsAt H' v (readStatus bits ds) → Q v H'
theorem rg3 {c : Nat} (h : c ≤ 8) : RgC 0 (3 * (c : Int)) 3 c := by
  have h9 : c = 0 ∨ c = 1 ∨ c = 2 ∨ c = 3 ∨ c = 4 ∨ c = 5 ∨ c = 6 ∨ c = 7 ∨ c = 8 := by omega
  rcases h9 with e | e | e | e | e | e | e | e | e <;> subst e <;> exact ⟨by decide, by decide, by decide +kernel, by decide +kernel⟩
theorem flat_rep (ws : List Int) (n : Nat) : (List.replicate n (ws.map V.int)).flatten = (List.replicate n ws).flatten.map V.int := by
  rw [List.map_flatten, List.map_replicate]
theorem rep_len (n : Nat) (a b c : Int) : ((List.replicate n [a, b, c]).flatten).length = 3 * n := by
  rw [List.length_flatten, List.map_replicate, List.sum_replicate_nat]
  show n * 3 = 3 * n
  omega
theorem rep_sum (n : Nat) (a b c : Int) : ((List.replicate n [a, b, c]).flatten).sum = (n : Int) * (a + b + c) := by
  induction n with
  | zero => simp
  | succ n ih =>
    rw [List.replicate_succ, List.flatten_cons, List.sum_append, ih, Int.natCast_succ, Int.add_mul, Int.one_mul]
    have e : ([a, b, c] : List Int).sum = a + b + c := by
      simp
      omega
    rw [e]
    omega
theorem size_status (bits : Int) (n : Nat) : sizeF (statusW bits n) = statusBytes bits n := by
  unfold sizeF statusW statusBytes
  rw [List.sum_append, rep_sum]
  have e : ([1, bits, 4] : List Int).sum = 5 + bits := by
    simp
    omega
  have e2 : bits + 8 + 8 = bits + 16 := by omega
  rw [e, e2]
theorem statusW_wok {bits : Int} {n : Nat} (h : 1 ≤ bits) : wok (statusW bits n) = true := by
  rw [wok_iff]
  intro w hw
  unfold statusW at hw
  rcases List.mem_append.mp hw with hw | hw
  · simp at hw
    omega
  · obtain ⟨l, hl, hw⟩ := List.mem_flatten.mp hw
    rw [(List.mem_replicate.mp hl).2] at hw
    simp at hw
    omega
theorem statusW_le {bits : Int} {n : Nat} (h : bits ≤ 100) : ∀ w ∈ statusW bits n, w ≤ 1000 := by
  intro w hw
  unfold statusW at hw
  rcases List.mem_append.mp hw with hw | hw
  · simp at hw
    omega
  · obtain ⟨l, hl, hw⟩ := List.mem_flatten.mp hw
    rw [(List.mem_replicate.mp hl).2] at hw
    simp at hw
    omega
theorem statusW_len (bits : Int) (n : Nat) : (statusW bits n).length = 3 + 3 * n := by
  unfold statusW
  rw [List.length_append, rep_len]
  rfl
theorem rows_at {H : Hp} {D : Addr} {ps : List Addr} {told : List Int} {n : Nat} (h1 : H D = some (.lst (ps.map V.ref))) (h2 : ps.length = n) (h3 : ∀ i p, ps[i]? = some p → H p = some (.tup (rowV (told.getD (3 * i) 0, told.getD (3 * i + 1) 0, told.getD (3 * i + 2) 0)))) : RowsAt H D (rowsOf told n) := by
  refine ⟨ps, h1, by unfold rowsOf; rw [List.length_map, List.length_range, h2], fun i p r e1 e2 => ?_⟩
  have hi := (List.getElem?_eq_some_iff.mp e1).1
  unfold rowsOf at e2
  rw [List.getElem?_map, List.getElem?_range (by omega)] at e2
  rw [← Option.some.inj e2]
  exact h3 i p e1
@[irreducible] def ip_u_read_status (K : PySem.W.Frag) : Sp := sp_u_read_status K
theorem op_u_read_status {K : PySem.W.Frag} {vs : List V} {H : Hp} {Q : VK} {E : XK} (h : sp_u_read_status K vs H Q E) : ip_u_read_status K vs H Q E := by
  unfold ip_u_read_status
  exact h
theorem un_u_read_status {K : PySem.W.Frag} {vs : List V} {H : Hp} {Q : VK} {E : XK} (h : ip_u_read_status K vs H Q E) : sp_u_read_status K vs H Q E := by
  unfold ip_u_read_status at h
  exact h
theorem ok_u_read_status (T : Tx P w K mg base) : FnOk P w K mg base CX0 5 T.a_u_read_status T.d_u_read_status ["bits", "piece"] (ip_u_read_status K) := by
  have G_u_status_head := ok_u_status_head T
  have G_unpack := ok_unpack T
  have G_field_bytes := ok_field_bytes T
  have G_status_bytes := ok_status_bytes T
  have G_u_range_widths := ok_u_range_widths T
  refine T.p_u_read_status.F.ok sc_u_read_status (fun vs H Q E h => ?_) (fun cdv A outer s H vs Q E hr h => ?_)
  · obtain ⟨bits, a, ds, rfl, hb, hA, hd, hl, q⟩ := un_u_read_status h
    rfl
  · obtain ⟨bits, a, ds, rfl, hb, hA, hd, hl, q⟩ := un_u_read_status h
    refine ⟨_, (pss_cons (ps_set (i := 2) sc_u_read_status.nd rfl (Or.inl rfl) (pe_call G_u_status_head (hr.mono (by decide)) rfl T.p_u_status_head.m T.p_u_status_head.F.kp T.p_u_status_head.b .nil pass0 (pa_cons (pv 0) pa_nil))) (pss_cons (ps_ifM (pt_cmpR op_ltM (pe_callB call_lenM (by rfl) T.n_len PySem.boot_len (pa_cons (pv 1) pa_nil)) (pe_call G_field_bytes (hr.mono (by decide)) rfl T.p_field_bytes.m T.p_field_bytes.F.kp T.p_field_bytes.b .nil passL (pa_cons (pv 2) pa_nil)) (nomark _)) (pss_one (ps_ret pe_non)) pss_nil) (pss_cons (ps_asg (pe_call G_unpack (hr.mono (by decide)) rfl T.p_unpack.m T.p_unpack.F.kp T.p_unpack.b .nil passL (pa_cons (pv 2) (pa_cons (pv 1) pa_nil))) (pg_lst rfl (pgs_cons (pg_name (i := 3) sc_u_read_status.nd rfl (Or.inl rfl)) (pgs_cons (pg_name (i := 4) sc_u_read_status.nd rfl (Or.inl rfl)) (pgs_cons (pg_name (i := 5) sc_u_read_status.nd rfl (Or.inl rfl)) pgs_nil))))) (pss_cons (ps_ifM (PW.pt (pw_orM (pt_cmpR op_gtM (pv 5) (pe_gint rfl T.g_MOST_MISSING) (nomark _)) (pw_or1 (pt_cmpR op_ne (pe_callB call_lenM (by rfl) T.n_len PySem.boot_len (pa_cons (pv 1) pa_nil)) (pe_call G_status_bytes (hr.mono (by decide)) rfl T.p_status_bytes.m T.p_status_bytes.F.kp T.p_status_bytes.b .nil pass0 (pa_cons (pv 0) (pa_cons (pv 5) pa_nil))) (nomark _))))) (pss_one (ps_ret pe_non)) pss_nil) (pss_cons (ps_set (i := 6) sc_u_read_status.nd rfl (Or.inr rfl) (pe_slice sl_listM (pe_call G_unpack (hr.mono (by decide)) rfl T.p_unpack.m T.p_unpack.F.kp T.p_unpack.b .nil passL (pa_cons (pe_op op_catM (pv 2) (pe_op op_repM (pe_call G_u_range_widths (hr.mono (by decide)) rfl T.p_u_range_widths.m T.p_u_range_widths.F.kp T.p_u_range_widths.b .nil pass0 (pa_cons (pv 0) pa_nil)) (pv 5))) (pa_cons (pv 1) pa_nil))) (po_some pe_int) po_none)) (pss_cons (ps_setLcTR3 (i := 7) rfl sc_u_read_status.nd rfl rfl (sw_true rfl rfl rfl (by decide +kernel)) rfl T.n_range (pa_cons pe_int (pa_cons (pe_callB call_lenM (by rfl) T.n_len PySem.boot_len (pa_cons (pv 6) pa_nil)) (pa_cons pe_int pa_nil))) (blkOk_by (own := [("at", 8)]) (N := ["bits", "piece", "widths", "_", "upto", "count", "told", "missing", "at"]) (sc := defScope S_u_read_status) (by decide +kernel)) (fun _ _ _ _ _ => (pg_name (i := 8) sc_u_read_status.nd rfl (Or.inl rfl))) (fun _ _ _ _ _ => (pe_tupM (pa_cons (pe_ix (ix_listK (K := K) rfl) (pv 6) (pv 8) (fun _ _ => rfl)) (pa_cons (pe_ix (ix_listK (K := K) rfl) (pv 6) (pe_op op_addM (pv 8) pe_int) (fun _ _ => rfl)) (pa_cons (pe_ix (ix_listK (K := K) rfl) (pv 6) (pe_op op_addM (pv 8) pe_int) (fun _ _ => rfl)) pa_nil)))))) (pss_one (ps_ret (pe_tupM (pa_cons pe_str (pa_cons (pv 4) (pa_cons (pv 7) pa_nil)))))))))))), ?_⟩
    (repeat walk_at "rd")
    refine op_u_status_head ⟨bits, rfl, fun p1 H1 n1 s1 e1 => ?_⟩
    have hw3 : wok [1, bits, 4] = true := by
      rw [wok_iff]
      intro w hw
      simp at hw
      omega
    have hle3 : ∀ w ∈ ([1, bits, 4] : List Int), w ≤ 1000 := by
      intro w hw
      simp at hw
      omega
    (repeat walk_at "rd")
    refine op_field_bytes ⟨p1, _, rfl, sq_of e1, fun _ => ?_, fun h => by rw [hw3] at h; cases h⟩
    (repeat walk_at "rd")
    refine br_by (fun h => ?_) (fun h => ?_)
    · (repeat walk_at "rd")
      refine q _ _ s1 ?_
      unfold readStatus
      rw [if_pos h]
      rfl
    (repeat walk_at "rd")
    refine op_unpack ⟨p1, a, _, ds, rfl, sq_of e1, s1.seq hA, Nat.le_of_ble_eq_true rfl, hle3, hd, fun _ p2 H2 n2 s2 e2 => ?_, fun h2 => ?_⟩
    rotate_left
    · unfold unpOk at h2
      rw [hw3, decide_eq_true (by omega)] at h2
      cases h2
    have hu0 : ∃ u0 u1 u2, unpF [1, bits, 4] ds = [u0, u1, u2] ∧ 0 ≤ u2 ∧ u2 < 16 := ⟨_, _, _, rfl, Int.emod_nonneg _ (by decide), Int.emod_lt_of_pos _ (by decide)⟩
    obtain ⟨u0, u1, u2, hu, hc0, hc16⟩ := hu0
    rw [hu] at e2
    (repeat walk_at "rd")
    refine ⟨p2, _, rfl, sq_of e2, rfl, ?_⟩
    refine ⟨_, _, rfl, ?_⟩
    refine ⟨_, _, rfl, ?_⟩
    refine ⟨_, _, rfl, ?_⟩
    (repeat walk_at "rd")
    have hg2 : (unpF [1, bits, 4] ds).getD 2 0 = u2 := by rw [hu]; rfl
    have hg1 : (unpF [1, bits, 4] ds).getD 1 0 = u1 := by rw [hu]; rfl
    have s12 : Same H H2 := s1.trans s2
    refine br_by (fun h8 => ?_) (fun h8 => ?_)
    · (repeat walk_at "rd")
      refine q _ _ s12 ?_
      unfold readStatus
      rw [if_neg h, hg2, if_pos (.inl h8)]
      rfl
    (repeat walk_at "rd")
    refine op_status_bytes ⟨bits, u2, rfl, hb, ⟨hc0, by omega⟩, fun H3 s3 => ?_⟩
    have s13 : Same H H3 := s12.trans s3
    (repeat walk_at "rd")
    refine br_enby (fun hne => ?_) (fun heq => ?_)
    · (repeat walk_at "rd")
      refine q _ _ s13 ?_
      unfold readStatus
      rw [if_neg h, hg2, if_pos (.inr hne)]
      rfl
    have hn : ∃ n : Nat, u2 = n ∧ n ≤ 8 := ⟨u2.toNat, by omega, by omega⟩
    obtain ⟨n, hn, hn8⟩ := hn
    subst hn
    (repeat walk_at "rd")
    refine op_u_range_widths ⟨bits, rfl, fun p4 H4 n4 s4 e4 => ?_⟩
    (repeat walk_at "rd")
    refine rd_rep e4 (by omega) (by omega) (by rw [List.length_map]; show 3 * _ ≤ _; omega) fun p5 H5 n5 s5 e5 => ?_
    rw [flat_rep, Int.toNat_natCast] at e5
    have e15 : H5 p1 = some (.lst (([1, bits, 4] : List Int).map V.int)) := s5 _ _ (s4 _ _ (s3 _ _ (s2 _ _ e1)))
    refine rd_cat e15 e5 (by rw [List.length_map, List.length_map, rep_len]; show 3 + _ ≤ _; omega) fun p6 H6 n6 s6 e6 => ?_
    rw [← List.map_append] at e6
    have s16 : Same H H6 := ((s13.trans s4).trans s5).trans s6
    have hW := statusW_wok (n := n) hb.1
    have hsz := size_status bits n
    (repeat walk_at "rd")
    refine op_unpack ⟨p6, a, statusW bits n, ds, rfl, sq_of e6, s16.seq hA, by rw [statusW_len]; omega, statusW_le hb.2, hd, fun _ p7 H7 n7 s7 e7 => ?_, fun h2 => ?_⟩
    rotate_left
    · unfold unpOk at h2
      rw [hW, decide_eq_true (by omega)] at h2
      cases h2
    (repeat walk_at "rd")
    refine rd_sl (sq_of e7) fun p8 H8 n8 s8 e8 => ?_
    rw [cutV_from (by decide)] at e8
    generalize htold : (unpF (statusW bits n) ds).drop (3 : Int).toNat = told at e8
    have hl3 : told.length = 3 * n := by
      rw [← htold, List.length_drop, unpF_length, statusW_len]
      show 3 + 3 * n - 3 = _
      omega
    (repeat walk_at "rd")
    refine rd_lcTR3 ?_
    (repeat walk_at "rd")
    refine ⟨0, _, 3, n, fun i => rowV (told.getD (3 * i) 0, told.getD (3 * i + 1) 0, told.getD (3 * i + 2) 0), rfl, by rw [hl3]; exact rg3 hn8, by omega, fun i hi H' s' => ?_, fun D H9 ps n9 s9 e9 hps ht => ?_⟩
    · have g0 : ((0 : Int) + (i : Int) * 3).toNat = 3 * i := by omega
      have g1 : ((0 : Int) + (i : Int) * 3 + 1).toNat = 3 * i + 1 := by omega
      have g2 : ((0 : Int) + (i : Int) * 3 + 2).toNat = 3 * i + 2 := by omega
      (repeat walk_at "rd")
      refine rd_ixI (s'.seq (sq_of e8)) (by omega) (by omega) ?_
      (repeat walk_at "rd")
      refine rd_ixI (s'.seq (sq_of e8)) (by omega) (by omega) ?_
      (repeat walk_at "rd")
      refine rd_ixI (s'.seq (sq_of e8)) (by omega) (by omega) ?_
      rw [g0, g1, g2]
      (repeat walk_at "rd")
      intro t H2' n2' s2' e2'
      exact ⟨s2', t, rfl, e2'⟩
    · (repeat walk_at "rd")
      intro t H10 n10 s10 e10
      refine q _ _ ((((s16.trans s7).trans s8).trans s9).trans s10) ?_
      unfold readStatus
      rw [if_neg h, hg2, hg1, if_neg (by omega), Int.toNat_natCast]
      refine ⟨t, D, rfl, e10, RowsAt.mono ?_ s10⟩
      rw [show (unpF (statusW bits n) ds).drop 3 = told from htold]
      exact rows_at e9 hps ht
def sp_read_piece (K : PySem.W.Frag) : Sp := fun vs H Q _ => ∃ (bits : Int) (a : Addr) (ds : List Int), vs = [.int bits, .ref a] ∧ (1 ≤ bits ∧ bits ≤ 100) ∧ SqL K H a (ds.map V.int) ∧ (∀ d ∈ ds, 0 ≤ d ∧ d < 256) ∧ ds.length ≤ 10000 ∧ ∀ v H', Same H H' → PartsAt H' v (readF bits ds) → Q v H'
@[irreducible] def ip_read_piece (K : PySem.W.Frag) : Sp := sp_read_piece K
theorem op_read_piece {K : PySem.W.Frag} {vs : List V} {H : Hp} {Q : VK} {E : XK} (h : sp_read_piece K vs H Q E) : ip_read_piece K vs H Q E := by
  unfold ip_read_piece
  exact h
theorem un_read_piece {K : PySem.W.Frag} {vs : List V} {H : Hp} {Q : VK} {E : XK} (h : ip_read_piece K vs H Q E) : sp_read_piece K vs H Q E := by
  unfold ip_read_piece at h
  exact h
theorem ok_read_piece (T : Tx P w K mg base) : FnOk P w K mg base CX0 6 T.a_read_piece T.d_read_piece ["bits", "piece"] (ip_read_piece K) := by
  have G_u_read_status := ok_u_read_status T
  have G_u_read_data := ok_u_read_data T
  have G_unpack := ok_unpack T
  refine T.p_read_piece.F.ok sc_read_piece (fun vs H Q E h => ?_) (fun cdv A outer s H vs Q E hr h => ?_)
  · obtain ⟨bits, a, ds, rfl, hb, hA, hd, hl, q⟩ := un_read_piece h
    rfl
  · obtain ⟨bits, a, ds, rfl, hb, hA, hd, hl, q⟩ := un_read_piece h
    refine ⟨_, (pss_cons (ps_ifM (pt_cmpR op_eq (pe_callB call_lenM (by rfl) T.n_len PySem.boot_len (pa_cons (pv 1) pa_nil)) pe_int (nomark _)) (pss_one (ps_ret pe_non)) pss_nil) (pss_cons (ps_ifM (pt_cmpR op_eq (pe_ix ix_listM (pe_call G_unpack (hr.mono (by decide)) rfl T.p_unpack.m T.p_unpack.F.kp T.p_unpack.b .nil passL (pa_cons (pe_lstM (pa_cons pe_int pa_nil)) (pa_cons (pv 1) pa_nil))) pe_int (fun _ _ => rfl)) (pe_gint rfl T.g_DATA) (nomark _)) (pss_one (ps_ret (pe_call G_u_read_data (hr.mono (by decide)) rfl T.p_u_read_data.m T.p_u_read_data.F.kp T.p_u_read_data.b .nil pass0 (pa_cons (pv 0) (pa_cons (pv 1) pa_nil))))) pss_nil) (pss_one (ps_ret (pe_call G_u_read_status (hr.mono (by decide)) rfl T.p_u_read_status.m T.p_u_read_status.F.kp T.p_u_read_status.b .nil pass0 (pa_cons (pv 0) (pa_cons (pv 1) pa_nil))))))), ?_⟩
    (repeat walk_at "rd")
    refine br_eby (fun h => ?_) (fun h => ?_)
    · (repeat walk_at "rd")
      refine q _ _ (Same.refl _) ?_
      unfold readF
      rw [if_pos (by omega)]
      rfl
    have h0 : ds.length ≠ 0 := by omega
    (repeat walk_at "rd")
    intro p1 H1 n1 s1 e1
    (repeat walk_at "rd")
    refine op_unpack ⟨p1, a, [1], ds, rfl, sq_of e1, s1.seq hA, Nat.le_of_ble_eq_true rfl, fun w hw => by simp at hw; omega, hd, fun _ p2 H2 n2 s2 e2 => ?_, fun h2 => ?_⟩
    rotate_left
    · unfold unpOk at h2
      have e : sizeF [1] = 1 := by decide
      rw [e, decide_eq_true (by omega)] at h2
      cases h2
    have hu : ∃ u, unpF [1] ds = [u] := ⟨_, rfl⟩
    obtain ⟨u, hu⟩ := hu
    rw [hu] at e2
    (repeat walk_at "rd")
    refine rd_ixI (ns := [u]) (sq_of e2) (by decide) (by show (0 : Int) < 1; decide) ?_
    (repeat walk_at "rd")
    refine br_eby (fun h1 => ?_) (fun h1 => ?_)
    · (repeat walk_at "rd")
      refine op_u_read_data ⟨bits, a, ds, rfl, hb, (s1.trans s2).seq hA, hd, hl, fun v H' s' hv => q v H' ((s1.trans s2).trans s') ?_⟩
      unfold readF
      rw [if_neg h0, hu, if_pos (show ([u] : List Int).getD 0 0 = 0 from h1)]
      exact hv
    · (repeat walk_at "rd")
      refine op_u_read_status ⟨bits, a, ds, rfl, hb, (s1.trans s2).seq hA, hd, hl, fun v H' s' hv => q v H' ((s1.trans s2).trans s') ?_⟩
      unfold readF
      rw [if_neg h0, hu, if_neg (show ¬ ([u] : List Int).getD 0 0 = 0 from h1)]
      exact hv
end
def partF (n start stop : Int) : Int := if start = 0 then (if stop = n then 0 else 1) else (if stop = n then 2 else 3)
def headF (bits start : Int) : Int := sizeF (dataW bits (if start = 0 then 1 else 3))
def endF (bits n start stop room : Int) : Int := min (min stop n) (start + room - headF bits start)
def midF (ds : List Int) (s e : Int) : List Int := (ds.drop s.toNat).take (e - s).toNat
theorem headF_eq {bits start : Int} : headF bits start = if start = 0 then (4 + bits + 7) / 8 else (12 + bits + 7) / 8 := by
  unfold headF sizeF dataW
  by_cases h : start = 0
  · rw [if_pos h, if_pos h, if_neg (by decide)]
    simp
    omega
  · rw [if_neg h, if_neg h, if_pos (by decide)]
    simp
    omega
theorem cutV_mid {ds : List Int} {s e : Int} (h0 : 0 ≤ s) (h1 : s ≤ e) (h2 : e ≤ (ds.length : Int)) : cutV (ds.map V.int) (some s) (some e) = (midF ds s e).map V.int := by
  unfold cutV midF
  have e1 : s = ((s.toNat : Nat) : Int) := by omega
  have e2 : e = ((e.toNat : Nat) : Int) := by omega
  rw [e1, e2, HT.sIx_nat, HT.sIx_nat, List.length_map, ← List.map_drop, ← List.map_take]
  congr 2
  · omega
  · congr 1
    omega
theorem midF_len {ds : List Int} {s e : Int} (h0 : 0 ≤ s) (h1 : s ≤ e) (h2 : e ≤ (ds.length : Int)) : ((midF ds s e).length : Int) = e - s := by
  unfold midF
  rw [List.length_take, List.length_drop]
  omega
theorem midF_app {ds : List Int} {s m e : Int} (h0 : 0 ≤ s) (h1 : s ≤ m) (h2 : m ≤ e) : midF ds s m ++ midF ds m e = midF ds s e := by
  unfold midF
  have e1 : (e - s).toNat = (m - s).toNat + (e - m).toNat := by omega
  have e2 : m.toNat = s.toNat + (m - s).toNat := by omega
  rw [e1, List.take_add, e2, List.drop_drop]
theorem midF_mem {ds : List Int} {s e d : Int} (h : d ∈ midF ds s e) : d ∈ ds := List.mem_of_mem_drop (List.mem_of_mem_take h)
section
variable {P : Program} {w : World} {K : PySem.W.Frag} {mg : Str → Option Value} {base : Heap}
def sp_u_part_of (K : PySem.W.Frag) : Sp := fun vs H Q _ => ∃ (a : Addr) (ds : List Int) (s' e' : Int), vs = [.ref a, .int s', .int e'] ∧ SqL K H a (ds.map V.int) ∧ Q (.int (partF ds.length s' e')) H
@[irreducible] def ip_u_part_of (K : PySem.W.Frag) : Sp := sp_u_part_of K
theorem op_u_part_of {K : PySem.W.Frag} {vs : List V} {H : Hp} {Q : VK} {E : XK} (h : sp_u_part_of K vs H Q E) : ip_u_part_of K vs H Q E := by
  unfold ip_u_part_of
  exact h
theorem un_u_part_of {K : PySem.W.Frag} {vs : List V} {H : Hp} {Q : VK} {E : XK} (h : ip_u_part_of K vs H Q E) : sp_u_part_of K vs H Q E := by
  unfold ip_u_part_of at h
  exact h
theorem ok_u_part_of (T : Tx P w K mg base) : FnOk P w K mg base CX0 1 T.a_u_part_of T.d_u_part_of ["packet", "start", "end"] (ip_u_part_of K) := by
  refine T.p_u_part_of.F.ok sc_u_part_of (fun vs H Q E h => ?_) (fun cdv A outer s H vs Q E hr h => ?_)
  · obtain ⟨a, ds, s', e', rfl, hA, q⟩ := un_u_part_of h
    rfl
  · obtain ⟨a, ds, s', e', rfl, hA, q⟩ := un_u_part_of h
    refine ⟨_, (pss_cons (ps_ifM (pt_cmpR op_eq (pv 1) pe_int (nomark _)) (pss_one (ps_ret (pe_ifM (pt_cmpR op_eq (pv 2) (pe_callB call_lenM (by rfl) T.n_len PySem.boot_len (pa_cons (pv 0) pa_nil)) (nomark _)) (pe_gint rfl T.g_WHOLE) (pe_gint rfl T.g_BEGINNING)))) pss_nil) (pss_one (ps_ret (pe_ifM (pt_cmpR op_eq (pv 2) (pe_callB call_lenM (by rfl) T.n_len PySem.boot_len (pa_cons (pv 0) pa_nil)) (nomark _)) (pe_gint rfl T.g_END) (pe_gint rfl T.g_WITHIN))))), ?_⟩
    unfold partF at q
    (repeat walk_at "rd")
    refine br_eby (fun h => ?_) (fun h => ?_)
    · rw [if_pos h] at q
      (repeat walk_at "rd")
      refine br_eby (fun h1 => ?_) (fun h1 => ?_)
      · rw [if_pos h1] at q
        (repeat walk_at "rd")
        exact q
      · rw [if_neg h1] at q
        (repeat walk_at "rd")
        exact q
    · rw [if_neg h] at q
      (repeat walk_at "rd")
      refine br_eby (fun h1 => ?_) (fun h1 => ?_)
      · rw [if_pos h1] at q
        (repeat walk_at "rd")
        exact q
      · rw [if_neg h1] at q
        (repeat walk_at "rd")
        exact q
def sp_cut (K : PySem.W.Frag) : Sp := fun vs H Q _ => ∃ (bits : Int) (poll : Bool) (n : Int) (a : Addr) (ds : List Int) (s' e' r' : Int), vs = [.int bits, .bl poll, .int n, .ref a, .int s', .int e', .int r'] ∧ (1 ≤ bits ∧ bits ≤ 100) ∧ SqL K H a (ds.map V.int) ∧ ds.length ≤ 200 ∧ (0 ≤ s' ∧ s' < 256) ∧ (s' < e') ∧
  (endF bits ds.length s' e' r' ≤ s' → ∀ H', Same H H' → Q .non H') ∧
  (s' < endF bits ds.length s' e' r' → ∀ (t p : Addr) (H' : Hp), Same H H' → H' t = some (.tup [.ref p, .int (endF bits ds.length s' e' r')]) → H' p = some (.lst ((dataF bits poll n (partF ds.length s' (endF bits ds.length s' e' r')) s' (midF ds s' (endF bits ds.length s' e' r'))).map V.int)) → Q (.ref t) H')
@[irreducible] def ip_cut (K : PySem.W.Frag) : Sp := sp_cut K
theorem op_cut {K : PySem.W.Frag} {vs : List V} {H : Hp} {Q : VK} {E : XK} (h : sp_cut K vs H Q E) : ip_cut K vs H Q E := by
  unfold ip_cut
  exact h
theorem un_cut {K : PySem.W.Frag} {vs : List V} {H : Hp} {Q : VK} {E : XK} (h : ip_cut K vs H Q E) : sp_cut K vs H Q E := by
  unfold ip_cut at h
  exact h
theorem ok_cut (T : Tx P w K mg base) : FnOk P w K mg base CX0 6 T.a_cut T.d_cut ["bits", "poll", "number", "packet", "start", "stop", "room"] (ip_cut K) := by
  have G_field_bytes := ok_field_bytes T
  have G_u_part_of := ok_u_part_of T
  have G_u_data_widths := ok_u_data_widths T
  have G_data_piece := ok_data_piece T
  refine T.p_cut.F.ok sc_cut (fun vs H Q E h => ?_) (fun cdv A outer s H vs Q E hr h => ?_)
  · obtain ⟨bits, poll, n, a, ds, s', e', r', rfl, hb, hA, hd, hs, he, qn, qs⟩ := un_cut h
    rfl
  · obtain ⟨bits, poll, n, a, ds, s', e', r', rfl, hb, hA, hd, hs, he, qn, qs⟩ := un_cut h
    refine ⟨_, (pss_cons (ps_set (i := 7) sc_cut.nd rfl (Or.inl rfl) (pe_call G_field_bytes (hr.mono (by decide)) rfl T.p_field_bytes.m T.p_field_bytes.F.kp T.p_field_bytes.b .nil passL (pa_cons (pe_call G_u_data_widths (hr.mono (by decide)) rfl T.p_u_data_widths.m T.p_u_data_widths.F.kp T.p_u_data_widths.b .nil pass0 (pa_cons (pv 0) (pa_cons (pe_ifM (pt_cmpR op_eq (pv 4) pe_int (nomark _)) (pe_gint rfl T.g_BEGINNING) (pe_gint rfl T.g_WITHIN)) pa_nil))) pa_nil))) (pss_cons (ps_set (i := 8) sc_cut.nd rfl (Or.inl rfl) (pe_callB (call_min3M rfl) (by rfl) T.n_min (by decide +kernel) (pa_cons (pv 5) (pa_cons (pe_callB call_lenM (by rfl) T.n_len PySem.boot_len (pa_cons (pv 3) pa_nil)) (pa_cons (pe_op op_subM (pe_op op_addM (pv 4) (pv 6)) (pv 7)) pa_nil))))) (pss_cons (ps_ifM (pt_cmpR op_leM (pv 8) (pv 4) (nomark _)) (pss_one (ps_ret pe_non)) pss_nil) (pss_cons (ps_set (i := 9) sc_cut.nd rfl (Or.inl rfl) (pe_call G_u_part_of (hr.mono (by decide)) rfl T.p_u_part_of.m T.p_u_part_of.F.kp T.p_u_part_of.b .nil pass0 (pa_cons (pv 3) (pa_cons (pv 4) (pa_cons (pv 8) pa_nil))))) (pss_one (ps_ret (pe_tupM (pa_cons (pe_call G_data_piece (hr.mono (by decide)) rfl T.p_data_piece.m T.p_data_piece.F.kp T.p_data_piece.b .nil pass0 (pa_cons (pv 0) (pa_cons (pv 1) (pa_cons (pv 2) (pa_cons (pv 9) (pa_cons (pv 4) (pa_cons (pe_slice sl_listM (pv 3) (po_some (pv 4)) (po_some (pv 8))) pa_nil))))))) (pa_cons (pv 8) pa_nil))))))))), ?_⟩
    have main : ∀ (H1 : Hp) (wp : Addr), Same H H1 → H1 wp = some (.lst ((dataW bits (if s' = 0 then 1 else 3)).map V.int)) → ∀ Q2 : VK, (Q2 (.int (headF bits s')) H1) → ip_field_bytes K T.C_NotValid [.ref wp] H1 Q2 E0 := fun H1 wp s1 e1 Q2 k => by
      have hwk := dataW_wok (part := if s' = 0 then 1 else 3) hb.1
      exact op_field_bytes ⟨wp, _, rfl, sq_of e1, fun _ => k, fun h => by rw [hwk] at h; cases h⟩
    have fin : ∀ (H1 : Hp), Same H H1 → s' < endF bits ds.length s' e' r' → ∀ Q2 : VK, (∀ p b H3, Same H1 H3 → H3 p = some (.lst ((dataF bits poll n (partF ds.length s' (endF bits ds.length s' e' r')) s' (midF ds s' (endF bits ds.length s' e' r'))).map V.int)) → b = b → Q2 (.ref p) H3) → mSlL K (.ref a) (some s') (some (endF bits ds.length s' e' r')) H1 (fun v H2 => ip_data_piece K [.int bits, .bl poll, .int n, .int (partF ds.length s' (endF bits ds.length s' e' r')), .int s', v] H2 Q2 E0) := fun H1 s1 hlt Q2 k => by
      have hle : endF bits ds.length s' e' r' ≤ (ds.length : Int) := by unfold endF; omega
      refine rd_sl (s1.seq hA) fun b H2 n2 s2 e2 => ?_
      rw [cutV_mid hs.1 (by omega) hle] at e2
      have hml := midF_len (ds := ds) hs.1 (by omega : s' ≤ endF bits ds.length s' e' r') hle
      have hpt : 0 ≤ partF ds.length s' (endF bits ds.length s' e' r') ∧ partF ds.length s' (endF bits ds.length s' e' r') < 4 := by
        unfold partF
        split <;> split <;> decide
      exact op_data_piece ⟨bits, poll, n, _, s', b, _, rfl, hb, hpt, hs, e2, by omega, fun p3 H3 n3 s3 e3 => k p3 b H3 (s2.trans s3) e3 rfl⟩
    have rest : ∀ (H1 : Hp), Same H H1 → ∀ x : Int, x = endF bits ds.length s' e' r' → x = x := fun _ _ _ _ => rfl
    (repeat walk_at "rd")
    refine br_eby (fun h0 => ?_) (fun h0 => ?_)
    all_goals
      (repeat walk_at "rd")
      refine op_u_data_widths ⟨bits, _, rfl, fun wp H1 n1 s1 e1 => ?_⟩
      (repeat walk_at "rd")
      refine main H1 wp s1 (by rw [e1]; first | rw [if_pos h0] | rw [if_neg h0]) _ ?_
      (repeat walk_at "rd")
      have ee : min (min e' (ds.length : Int)) (s' + r' - headF bits s') = endF bits ds.length s' e' r' := rfl
      rw [ee]
      refine br_by (fun hle => ?_) (fun hlt => ?_)
      · (repeat walk_at "rd")
        exact qn hle H1 s1
      · (repeat walk_at "rd")
        refine op_u_part_of ⟨a, ds, _, _, rfl, s1.seq hA, ?_⟩
        (repeat walk_at "rd")
        refine fin H1 s1 (by omega) _ fun p b H3 s3 e3 _ => ?_
        (repeat walk_at "rd")
        intro t H4 n4 s4 e4
        exact qs (by omega) t p H4 ((s1.trans s3).trans s4) e4 (s4 _ _ e3)
def sp_u_law_part (K : PySem.W.Frag) : Sp := fun vs H Q _ => ∃ (a : Addr) (ds : List Int) (s' e' : Int), vs = [.ref a, .int s', .int e'] ∧ SqL K H a (ds.map V.int) ∧ 0 ≤ s' ∧ e' ≤ (ds.length : Int) ∧ Q (.int (partF ds.length s' e')) H
@[irreducible] def ip_u_law_part (K : PySem.W.Frag) : Sp := sp_u_law_part K
theorem op_u_law_part {K : PySem.W.Frag} {vs : List V} {H : Hp} {Q : VK} {E : XK} (h : sp_u_law_part K vs H Q E) : ip_u_law_part K vs H Q E := by
  unfold ip_u_law_part
  exact h
theorem un_u_law_part {K : PySem.W.Frag} {vs : List V} {H : Hp} {Q : VK} {E : XK} (h : ip_u_law_part K vs H Q E) : sp_u_law_part K vs H Q E := by
  unfold ip_u_law_part at h
  exact h
theorem ok_u_law_part (T : Tx P w K mg base) : FnOk P w K mg base CX0 1 T.a_u_law_part T.d_u_law_part ["packet", "start", "end"] (ip_u_law_part K) := by
  refine T.p_u_law_part.F.ok sc_u_law_part (fun vs H Q E h => ?_) (fun cdv A outer s H vs Q E hr h => ?_)
  · obtain ⟨a, ds, s', e', rfl, hA, hs, he, q⟩ := un_u_law_part h
    rfl
  · obtain ⟨a, ds, s', e', rfl, hA, hs, he, q⟩ := un_u_law_part h
    refine ⟨_, (pss_one (ps_ret (pe_op op_addM (pe_op op_addM (pe_op op_mulM pe_int (pe_callTy call_int1 (by rfl) T.n_int (by decide +kernel) (pa_cons (pe_cmpR op_gtM (pv 1) pe_int (nomark _)) pa_nil))) (pe_callTy call_int1 (by rfl) T.n_int (by decide +kernel) (pa_cons (pe_andM (pe_cmpR op_eq (pv 1) pe_int (nomark _)) (pe_one (pe_cmpR op_ltM (pv 2) (pe_callB call_lenM (by rfl) T.n_len PySem.boot_len (pa_cons (pv 0) pa_nil)) (nomark _)))) pa_nil))) (pe_callTy call_int1 (by rfl) T.n_int (by decide +kernel) (pa_cons (pe_andM (pe_cmpR op_gtM (pv 1) pe_int (nomark _)) (pe_one (pe_cmpR op_ltM (pv 2) (pe_callB call_lenM (by rfl) T.n_len PySem.boot_len (pa_cons (pv 0) pa_nil)) (nomark _)))) pa_nil))))), ?_⟩
    (repeat walk_at "rd")
    refine br_eby (fun h => ?_) (fun h => ?_)
    · (repeat walk_at "rd")
      refine br_f (by omega) ?_
      (repeat walk_at "rd")
      refine q_int q ?_
      unfold partF
      by_cases h1 : e' = (ds.length : Int)
      · simp [h, h1]
      · simp [h, h1, show e' < (ds.length : Int) by omega]
    · (repeat walk_at "rd")
      refine br_t (by omega) ?_
      (repeat walk_at "rd")
      refine q_int q ?_
      unfold partF
      by_cases h1 : e' = (ds.length : Int)
      · simp [h, h1, show 0 < s' by omega]
      · simp [h, h1, show e' < (ds.length : Int) by omega, show 0 < s' by omega]
def sp_u_law_length (K : PySem.W.Frag) : Sp := fun vs H Q _ => ∃ (bits : Int) (a : Addr) (s' e' : Int), vs = [.int bits, .ref a, .int s', .int e'] ∧ Q (.int (headF bits s' + e' - s')) H
@[irreducible] def ip_u_law_length (K : PySem.W.Frag) : Sp := sp_u_law_length K
theorem op_u_law_length {K : PySem.W.Frag} {vs : List V} {H : Hp} {Q : VK} {E : XK} (h : sp_u_law_length K vs H Q E) : ip_u_law_length K vs H Q E := by
  unfold ip_u_law_length
  exact h
theorem un_u_law_length {K : PySem.W.Frag} {vs : List V} {H : Hp} {Q : VK} {E : XK} (h : ip_u_law_length K vs H Q E) : sp_u_law_length K vs H Q E := by
  unfold ip_u_law_length at h
  exact h
theorem ok_u_law_length (T : Tx P w K mg base) : FnOk P w K mg base CX0 1 T.a_u_law_length T.d_u_law_length ["bits", "packet", "start", "end"] (ip_u_law_length K) := by
  refine T.p_u_law_length.F.ok sc_u_law_length (fun vs H Q E h => ?_) (fun cdv A outer s H vs Q E hr h => ?_)
  · obtain ⟨bits, a, s', e', rfl, q⟩ := un_u_law_length h
    rfl
  · obtain ⟨bits, a, s', e', rfl, q⟩ := un_u_law_length h
    refine ⟨_, (pss_cons (ps_ifM (pt_cmpR op_eq (pv 2) pe_int (nomark _)) (pss_one (ps_ret (pe_op op_subM (pe_op op_addM (pe_op op_fdivM (pe_op op_addM (pe_op op_addM pe_int (pv 0)) pe_int) pe_int) (pv 3)) (pv 2)))) pss_nil) (pss_one (ps_ret (pe_op op_subM (pe_op op_addM (pe_op op_fdivM (pe_op op_addM (pe_op op_addM pe_int (pv 0)) pe_int) pe_int) (pv 3)) (pv 2))))), ?_⟩
    rw [headF_eq] at q
    (repeat walk_at "rd")
    refine br_eby (fun h => ?_) (fun h => ?_)
    · rw [if_pos h] at q
      (repeat walk_at "rd")
      exact q
    · rw [if_neg h] at q
      (repeat walk_at "rd")
      exact q
def lawEnd (bits s' e' r' : Int) : V := if s' < min e' (s' + r' - headF bits s') then .int (min e' (s' + r' - headF bits s')) else .non
def sp_u_law_end (K : PySem.W.Frag) : Sp := fun vs H Q _ => ∃ (bits : Int) (a : Addr) (s' e' r' : Int), vs = [.int bits, .ref a, .int s', .int e', .int r'] ∧ (0 ≤ s' ∧ s' < 1000) ∧ (s' ≤ e' ∧ e' ≤ 1000) ∧ Q (lawEnd bits s' e' r') H
theorem cpS {F : L2.St → Hp → Prop} {σ σ' : L2.St} {H : Hp} (e : σ' = σ) (h : F σ' H) : F σ H := e ▸ h
theorem lawEnd_step {bits s' e' r' : Int} : lawEnd bits s' (e' + 1) r' = if headF bits s' + (e' + 1) - s' ≤ r' then (if s' ≤ e' then .int (e' + 1) else lawEnd bits s' (e' + 1) r') else lawEnd bits s' e' r' := by
  unfold lawEnd
  generalize headF bits s' = h
  by_cases h1 : h + (e' + 1) - s' ≤ r'
  · rw [if_pos h1]
    by_cases h2 : s' ≤ e'
    · rw [if_pos h2, if_pos (by omega)]
      congr 1
      omega
    · rw [if_neg h2]
  · rw [if_neg h1]
    have e : min (e' + 1) (s' + r' - h) = min e' (s' + r' - h) := by omega
    rw [e]
@[irreducible] def ip_u_law_end (K : PySem.W.Frag) : Sp := sp_u_law_end K
theorem op_u_law_end {K : PySem.W.Frag} {vs : List V} {H : Hp} {Q : VK} {E : XK} (h : sp_u_law_end K vs H Q E) : ip_u_law_end K vs H Q E := by
  unfold ip_u_law_end
  exact h
theorem un_u_law_end {K : PySem.W.Frag} {vs : List V} {H : Hp} {Q : VK} {E : XK} (h : ip_u_law_end K vs H Q E) : sp_u_law_end K vs H Q E := by
  unfold ip_u_law_end at h
  exact h
theorem ok_u_law_end (T : Tx P w K mg base) : FnOk P w K mg base CX0 2 T.a_u_law_end T.d_u_law_end ["bits", "packet", "start", "stop", "room"] (ip_u_law_end K) := by
  have G_u_law_length := ok_u_law_length T
  refine T.p_u_law_end.F.ok sc_u_law_end (fun vs H Q E h => ?_) (fun cdv A outer s H vs Q E hr h => ?_)
  · obtain ⟨bits, a, s', e', r', rfl, hs, he, q⟩ := un_u_law_end h
    rfl
  · obtain ⟨bits, a, s', e', r', rfl, hs, he, q⟩ := un_u_law_end h
    refine ⟨_, (pss_cons (ps_set (i := 5) sc_u_law_end.nd rfl (Or.inl rfl) pe_non) (pss_cons (ps_forR2 PassesOwn.never rfl rfl T.n_range (pa_cons (pe_op op_addM (pv 2) pe_int) (pa_cons (pe_op op_addM (pv 3) pe_int) pa_nil)) (pg_name (i := 6) sc_u_law_end.nd rfl (Or.inl rfl)) (pss_one (ps_ifM (pt_cmpR op_leM (pe_call G_u_law_length (hr.mono (by decide)) rfl T.p_u_law_length.m T.p_u_law_length.F.kp T.p_u_law_length.b .nil pass0 (pa_cons (pv 0) (pa_cons (pv 1) (pa_cons (pv 2) (pa_cons (pv 6) pa_nil))))) (pv 4) (nomark _)) (pss_one (ps_set (i := 5) sc_u_law_end.nd rfl (Or.inl rfl) (pv 6))) pss_nil))) (pss_one (ps_ret (pv 5))))), ?_⟩
    (repeat walk_at "rd")
    refine rd_forR2 ?_
    (repeat walk_at "rd")
    refine ⟨s' + 1, e' + 1, fun i σ H' => Stop (H' = H ∧ ∃ x, σ = [some (.int bits), some (.ref a), some (.int s'), some (.int e'), some (.int r'), some (lawEnd bits s' (s' + i) r'), x]), rfl, ⟨by omega, by omega, by omega, by omega⟩, .a ⟨rfl, none, ?_⟩, fun i σ' H' hi p => ?_, fun σ' H' p => ?_⟩
    · unfold lawEnd
      rw [if_neg (by omega)]
      rfl
    · obtain ⟨rfl, x, rfl⟩ := p.un
      have st := lawEnd_step (bits := bits) (s' := s') (e' := s' + i) (r' := r')
      have e1 : s' + ((i + 1 : Nat) : Int) = s' + i + 1 := by omega
      (repeat walk_at "rd")
      refine op_u_law_length ⟨bits, a, _, _, rfl, ?_⟩
      (repeat walk_at "rd")
      refine br_by (fun h => ?_) (fun h => ?_)
      · (repeat walk_at "rd")
        refine .a ⟨rfl, some (.int (s' + 1 + i)), ?_⟩
        rw [e1, st, if_pos (by omega), if_pos (by omega)]
        have e2 : s' + 1 + (i : Int) = s' + i + 1 := by omega
        rw [e2]
        rfl
      · refine .a ⟨rfl, some (.int (s' + 1 + i)), ?_⟩
        rw [e1, st, if_neg (by omega)]
        rfl
    · obtain ⟨rfl, x, rfl⟩ := p.un
      (repeat walk_at "rd")
      have e1 : s' + (((e' + 1 - (s' + 1)).toNat : Nat) : Int) = e' := by omega
      rw [e1]
      exact q
def sp_u_law_right (K : PySem.W.Frag) : Sp := fun vs H Q _ => ∃ (bits : Int) (poll : Bool) (n : Int) (a : Addr) (ds : List Int) (s' e' r' : Int), vs = [.int bits, .bl poll, .int n, .ref a, .int s', .int e', .int r'] ∧ (1 ≤ bits ∧ bits ≤ 100) ∧ SqL K H a (ds.map V.int) ∧ (∀ d ∈ ds, 0 ≤ d ∧ d < 256) ∧ ds.length ≤ 200 ∧ (0 ≤ s' ∧ s' < 200) ∧ (s' < e' ∧ e' ≤ (ds.length : Int)) ∧ ∀ H', Same H H' → Q (.bl true) H'
@[irreducible] def ip_u_law_right (K : PySem.W.Frag) : Sp := sp_u_law_right K
theorem op_u_law_right {K : PySem.W.Frag} {vs : List V} {H : Hp} {Q : VK} {E : XK} (h : sp_u_law_right K vs H Q E) : ip_u_law_right K vs H Q E := by
  unfold ip_u_law_right
  exact h
theorem un_u_law_right {K : PySem.W.Frag} {vs : List V} {H : Hp} {Q : VK} {E : XK} (h : ip_u_law_right K vs H Q E) : sp_u_law_right K vs H Q E := by
  unfold ip_u_law_right at h
  exact h
theorem ok_u_law_right (T : Tx P w K mg base) : FnOk P w K mg base CX0 7 T.a_u_law_right T.d_u_law_right ["bits", "poll", "number", "packet", "start", "stop", "room"] (ip_u_law_right K) := by
  have G_cut := ok_cut T
  have G_u_law_end := ok_u_law_end T
  have G_read_piece := ok_read_piece T
  have G_u_law_length := ok_u_law_length T
  have G_u_law_part := ok_u_law_part T
  have G_u_law_two := ok_u_law_two T
  refine T.p_u_law_right.F.ok sc_u_law_right (fun vs H Q E h => ?_) (fun cdv A outer s H vs Q E hr h => ?_)
  · obtain ⟨bits, poll, n, a, ds, s', e', r', rfl, hb, hA, hd, hl, hs, he, q⟩ := un_u_law_right h
    rfl
  · obtain ⟨bits, poll, n, a, ds, s', e', r', rfl, hb, hA, hd, hl, hs, he, q⟩ := un_u_law_right h
    refine ⟨_, (pss_cons (ps_set (i := 7) sc_u_law_right.nd rfl (Or.inl rfl) (pe_call G_cut (hr.mono (by decide)) rfl T.p_cut.m T.p_cut.F.kp T.p_cut.b .nil pass0 (pa_cons (pv 0) (pa_cons (pv 1) (pa_cons (pv 2) (pa_cons (pv 3) (pa_cons (pv 4) (pa_cons (pv 5) (pa_cons (pv 6) pa_nil))))))))) (pss_cons (ps_set (i := 8) sc_u_law_right.nd rfl (Or.inl rfl) (pe_call G_u_law_end (hr.mono (by decide)) rfl T.p_u_law_end.m T.p_u_law_end.F.kp T.p_u_law_end.b .nil pass0 (pa_cons (pv 0) (pa_cons (pv 3) (pa_cons (pv 4) (pa_cons (pv 5) (pa_cons (pv 6) pa_nil))))))) (pss_cons (ps_ifM (PW.pt (pw_orM (pt_cmpR op_isN (pv 8) pe_non (nomark _)) (pw_or1 (pt_cmpR op_isN (pv 7) pe_non (nomark _))))) (pss_one (ps_ret (pe_andM (pe_cmpR op_isN (pv 8) pe_non (nomark _)) (pe_one (pe_cmpR op_isN (pv 7) pe_non (nomark _)))))) pss_nil) (pss_cons (ps_ifM (PW.pt (pw_orM (pt_not (pt_val (pe_callB call_isiM (by rfl) T.n_isinstance (by decide +kernel) (pa_cons (pv 7) (pa_cons (pe_bltn (v := .ty "tuple") rfl T.n_tuple (by decide +kernel) rfl) pa_nil))))) (pw_orM (pt_cmpR op_ne (pe_callB call_lenM (by rfl) T.n_len PySem.boot_len (pa_cons (pv 7) pa_nil)) pe_int (nomark _)) (pw_or1 (pt_cmpR op_ne (pe_ix ix_tupM (pv 7) pe_int (fun _ _ => rfl)) (pv 8) (nomark _)))))) (pss_one (ps_ret pe_bl)) pss_nil) (pss_cons (ps_ifM (pt_cmpR op_ne (pe_callB call_lenM (by rfl) T.n_len PySem.boot_len (pa_cons (pe_ix ix_tupM (pv 7) pe_int (fun _ _ => rfl)) pa_nil)) (pe_call G_u_law_length (hr.mono (by decide)) rfl T.p_u_law_length.m T.p_u_law_length.F.kp T.p_u_law_length.b .nil pass0 (pa_cons (pv 0) (pa_cons (pv 3) (pa_cons (pv 4) (pa_cons (pv 8) pa_nil))))) (nomark _)) (pss_one (ps_ret pe_bl)) pss_nil) (pss_cons (ps_set (i := 9) sc_u_law_right.nd rfl (Or.inl rfl) (pe_call G_read_piece (hr.mono (by decide)) rfl T.p_read_piece.m T.p_read_piece.F.kp T.p_read_piece.b .nil pass0 (pa_cons (pv 0) (pa_cons (pe_ix ix_tupM (pv 7) pe_int (fun _ _ => rfl)) pa_nil)))) (pss_one (ps_ret (pe_cmpR (op_eqDM hr.units) (pv 9) (pe_tupM (pa_cons pe_str (pa_cons (pv 1) (pa_cons (pe_op op_modM (pe_callTy call_int1 (by rfl) T.n_int (by decide +kernel) (pa_cons (pv 2) pa_nil)) (pe_call G_u_law_two (hr.mono (by decide)) rfl T.p_u_law_two.m T.p_u_law_two.F.kp T.p_u_law_two.b .nil pass0 (pa_cons (pv 0) pa_nil))) (pa_cons (pe_call G_u_law_part (hr.mono (by decide)) rfl T.p_u_law_part.m T.p_u_law_part.F.kp T.p_u_law_part.b .nil pass0 (pa_cons (pv 3) (pa_cons (pv 4) (pa_cons (pv 8) pa_nil)))) (pa_cons (pv 4) (pa_cons (pe_slice sl_listM (pv 3) (po_some (pv 4)) (po_some (pv 8))) pa_nil))))))) (nomark _)))))))))), ?_⟩
    have ee : min e' (s' + r' - headF bits s') = endF bits ds.length s' e' r' := by unfold endF; omega
    (repeat walk_at "rd")
    refine op_cut ⟨bits, poll, n, a, ds, s', e', r', rfl, hb, hA, hl, ⟨hs.1, by omega⟩, he.1, fun hle H1 s1 => ?_, fun hlt t p H1 s1 e1 e2 => ?_⟩
    · (repeat walk_at "rd")
      refine op_u_law_end ⟨bits, a, s', e', r', rfl, ⟨hs.1, by omega⟩, ⟨by omega, by omega⟩, ?_⟩
      unfold lawEnd
      rw [ee, if_neg (by omega)]
      (repeat walk_at "rd")
      exact q H1 s1
    generalize hE : endF bits ds.length s' e' r' = E1 at *
    (repeat walk_at "rd")
    refine op_u_law_end ⟨bits, a, s', e', r', rfl, ⟨hs.1, by omega⟩, ⟨by omega, by omega⟩, ?_⟩
    unfold lawEnd
    rw [ee, if_pos hlt]
    (repeat walk_at "rd")
    refine rd_isiTT e1 ?_
    (repeat walk_at "rd")
    refine rd_lenT (st_of e1) ?_
    (repeat walk_at "rd")
    refine br_ni rfl ?_
    (repeat walk_at "rd")
    refine rd_ixT (st_of e1) rfl ?_
    (repeat walk_at "rd")
    refine br_ni rfl ?_
    (repeat walk_at "rd")
    refine rd_ixT (st_of e1) rfl ?_
    (repeat walk_at "rd")
    have hEl : E1 ≤ (ds.length : Int) := by rw [← hE]; unfold endF; omega
    have hml := midF_len (ds := ds) hs.1 (by omega : s' ≤ E1) hEl
    have hpt : 0 ≤ partF ds.length s' E1 ∧ partF ds.length s' E1 < 4 := by
      unfold partF
      split <;> split <;> decide
    have hlen : ((dataF bits poll n (partF ds.length s' E1) s' (midF ds s' E1)).length : Int) = headF bits s' + E1 - s' := by
      unfold dataF
      rw [List.length_append]
      have h1 := packF_length (vs := dataVals poll (n % 2 ^ bits.toNat) (partF ds.length s' E1) s') (dataW_wok (part := partF ds.length s' E1) hb.1)
      have h2 : dataW bits (partF ds.length s' E1) = dataW bits (if s' = 0 then 1 else 3) := by
        unfold dataW partF
        by_cases h0 : s' = 0
        · rw [if_pos h0, if_pos h0]
          split <;> rfl
        · rw [if_neg h0, if_neg h0]
          split <;> rfl
      rw [h2] at h1
      unfold headF
      rw [← h2] at h1 ⊢
      omega
    refine op_u_law_length ⟨bits, a, s', E1, rfl, ?_⟩
    (repeat walk_at "rd")
    refine br_ni (by omega) ?_
    (repeat walk_at "rd")
    refine rd_ixT (st_of e1) rfl ?_
    (repeat walk_at "rd")
    have hmb : ∀ d ∈ midF ds s' E1, 0 ≤ d ∧ d < 256 := fun d h => hd d (midF_mem h)
    refine op_read_piece ⟨bits, p, _, rfl, hb, sq_of e2, fun d h => ?_, ?_, fun v H2 s2 hv => ?_⟩
    · unfold dataF at h
      rcases List.mem_append.mp h with h | h
      · exact packF_byte h
      · exact hmb d h
    · have := size_data (part := partF ds.length s' E1) hb.1 hb.2
      have : headF bits s' ≤ 20 := (size_data (part := if s' = 0 then 1 else 3) hb.1 hb.2).2
      omega
    rw [read_data hb.1 hpt ⟨hs.1, by omega⟩ hmb (by intro e; rw [e] at hml; simp at hml; omega)] at hv
    have hoff : (if hasOff (partF ds.length s' E1) = true then s' else 0) = s' := by
      by_cases h0 : s' = 0
      · rw [h0]
        split <;> rfl
      · rw [if_pos]
        unfold partF
        rw [if_neg h0]
        split <;> rfl
    rw [hoff] at hv
    (repeat walk_at "rd")
    refine op_u_law_two ⟨bits, rfl, by omega, by omega, ?_⟩
    (repeat walk_at "rd")
    refine ⟨pow_nn _, ?_⟩
    (repeat walk_at "rd")
    have s02 : Same H H2 := s1.trans s2
    refine op_u_law_part ⟨a, ds, s', E1, rfl, s02.seq hA, hs.1, hEl, ?_⟩
    (repeat walk_at "rd")
    refine rd_sl (s02.seq hA) fun b H3 n3 s3 e3 => ?_
    rw [cutV_mid hs.1 (by omega) hEl] at e3
    (repeat walk_at "rd")
    intro t4 H4 n4 s4 e4
    refine rd_eqS _ (hv.mono (s3.trans s4)).dp (PartsAt.dp (r := some (.data poll (n % 2 ^ bits.toNat) (partF ds.length s' E1) s' (midF ds s' E1))) ⟨t4, b, rfl, e4, s4 _ _ e3⟩) (sh_parts _) ?_
    exact q _ ((s02.trans s3).trans s4)
def sp_law (K : PySem.W.Frag) : Sp := fun vs H Q _ => ∃ (a : Addr) (ns : List Int), vs = [.ref a] ∧ SqL K H a (ns.map V.int) ∧ ns.length ≤ 63 ∧ ∀ H', Q (.bl true) H'
@[irreducible] def ip_law (K : PySem.W.Frag) : Sp := sp_law K
theorem op_law {K : PySem.W.Frag} {vs : List V} {H : Hp} {Q : VK} {E : XK} (h : sp_law K vs H Q E) : ip_law K vs H Q E := by
  unfold ip_law
  exact h
theorem un_law {K : PySem.W.Frag} {vs : List V} {H : Hp} {Q : VK} {E : XK} (h : ip_law K vs H Q E) : sp_law K vs H Q E := by
  unfold ip_law at h
  exact h
theorem ok_law (T : Tx P w K mg base) : FnOk P w K mg base CX0 8 T.a_law T.d_law ["script"] (ip_law K) := by
  have G_u_law_tape := ok_u_law_tape T
  have G_u_law_at := ok_u_law_at T
  have G_u_law_right := ok_u_law_right T
  have G_cut := ok_cut T
  have G_u_law_length := ok_u_law_length T
  have G_read_piece := ok_read_piece T
  refine T.p_law.F.ok sc_law (fun vs H Q E h => ?_) (fun cdv A outer s H vs Q E hr h => ?_)
  · obtain ⟨a, ns, rfl, hS, hlen, q⟩ := un_law h
    rfl
  · obtain ⟨a, ns, rfl, hS, hlen, q⟩ := un_law h
    refine ⟨_, (pss_cons (ps_set (i := 1) sc_law.nd rfl (Or.inr rfl) (pe_call G_u_law_tape (hr.mono (by decide)) rfl T.p_u_law_tape.m T.p_u_law_tape.F.kp T.p_u_law_tape.b .nil pass0 (pa_cons (pv 0) pa_nil))) (pss_cons (ps_set (i := 2) sc_law.nd rfl (Or.inl rfl) (pe_op op_addM pe_int (pe_op op_modM (pe_call G_u_law_at (hr.mono (by decide)) rfl T.p_u_law_at.m T.p_u_law_at.F.kp T.p_u_law_at.b .nil pass0 (pa_cons (pv 1) (pa_cons pe_int pa_nil))) pe_int))) (pss_cons (ps_set (i := 3) sc_law.nd rfl (Or.inl rfl) (pe_op op_addM pe_int (pe_op op_modM (pe_call G_u_law_at (hr.mono (by decide)) rfl T.p_u_law_at.m T.p_u_law_at.F.kp T.p_u_law_at.b .nil pass0 (pa_cons (pv 1) (pa_cons pe_int pa_nil))) (pe_ix ix_listM (pe_lstM (pa_cons pe_int (pa_cons pe_int (pa_cons pe_int pa_nil)))) (pe_op op_modM (pe_call G_u_law_at (hr.mono (by decide)) rfl T.p_u_law_at.m T.p_u_law_at.F.kp T.p_u_law_at.b .nil pass0 (pa_cons (pv 1) (pa_cons pe_int pa_nil))) pe_int) (fun _ _ => rfl))))) (pss_cons (ps_setLcR1 (i := 4) rfl sc_law.nd rfl rfl (sw_true rfl rfl rfl (by decide +kernel)) rfl T.n_range (pa_cons (pv 3) pa_nil) (blkOk_by (own := [("k", 15)]) (N := ["script", "tape", "bits", "size", "packet", "kept", "start", "stop", "number", "poll", "room", "body", "at", "turn", "found", "k"]) (sc := defScope S_law) (by decide +kernel)) (fun _ _ _ _ _ => (pg_name (i := 15) sc_law.nd rfl (Or.inl rfl))) (fun _ _ _ _ _ => (pe_op op_modM (pe_op op_addM (pe_op op_mulM (pe_call G_u_law_at (hr.mono (by decide)) rfl T.p_u_law_at.m T.p_u_law_at.F.kp T.p_u_law_at.b .nil pass0 (pa_cons (pv 1) (pa_cons pe_int pa_nil))) (pe_op op_addM (pv 15) pe_int)) (pe_op op_mulM pe_int (pv 15))) pe_int))) (pss_cons (ps_set (i := 5) sc_law.nd rfl (Or.inl rfl) (pe_callTy call_listM (by rfl) T.n_list (by decide +kernel) (pa_cons (pv 4) pa_nil))) (pss_cons (ps_set (i := 6) sc_law.nd rfl (Or.inl rfl) (pe_op op_modM (pe_call G_u_law_at (hr.mono (by decide)) rfl T.p_u_law_at.m T.p_u_law_at.F.kp T.p_u_law_at.b .nil pass0 (pa_cons (pv 1) (pa_cons pe_int pa_nil))) (pv 3))) (pss_cons (ps_ifSet (i := 6) (pt_cmpR op_eq (pe_op op_modM (pe_call G_u_law_at (hr.mono (by decide)) rfl T.p_u_law_at.m T.p_u_law_at.F.kp T.p_u_law_at.b .nil pass0 (pa_cons (pv 1) (pa_cons pe_int pa_nil))) pe_int) pe_int (nomark _)) sc_law.nd rfl (Or.inl rfl) pe_int) (pss_cons (ps_set (i := 7) sc_law.nd rfl (Or.inl rfl) (pe_op op_addM (pe_op op_addM (pv 6) pe_int) (pe_op op_modM (pe_call G_u_law_at (hr.mono (by decide)) rfl T.p_u_law_at.m T.p_u_law_at.F.kp T.p_u_law_at.b .nil pass0 (pa_cons (pv 1) (pa_cons pe_int pa_nil))) (pe_op op_subM (pv 3) (pv 6))))) (pss_cons (ps_ifSet (i := 7) (pt_cmpR op_eq (pe_op op_modM (pe_call G_u_law_at (hr.mono (by decide)) rfl T.p_u_law_at.m T.p_u_law_at.F.kp T.p_u_law_at.b .nil pass0 (pa_cons (pv 1) (pa_cons pe_int pa_nil))) pe_int) pe_int (nomark _)) sc_law.nd rfl (Or.inl rfl) (pv 3)) (pss_cons (ps_set (i := 8) sc_law.nd rfl (Or.inl rfl) (pe_call G_u_law_at (hr.mono (by decide)) rfl T.p_u_law_at.m T.p_u_law_at.F.kp T.p_u_law_at.b .nil pass0 (pa_cons (pv 1) (pa_cons pe_int pa_nil)))) (pss_cons (ps_set (i := 9) sc_law.nd rfl (Or.inl rfl) (pe_cmpR op_eq (pe_op op_modM (pv 8) pe_int) pe_int (nomark _))) (pss_cons (ps_set (i := 10) sc_law.nd rfl (Or.inl rfl) (pe_op op_modM (pe_call G_u_law_at (hr.mono (by decide)) rfl T.p_u_law_at.m T.p_u_law_at.F.kp T.p_u_law_at.b .nil pass0 (pa_cons (pv 1) (pa_cons pe_int pa_nil))) pe_int)) (pss_cons (ps_ifSet (i := 10) (pt_cmpR op_gtM (pe_op op_modM (pe_call G_u_law_at (hr.mono (by decide)) rfl T.p_u_law_at.m T.p_u_law_at.F.kp T.p_u_law_at.b .nil pass0 (pa_cons (pv 1) (pa_cons pe_int pa_nil))) pe_int) pe_int (nomark _)) sc_law.nd rfl (Or.inl rfl) (pe_callB (call_max2 rfl) (by rfl) T.n_max (by decide +kernel) (pa_cons pe_int (pa_cons (pe_op op_addM (pe_op op_subM (pe_call G_u_law_length (hr.mono (by decide)) rfl T.p_u_law_length.m T.p_u_law_length.F.kp T.p_u_law_length.b .nil pass0 (pa_cons (pv 2) (pa_cons (pv 4) (pa_cons (pv 6) (pa_cons (pv 7) pa_nil))))) pe_int) (pe_op op_modM (pe_call G_u_law_at (hr.mono (by decide)) rfl T.p_u_law_at.m T.p_u_law_at.F.kp T.p_u_law_at.b .nil pass0 (pa_cons (pv 1) (pa_cons pe_int pa_nil))) pe_int)) pa_nil)))) (pss_cons (ps_ifSet (i := 10) (pt_cmpR op_eq (pe_op op_modM (pe_call G_u_law_at (hr.mono (by decide)) rfl T.p_u_law_at.m T.p_u_law_at.F.kp T.p_u_law_at.b .nil pass0 (pa_cons (pv 1) (pa_cons pe_int pa_nil))) pe_int) pe_int (nomark _)) sc_law.nd rfl (Or.inl rfl) (pe_op op_modM (pe_call G_u_law_at (hr.mono (by decide)) rfl T.p_u_law_at.m T.p_u_law_at.F.kp T.p_u_law_at.b .nil pass0 (pa_cons (pv 1) (pa_cons pe_int pa_nil))) pe_int)) (pss_cons (ps_ifM (pt_not (pt_val (pe_call G_u_law_right (hr.mono (by decide)) rfl T.p_u_law_right.m T.p_u_law_right.F.kp T.p_u_law_right.b .nil pass0 (pa_cons (pv 2) (pa_cons (pv 9) (pa_cons (pv 8) (pa_cons (pv 4) (pa_cons (pv 6) (pa_cons (pv 7) (pa_cons (pv 10) pa_nil)))))))))) (pss_one (ps_ret pe_bl)) pss_nil) (pss_cons (ps_set (i := 10) sc_law.nd rfl (Or.inl rfl) (pe_callB (call_max2 rfl) (by rfl) T.n_max (by decide +kernel) (pa_cons pe_int (pa_cons (pv 10) pa_nil)))) (pss_cons (ps_set (i := 11) sc_law.nd rfl (Or.inl rfl) (pe_lstM pa_nil)) (pss_cons (ps_set (i := 12) sc_law.nd rfl (Or.inl rfl) (pv 6)) (pss_cons (ps_forR1 PassesOwn.never rfl rfl T.n_range (pa_cons pe_int pa_nil) (pg_name (i := 13) sc_law.nd rfl (Or.inl rfl)) (pss_one (ps_ifM (pt_cmpR op_ltM (pv 12) (pv 7) (nomark _)) (pss_cons (ps_set (i := 14) sc_law.nd rfl (Or.inl rfl) (pe_call G_cut (hr.mono (by decide)) rfl T.p_cut.m T.p_cut.F.kp T.p_cut.b .nil pass0 (pa_cons (pv 2) (pa_cons (pv 9) (pa_cons (pv 8) (pa_cons (pv 4) (pa_cons (pv 12) (pa_cons (pv 7) (pa_cons (pv 10) pa_nil))))))))) (pss_cons (ps_ifM (PW.pt (pw_orM (pt_cmpR op_isN (pv 14) pe_non (nomark _)) (pw_orM (pt_cmpR op_leM (pe_ix ix_tupM (pv 14) pe_int (fun _ _ => rfl)) (pv 12) (nomark _)) (pw_or1 (pt_not (pt_val (pe_call G_u_law_right (hr.mono (by decide)) rfl T.p_u_law_right.m T.p_u_law_right.F.kp T.p_u_law_right.b .nil pass0 (pa_cons (pv 2) (pa_cons (pv 9) (pa_cons (pv 8) (pa_cons (pv 4) (pa_cons (pv 12) (pa_cons (pv 7) (pa_cons (pv 10) pa_nil)))))))))))))) (pss_one (ps_ret pe_bl)) pss_nil) (pss_cons (ps_set (i := 11) sc_law.nd rfl (Or.inl rfl) (pe_op op_catM (pv 11) (pe_ix ix_tupM (pe_call G_read_piece (hr.mono (by decide)) rfl T.p_read_piece.m T.p_read_piece.F.kp T.p_read_piece.b .nil pass0 (pa_cons (pv 2) (pa_cons (pe_ix ix_tupM (pv 14) pe_int (fun _ _ => rfl)) pa_nil))) pe_int (fun _ _ => rfl)))) (pss_one (ps_set (i := 12) sc_law.nd rfl (Or.inl rfl) (pe_ix ix_tupM (pv 14) pe_int (fun _ _ => rfl))))))) pss_nil))) (pss_one (ps_ret (pe_andM (pe_cmpR op_eq (pv 12) (pv 7) (nomark _)) (pe_andM (pe_cmpR (op_eqDM hr.units) (pv 11) (pe_slice sl_listM (pv 4) (po_some (pv 6)) (po_some (pv 7))) (nomark _)) (pe_one (pe_cmpR (op_eqDM hr.units) (pv 4) (pv 5) (nomark _)))))))))))))))))))))))))), ?_⟩
    (repeat walk_at "rd")
    refine op_u_law_tape ⟨a, ns, rfl, hS, hlen, fun ts hts tp H1 n1 s1 e1 => ?_⟩
    have hT1 : SqL K H1 tp (ts.map V.int) := sq_of e1
    (repeat walk_at "rd")
    refine op_u_law_at ⟨tp, ts, _, rfl, hT1, hts, by decide, fun x0 a0 b0 _ => ?_⟩
    (repeat walk_at "rd")
    refine op_u_law_at ⟨tp, ts, _, rfl, hT1, hts, by decide, fun x1 a1 b1 _ => ?_⟩
    (repeat walk_at "rd")
    intro t2 H2 n2 s2 e2
    have hT2 := s2.seq hT1
    (repeat walk_at "rd")
    refine op_u_law_at ⟨tp, ts, _, rfl, hT2, hts, by decide, fun x2 a2 b2 _ => ?_⟩
    (repeat walk_at "rd")
    have ht : ∃ z : Int, atI [V.int 3, V.int 20, V.int 200] (x2 % 3) = some (.int z) ∧ 1 ≤ z ∧ z ≤ 200 := by
      have h3 : x2 % 3 = 0 ∨ x2 % 3 = 1 ∨ x2 % 3 = 2 := by omega
      rcases h3 with e | e | e <;> rw [e]
      · exact ⟨_, rfl, by decide, by decide⟩
      · exact ⟨_, rfl, by decide, by decide⟩
      · exact ⟨_, rfl, by decide, by decide⟩
    obtain ⟨z, hz, hz1, hz2⟩ := ht
    refine rd_ixL (sq_of e2) hz ?_
    (repeat walk_at "rd")
    have hsz : 0 ≤ x1 % z ∧ x1 % z < z := ⟨Int.emod_nonneg _ (by omega), Int.emod_lt_of_pos _ (by omega)⟩
    generalize hn : 1 + x1 % z = size
    have hs1 : 1 ≤ size ∧ size ≤ 200 := by omega
    refine rd_lcR1 ?_
    (repeat walk_at "rd")
    refine ⟨size, fun i => .int ((ts.getD 3 0 * ((i : Int) + 3) + 5 * i) % 256), rfl, ⟨by omega, by omega⟩, fun i hi H' s' => ?_, fun pp H3 n3 s3 e3 => ?_⟩
    · (repeat walk_at "rd")
      refine op_u_law_at ⟨tp, ts, _, rfl, s'.seq hT2, hts, by decide, fun x a b ex => ?_⟩
      (repeat walk_at "rd")
      refine ⟨?_, Same.refl _⟩
      rw [ex]
      rfl
    have hds : ∃ ds : List Int, (List.range size.toNat).map (fun (i : Nat) => V.int ((ts.getD 3 0 * ((i : Int) + 3) + 5 * i) % 256)) = ds.map V.int ∧ (ds.length : Int) = size ∧ ∀ d ∈ ds, 0 ≤ d ∧ d < 256 := by
      refine ⟨(List.range size.toNat).map (fun (i : Nat) => (ts.getD 3 0 * ((i : Int) + 3) + 5 * i) % 256), by rw [List.map_map]; rfl, by rw [List.length_map, List.length_range]; omega, fun w hw => ?_⟩
      obtain ⟨k, _, rfl⟩ := List.mem_map.mp hw
      omega
    obtain ⟨ds, eds, hdl, hd⟩ := hds
    rw [eds] at e3
    (repeat walk_at "rd")
    refine rd_list (sq_of e3) fun kp H4 n4 s4 e4 => ?_
    have s14 : Same H1 H4 := (s2.trans s3).trans s4
    have hT : SqL K H4 tp (ts.map V.int) := s14.seq hT1
    have hP : SqL K H4 pp (ds.map V.int) := sq_of (s4 _ _ e3)
    (repeat walk_at "rd")
    refine op_u_law_at ⟨tp, ts, _, rfl, hT, hts, by decide, fun x4 a4 b4 _ => ?_⟩
    have h4 : 0 ≤ x4 % size ∧ x4 % size < size := ⟨Int.emod_nonneg _ (by omega), Int.emod_lt_of_pos _ (by omega)⟩
    (repeat walk_at "rd")
    refine op_u_law_at ⟨tp, ts, _, rfl, hT, hts, by decide, fun x5 a5 b5 _ => ?_⟩
    (repeat walk_at "rd")
    refine rd_ifSet (fun v H' => H4 = H' ∧ ∃ st : Int, v = .int st ∧ 0 ≤ st ∧ st < size) (fun _ => ⟨rfl, 0, rfl, by omega, by omega⟩) (fun _ => ⟨_, rfl, rfl, _, rfl, h4⟩) ?_
    rintro _ _ ⟨rfl, st, rfl, hst⟩
    refine cpS (σ' := [_, _, _, _, _, _, _, _, _, _, _, _, _, _, _, _]) rfl ?_
    (repeat walk_at "rd")
    refine op_u_law_at ⟨tp, ts, _, rfl, hT, hts, by decide, fun x6 a6 b6 _ => ?_⟩
    have h6 : 0 ≤ x6 % (size - st) ∧ x6 % (size - st) < size - st := ⟨Int.emod_nonneg _ (by omega), Int.emod_lt_of_pos _ (by omega)⟩
    (repeat walk_at "rd")
    refine op_u_law_at ⟨tp, ts, _, rfl, hT, hts, by decide, fun x5' a5' b5' _ => ?_⟩
    (repeat walk_at "rd")
    refine rd_ifSet (fun v H' => H4 = H' ∧ ∃ sp : Int, v = .int sp ∧ st < sp ∧ sp ≤ size) (fun _ => ?_) (fun _ => ⟨_, rfl, rfl, _, rfl, by omega, by omega⟩) ?_
    · (repeat walk_at "rd")
      omega
    rintro _ _ ⟨rfl, sp, rfl, hsp⟩
    refine cpS (σ' := [_, _, _, _, _, _, _, _, _, _, _, _, _, _, _, _]) rfl ?_
    (repeat walk_at "rd")
    refine op_u_law_at ⟨tp, ts, _, rfl, hT, hts, by decide, fun x7 a7 b7 _ => ?_⟩
    (repeat walk_at "rd")
    refine op_u_law_at ⟨tp, ts, _, rfl, hT, hts, by decide, fun x8 a8 b8 _ => ?_⟩
    (repeat walk_at "rd")
    refine op_u_law_at ⟨tp, ts, _, rfl, hT, hts, by decide, fun x9 a9 b9 _ => ?_⟩
    (repeat walk_at "rd")
    refine rd_ifSet (fun v H' => H4 = H' ∧ ∃ rm : Int, v = .int rm) (fun _ => ?_) (fun _ => ⟨_, rfl, rfl, _, rfl⟩) ?_
    · (repeat walk_at "rd")
      refine op_u_law_length ⟨_, pp, st, sp, rfl, ?_⟩
      (repeat walk_at "rd")
      refine op_u_law_at ⟨tp, ts, _, rfl, hT, hts, by decide, fun y a b _ => ?_⟩
      (repeat walk_at "rd")
      exact ⟨_, rfl⟩
    rintro _ _ ⟨rfl, rm0, rfl⟩
    refine cpS (σ' := [_, _, _, _, _, _, _, _, _, _, _, _, _, _, _, _]) rfl ?_
    (repeat walk_at "rd")
    refine op_u_law_at ⟨tp, ts, _, rfl, hT, hts, by decide, fun x9' a9' b9' _ => ?_⟩
    (repeat walk_at "rd")
    refine rd_ifSet (fun v H' => H4 = H' ∧ ∃ rm : Int, v = .int rm) (fun _ => ?_) (fun _ => ⟨_, rfl, rfl, _, rfl⟩) ?_
    · (repeat walk_at "rd")
      refine op_u_law_at ⟨tp, ts, _, rfl, hT, hts, by decide, fun y a b _ => ?_⟩
      (repeat walk_at "rd")
      exact ⟨_, rfl⟩
    rintro _ _ ⟨rfl, rm1, rfl⟩
    refine cpS (σ' := [_, _, _, _, _, _, _, _, _, _, _, _, _, _, _, _]) rfl ?_
    have hbits : 1 ≤ 3 + x0 % 4 ∧ 3 + x0 % 4 ≤ 100 := by omega
    have hb36 : 3 ≤ 3 + x0 % 4 ∧ 3 + x0 % 4 ≤ 6 := by omega
    generalize 3 + x0 % 4 = bits at hbits hb36
    (repeat walk_at "rd")
    refine op_u_law_right ⟨bits, _, x7, pp, ds, st, sp, rm1, rfl, hbits, hP, hd, by omega, ⟨by omega, by omega⟩, ⟨by omega, by omega⟩, fun H5 s5 => ?_⟩
    (repeat walk_at "rd")
    refine ⟨_, _, rfl, ?_⟩
    have hrm : ∃ rm : Int, (if rm1 > 4 then rm1 else 4) = rm ∧ 4 ≤ rm := by
      refine ⟨_, rfl, ?_⟩
      split <;> omega
    obtain ⟨rm, erm, hrm⟩ := hrm
    rw [erm]
    (repeat walk_at "rd")
    intro bp H6 n6 s6 e6
    (repeat walk_at "rd")
    refine rd_forR1 ?_
    (repeat walk_at "rd")
    have s46 : Same H4 H6 := s5.trans s6
    refine ⟨200, fun i σ H' => Stop (Same H4 H' ∧ ∃ (c : Int) (bq : Addr), st ≤ c ∧ c ≤ sp ∧ (c = sp ∨ st + i ≤ c) ∧ H' bq = some (.lst ((midF ds st c).map V.int)) ∧ ∃ z1 z2 z3, σ = [some (.ref a), some (.ref tp), some (.int bits), some (.int size), some (.ref pp), some (.ref kp), some (.int st), some (.int sp), some (.int x7), some (.bl (decide (V.int (x7 % 2) = V.int 1))), some (.int rm), some (.ref bq), some (.int c), z1, z2, z3]), rfl, ⟨by decide, by decide⟩, .a ⟨s46, st, bp, by omega, by omega, by omega, ?_, _, _, _, rfl⟩, fun i σ' H' hi p => ?_, fun σ' H' p => ?_⟩
    · rw [e6]
      unfold midF
      rw [Int.sub_self]
      rfl
    · obtain ⟨sm, c, bq, h1, h2, h3, hbq, z1, z2, z3, rfl⟩ := p.un
      (repeat walk_at "rd")
      refine br_by (fun hc => ?_) (fun hc => ?_)
      rotate_left
      · exact .a ⟨sm, c, bq, h1, h2, by omega, hbq, _, _, _, rfl⟩
      have hprog : c < endF bits ds.length c sp rm := by
        unfold endF
        rw [headF_eq]
        split <;> omega
      have hElt : endF bits ds.length c sp rm ≤ sp := by unfold endF; omega
      have hP' : SqL K H' pp (ds.map V.int) := sm.seq hP
      (repeat walk_at "rd")
      refine op_cut ⟨bits, _, x7, pp, ds, c, sp, rm, rfl, hbits, hP', by omega, ⟨by omega, by omega⟩, hc, fun hle => absurd hle (by omega), fun _ t q2 H7 s7 e7 e8 => ?_⟩
      generalize hE : endF bits ds.length c sp rm = E1 at *
      (repeat walk_at "rd")
      refine rd_ixT (st_of e7) rfl ?_
      (repeat walk_at "rd")
      refine br_f (by omega) ?_
      (repeat walk_at "rd")
      refine op_u_law_right ⟨bits, _, x7, pp, ds, c, sp, rm, rfl, hbits, s7.seq hP', hd, by omega, ⟨by omega, by omega⟩, ⟨by omega, by omega⟩, fun H8 s8 => ?_⟩
      (repeat walk_at "rd")
      have s78 : Same H' H8 := s7.trans s8
      refine rd_ixT (st_of (s8 _ _ e7)) rfl ?_
      (repeat walk_at "rd")
      have hEl : E1 ≤ (ds.length : Int) := by omega
      have hml := midF_len (ds := ds) (by omega : 0 ≤ c) (by omega : c ≤ E1) hEl
      have hpt : 0 ≤ partF ds.length c E1 ∧ partF ds.length c E1 < 4 := by
        unfold partF
        split <;> split <;> decide
      have hmb : ∀ d ∈ midF ds c E1, 0 ≤ d ∧ d < 256 := fun d h => hd d (midF_mem h)
      refine op_read_piece ⟨bits, q2, _, rfl, hbits, sq_of (s8 _ _ e8), fun d h => ?_, ?_, fun v H9 s9 hv => ?_⟩
      · unfold dataF at h
        rcases List.mem_append.mp h with h | h
        · exact packF_byte h
        · exact hmb d h
      · unfold dataF
        rw [List.length_append]
        have h1 := packF_length (vs := dataVals (decide (V.int (x7 % 2) = V.int 1)) (x7 % 2 ^ bits.toNat) (partF ds.length c E1) c) (dataW_wok (part := partF ds.length c E1) hbits.1)
        have h2 := size_data (part := partF ds.length c E1) hbits.1 hbits.2
        omega
      rw [read_data hbits.1 hpt ⟨by omega, by omega⟩ hmb (by intro e; rw [e] at hml; simp at hml; omega)] at hv
      obtain ⟨vp, vb, rfl, hv1, hv2⟩ := hv
      (repeat walk_at "rd")
      refine rd_ixT (st_of hv1) rfl ?_
      (repeat walk_at "rd")
      refine rd_cat (s9 _ _ (s78 _ _ hbq)) hv2 (by
        rw [List.length_map, List.length_map]
        have := midF_len (ds := ds) (by omega : 0 ≤ st) (by omega : st ≤ c) (by omega)
        omega) fun bq2 H10 n10 s10 e10 => ?_
      rw [← List.map_append, midF_app (by omega) h1 (by omega)] at e10
      (repeat walk_at "rd")
      refine rd_ixT (st_of (s10 _ _ (s9 _ _ (s8 _ _ e7)))) rfl ?_
      (repeat walk_at "rd")
      exact .a ⟨((sm.trans s78).trans s9).trans s10, E1, bq2, by omega, by omega, by omega, e10, _, _, _, rfl⟩
    · obtain ⟨sm, c, bq, h1, h2, h3, hbq, z1, z2, z3, rfl⟩ := p.un
      have hcs : c = sp := by omega
      subst hcs
      (repeat walk_at "rd")
      refine br_t rfl ?_
      (repeat walk_at "rd")
      refine rd_sl (sm.seq hP) fun b7 H7 n7 s7 e7 => ?_
      rw [cutV_mid (by omega) (by omega) (by omega)] at e7
      refine rd_eqS _ (dp_ints (sq_of (s7 _ _ hbq))) (dp_ints (sq_of e7)) (sh_lst (sh_ints (n := 0) _)) ?_
      (repeat walk_at "rd")
      refine rd_eqS _ (dp_ints (s7.seq (sm.seq hP))) (dp_ints (sq_of (s7 _ _ (sm _ _ e4)))) (sh_lst (sh_ints (n := 0) _)) ?_
      exact q _
end
end My
namespace My
open PySem L2
theorem all_mk {P : Program} {w : World} {K : PySem.W.Frag} {h : Heap} {mg : Str → Option Value} {fa : Addr} (X : K.In h) (G : h.Ns mainGlobals mg) (hfa : mg "law" = some (.ref fa))
    {tk_MOST_MISSING : Tok}
    {tk_DATA : Tok}
    {tk_WHOLE : Tok}
    {tk_BEGINNING : Tok}
    {tk_END : Tok}
    {tk_WITHIN : Tok}
    {C_BearerError : Addr}
    {C_NotValid : Addr}
    {f_BearerError___init : Addr} {od_BearerError___init an_BearerError___init : Option Addr} {sl_BearerError___init : Array (Option Value)} {oc_BearerError___init kV_BearerError___init dc_BearerError___init pm_BearerError___init cd_BearerError___init ct_BearerError___init : Value}
    {f_field_bytes : Addr} {od_field_bytes an_field_bytes : Option Addr} {sl_field_bytes : Array (Option Value)} {oc_field_bytes kV_field_bytes dc_field_bytes pm_field_bytes cd_field_bytes ct_field_bytes : Value}
    {f_pack : Addr} {od_pack an_pack : Option Addr} {sl_pack : Array (Option Value)} {oc_pack kV_pack dc_pack pm_pack cd_pack ct_pack : Value}
    {f_unpack : Addr} {od_unpack an_unpack : Option Addr} {sl_unpack : Array (Option Value)} {oc_unpack kV_unpack dc_unpack pm_unpack cd_unpack ct_unpack : Value}
    {f_short : Addr} {od_short an_short : Option Addr} {sl_short : Array (Option Value)} {oc_short kV_short dc_short pm_short cd_short ct_short : Value}
    {f_u_has_offset : Addr} {od_u_has_offset an_u_has_offset : Option Addr} {sl_u_has_offset : Array (Option Value)} {oc_u_has_offset kV_u_has_offset dc_u_has_offset pm_u_has_offset cd_u_has_offset ct_u_has_offset : Value}
    {f_u_data_widths : Addr} {od_u_data_widths an_u_data_widths : Option Addr} {sl_u_data_widths : Array (Option Value)} {oc_u_data_widths kV_u_data_widths dc_u_data_widths pm_u_data_widths cd_u_data_widths ct_u_data_widths : Value}
    {f_u_status_head : Addr} {od_u_status_head an_u_status_head : Option Addr} {sl_u_status_head : Array (Option Value)} {oc_u_status_head kV_u_status_head dc_u_status_head pm_u_status_head cd_u_status_head ct_u_status_head : Value}
    {f_u_range_widths : Addr} {od_u_range_widths an_u_range_widths : Option Addr} {sl_u_range_widths : Array (Option Value)} {oc_u_range_widths kV_u_range_widths dc_u_range_widths pm_u_range_widths cd_u_range_widths ct_u_range_widths : Value}
    {f_data_piece : Addr} {od_data_piece an_data_piece : Option Addr} {sl_data_piece : Array (Option Value)} {oc_data_piece kV_data_piece dc_data_piece pm_data_piece cd_data_piece ct_data_piece : Value}
    {f_status_bytes : Addr} {od_status_bytes an_status_bytes : Option Addr} {sl_status_bytes : Array (Option Value)} {oc_status_bytes kV_status_bytes dc_status_bytes pm_status_bytes cd_status_bytes ct_status_bytes : Value}
    {f_u_read_data : Addr} {od_u_read_data an_u_read_data : Option Addr} {sl_u_read_data : Array (Option Value)} {oc_u_read_data kV_u_read_data dc_u_read_data pm_u_read_data cd_u_read_data ct_u_read_data : Value}
    {f_u_read_status : Addr} {od_u_read_status an_u_read_status : Option Addr} {sl_u_read_status : Array (Option Value)} {oc_u_read_status kV_u_read_status dc_u_read_status pm_u_read_status cd_u_read_status ct_u_read_status : Value}
    {f_read_piece : Addr} {od_read_piece an_read_piece : Option Addr} {sl_read_piece : Array (Option Value)} {oc_read_piece kV_read_piece dc_read_piece pm_read_piece cd_read_piece ct_read_piece : Value}
    {f_u_part_of : Addr} {od_u_part_of an_u_part_of : Option Addr} {sl_u_part_of : Array (Option Value)} {oc_u_part_of kV_u_part_of dc_u_part_of pm_u_part_of cd_u_part_of ct_u_part_of : Value}
    {f_cut : Addr} {od_cut an_cut : Option Addr} {sl_cut : Array (Option Value)} {oc_cut kV_cut dc_cut pm_cut cd_cut ct_cut : Value}
    {f_u_law_two : Addr} {od_u_law_two an_u_law_two : Option Addr} {sl_u_law_two : Array (Option Value)} {oc_u_law_two kV_u_law_two dc_u_law_two pm_u_law_two cd_u_law_two ct_u_law_two : Value}
    {f_u_law_tape : Addr} {od_u_law_tape an_u_law_tape : Option Addr} {sl_u_law_tape : Array (Option Value)} {oc_u_law_tape kV_u_law_tape dc_u_law_tape pm_u_law_tape cd_u_law_tape ct_u_law_tape : Value}
    {f_u_law_at : Addr} {od_u_law_at an_u_law_at : Option Addr} {sl_u_law_at : Array (Option Value)} {oc_u_law_at kV_u_law_at dc_u_law_at pm_u_law_at cd_u_law_at ct_u_law_at : Value}
    {f_u_law_part : Addr} {od_u_law_part an_u_law_part : Option Addr} {sl_u_law_part : Array (Option Value)} {oc_u_law_part kV_u_law_part dc_u_law_part pm_u_law_part cd_u_law_part ct_u_law_part : Value}
    {f_u_law_length : Addr} {od_u_law_length an_u_law_length : Option Addr} {sl_u_law_length : Array (Option Value)} {oc_u_law_length kV_u_law_length dc_u_law_length pm_u_law_length cd_u_law_length ct_u_law_length : Value}
    {f_u_law_end : Addr} {od_u_law_end an_u_law_end : Option Addr} {sl_u_law_end : Array (Option Value)} {oc_u_law_end kV_u_law_end dc_u_law_end pm_u_law_end cd_u_law_end ct_u_law_end : Value}
    {f_u_law_right : Addr} {od_u_law_right an_u_law_right : Option Addr} {sl_u_law_right : Array (Option Value)} {oc_u_law_right kV_u_law_right dc_u_law_right pm_u_law_right cd_u_law_right ct_u_law_right : Value}
    {f_law : Addr} {od_law an_law : Option Addr} {sl_law : Array (Option Value)} {oc_law kV_law dc_law pm_law cd_law ct_law : Value}
    {nm_BearerError q_BearerError : Str} {N_BearerError : Addr} {bs_BearerError bm_BearerError : List Value} {sn_BearerError : List Str} {sub_BearerError : List Value} {ab_BearerError : Bool} {col_BearerError : Option Bool} {dd_BearerError : Option Addr} {m0_BearerError m1_BearerError m2_BearerError m3_BearerError m5_BearerError : Option Value}
    {nm_NotValid q_NotValid : Str} {N_NotValid : Addr} {bs_NotValid bm_NotValid : List Value} {sn_NotValid : List Str} {sub_NotValid : List Value} {ab_NotValid : Bool} {col_NotValid : Option Bool} {dd_NotValid : Option Addr} {m0_NotValid m1_NotValid m2_NotValid m3_NotValid m5_NotValid : Option Value}
    (z_len : PySem.W.nsIn K mainGlobals "len" = some none)
    (z_range : PySem.W.nsIn K mainGlobals "range" = some none)
    (z_abs : PySem.W.nsIn K mainGlobals "abs" = some none)
    (z_int : PySem.W.nsIn K mainGlobals "int" = some none)
    (z_sum : PySem.W.nsIn K mainGlobals "sum" = some none)
    (z_zip : PySem.W.nsIn K mainGlobals "zip" = some none)
    (z_min : PySem.W.nsIn K mainGlobals "min" = some none)
    (z_max : PySem.W.nsIn K mainGlobals "max" = some none)
    (z_isinstance : PySem.W.nsIn K mainGlobals "isinstance" = some none)
    (z_list : PySem.W.nsIn K mainGlobals "list" = some none)
    (z_tuple : PySem.W.nsIn K mainGlobals "tuple" = some none)
    (z_MOST_MISSING : PySem.W.nsIn K mainGlobals "MOST_MISSING" = some (some (.int 8 tk_MOST_MISSING)))
    (z_DATA : PySem.W.nsIn K mainGlobals "DATA" = some (some (.int 0 tk_DATA)))
    (z_WHOLE : PySem.W.nsIn K mainGlobals "WHOLE" = some (some (.int 0 tk_WHOLE)))
    (z_BEGINNING : PySem.W.nsIn K mainGlobals "BEGINNING" = some (some (.int 1 tk_BEGINNING)))
    (z_END : PySem.W.nsIn K mainGlobals "END" = some (some (.int 2 tk_END)))
    (z_WITHIN : PySem.W.nsIn K mainGlobals "WITHIN" = some (some (.int 3 tk_WITHIN)))
    (z_BearerError : PySem.W.nsIn K mainGlobals "BearerError" = some (some (.ref C_BearerError)))
    (z_NotValid : PySem.W.nsIn K mainGlobals "NotValid" = some (some (.ref C_NotValid)))
    (a_BearerError___init : PySem.W.findIn K (.ref C_BearerError) "__init__" = some (some (.ref f_BearerError___init)))
    (i_BearerError___init : PySem.W.isFn K (.ref f_BearerError___init) = true)
    (l_BearerError___init : K.lookup f_BearerError___init = some ⟨oc_BearerError___init, od_BearerError___init, .func (PySem.W.fnOf "__init__" "BearerError.__init__" (defArgs S_BearerError___init) (defBody S_BearerError___init) (defScope S_BearerError___init) .none kV_BearerError___init dc_BearerError___init pm_BearerError___init an_BearerError___init cd_BearerError___init ct_BearerError___init), sl_BearerError___init⟩)
    (c_BearerError___init : PySem.W.codeIn K cd_BearerError___init "BearerError.__init__" = true)
    (k_BearerError___init : PySem.W.keepIn K (.ref f_BearerError___init) = true)
    (a_field_bytes : PySem.W.nsIn K mainGlobals "field_bytes" = some (some (.ref f_field_bytes)))
    (l_field_bytes : K.lookup f_field_bytes = some ⟨oc_field_bytes, od_field_bytes, .func (PySem.W.fnOf "field_bytes" "field_bytes" (defArgs S_field_bytes) (defBody S_field_bytes) (defScope S_field_bytes) .none kV_field_bytes dc_field_bytes pm_field_bytes an_field_bytes cd_field_bytes ct_field_bytes), sl_field_bytes⟩)
    (c_field_bytes : PySem.W.codeIn K cd_field_bytes "field_bytes" = true)
    (k_field_bytes : PySem.W.keepIn K (.ref f_field_bytes) = true)
    (a_pack : PySem.W.nsIn K mainGlobals "pack" = some (some (.ref f_pack)))
    (l_pack : K.lookup f_pack = some ⟨oc_pack, od_pack, .func (PySem.W.fnOf "pack" "pack" (defArgs S_pack) (defBody S_pack) (defScope S_pack) .none kV_pack dc_pack pm_pack an_pack cd_pack ct_pack), sl_pack⟩)
    (c_pack : PySem.W.codeIn K cd_pack "pack" = true)
    (k_pack : PySem.W.keepIn K (.ref f_pack) = true)
    (a_unpack : PySem.W.nsIn K mainGlobals "unpack" = some (some (.ref f_unpack)))
    (l_unpack : K.lookup f_unpack = some ⟨oc_unpack, od_unpack, .func (PySem.W.fnOf "unpack" "unpack" (defArgs S_unpack) (defBody S_unpack) (defScope S_unpack) .none kV_unpack dc_unpack pm_unpack an_unpack cd_unpack ct_unpack), sl_unpack⟩)
    (c_unpack : PySem.W.codeIn K cd_unpack "unpack" = true)
    (k_unpack : PySem.W.keepIn K (.ref f_unpack) = true)
    (a_short : PySem.W.nsIn K mainGlobals "short" = some (some (.ref f_short)))
    (l_short : K.lookup f_short = some ⟨oc_short, od_short, .func (PySem.W.fnOf "short" "short" (defArgs S_short) (defBody S_short) (defScope S_short) .none kV_short dc_short pm_short an_short cd_short ct_short), sl_short⟩)
    (c_short : PySem.W.codeIn K cd_short "short" = true)
    (k_short : PySem.W.keepIn K (.ref f_short) = true)
    (a_u_has_offset : PySem.W.nsIn K mainGlobals "_has_offset" = some (some (.ref f_u_has_offset)))
    (l_u_has_offset : K.lookup f_u_has_offset = some ⟨oc_u_has_offset, od_u_has_offset, .func (PySem.W.fnOf "_has_offset" "_has_offset" (defArgs S_u_has_offset) (defBody S_u_has_offset) (defScope S_u_has_offset) .none kV_u_has_offset dc_u_has_offset pm_u_has_offset an_u_has_offset cd_u_has_offset ct_u_has_offset), sl_u_has_offset⟩)
    (c_u_has_offset : PySem.W.codeIn K cd_u_has_offset "_has_offset" = true)
    (k_u_has_offset : PySem.W.keepIn K (.ref f_u_has_offset) = true)
    (a_u_data_widths : PySem.W.nsIn K mainGlobals "_data_widths" = some (some (.ref f_u_data_widths)))
    (l_u_data_widths : K.lookup f_u_data_widths = some ⟨oc_u_data_widths, od_u_data_widths, .func (PySem.W.fnOf "_data_widths" "_data_widths" (defArgs S_u_data_widths) (defBody S_u_data_widths) (defScope S_u_data_widths) .none kV_u_data_widths dc_u_data_widths pm_u_data_widths an_u_data_widths cd_u_data_widths ct_u_data_widths), sl_u_data_widths⟩)
    (c_u_data_widths : PySem.W.codeIn K cd_u_data_widths "_data_widths" = true)
    (k_u_data_widths : PySem.W.keepIn K (.ref f_u_data_widths) = true)
    (a_u_status_head : PySem.W.nsIn K mainGlobals "_status_head" = some (some (.ref f_u_status_head)))
    (l_u_status_head : K.lookup f_u_status_head = some ⟨oc_u_status_head, od_u_status_head, .func (PySem.W.fnOf "_status_head" "_status_head" (defArgs S_u_status_head) (defBody S_u_status_head) (defScope S_u_status_head) .none kV_u_status_head dc_u_status_head pm_u_status_head an_u_status_head cd_u_status_head ct_u_status_head), sl_u_status_head⟩)
    (c_u_status_head : PySem.W.codeIn K cd_u_status_head "_status_head" = true)
    (k_u_status_head : PySem.W.keepIn K (.ref f_u_status_head) = true)
    (a_u_range_widths : PySem.W.nsIn K mainGlobals "_range_widths" = some (some (.ref f_u_range_widths)))
    (l_u_range_widths : K.lookup f_u_range_widths = some ⟨oc_u_range_widths, od_u_range_widths, .func (PySem.W.fnOf "_range_widths" "_range_widths" (defArgs S_u_range_widths) (defBody S_u_range_widths) (defScope S_u_range_widths) .none kV_u_range_widths dc_u_range_widths pm_u_range_widths an_u_range_widths cd_u_range_widths ct_u_range_widths), sl_u_range_widths⟩)
    (c_u_range_widths : PySem.W.codeIn K cd_u_range_widths "_range_widths" = true)
    (k_u_range_widths : PySem.W.keepIn K (.ref f_u_range_widths) = true)
    (a_data_piece : PySem.W.nsIn K mainGlobals "data_piece" = some (some (.ref f_data_piece)))
    (l_data_piece : K.lookup f_data_piece = some ⟨oc_data_piece, od_data_piece, .func (PySem.W.fnOf "data_piece" "data_piece" (defArgs S_data_piece) (defBody S_data_piece) (defScope S_data_piece) .none kV_data_piece dc_data_piece pm_data_piece an_data_piece cd_data_piece ct_data_piece), sl_data_piece⟩)
    (c_data_piece : PySem.W.codeIn K cd_data_piece "data_piece" = true)
    (k_data_piece : PySem.W.keepIn K (.ref f_data_piece) = true)
    (a_status_bytes : PySem.W.nsIn K mainGlobals "status_bytes" = some (some (.ref f_status_bytes)))
    (l_status_bytes : K.lookup f_status_bytes = some ⟨oc_status_bytes, od_status_bytes, .func (PySem.W.fnOf "status_bytes" "status_bytes" (defArgs S_status_bytes) (defBody S_status_bytes) (defScope S_status_bytes) .none kV_status_bytes dc_status_bytes pm_status_bytes an_status_bytes cd_status_bytes ct_status_bytes), sl_status_bytes⟩)
    (c_status_bytes : PySem.W.codeIn K cd_status_bytes "status_bytes" = true)
    (k_status_bytes : PySem.W.keepIn K (.ref f_status_bytes) = true)
    (a_u_read_data : PySem.W.nsIn K mainGlobals "_read_data" = some (some (.ref f_u_read_data)))
    (l_u_read_data : K.lookup f_u_read_data = some ⟨oc_u_read_data, od_u_read_data, .func (PySem.W.fnOf "_read_data" "_read_data" (defArgs S_u_read_data) (defBody S_u_read_data) (defScope S_u_read_data) .none kV_u_read_data dc_u_read_data pm_u_read_data an_u_read_data cd_u_read_data ct_u_read_data), sl_u_read_data⟩)
    (c_u_read_data : PySem.W.codeIn K cd_u_read_data "_read_data" = true)
    (k_u_read_data : PySem.W.keepIn K (.ref f_u_read_data) = true)
    (a_u_read_status : PySem.W.nsIn K mainGlobals "_read_status" = some (some (.ref f_u_read_status)))
    (l_u_read_status : K.lookup f_u_read_status = some ⟨oc_u_read_status, od_u_read_status, .func (PySem.W.fnOf "_read_status" "_read_status" (defArgs S_u_read_status) (defBody S_u_read_status) (defScope S_u_read_status) .none kV_u_read_status dc_u_read_status pm_u_read_status an_u_read_status cd_u_read_status ct_u_read_status), sl_u_read_status⟩)
    (c_u_read_status : PySem.W.codeIn K cd_u_read_status "_read_status" = true)
    (k_u_read_status : PySem.W.keepIn K (.ref f_u_read_status) = true)
    (a_read_piece : PySem.W.nsIn K mainGlobals "read_piece" = some (some (.ref f_read_piece)))
    (l_read_piece : K.lookup f_read_piece = some ⟨oc_read_piece, od_read_piece, .func (PySem.W.fnOf "read_piece" "read_piece" (defArgs S_read_piece) (defBody S_read_piece) (defScope S_read_piece) .none kV_read_piece dc_read_piece pm_read_piece an_read_piece cd_read_piece ct_read_piece), sl_read_piece⟩)
    (c_read_piece : PySem.W.codeIn K cd_read_piece "read_piece" = true)
    (k_read_piece : PySem.W.keepIn K (.ref f_read_piece) = true)
    (a_u_part_of : PySem.W.nsIn K mainGlobals "_part_of" = some (some (.ref f_u_part_of)))
    (l_u_part_of : K.lookup f_u_part_of = some ⟨oc_u_part_of, od_u_part_of, .func (PySem.W.fnOf "_part_of" "_part_of" (defArgs S_u_part_of) (defBody S_u_part_of) (defScope S_u_part_of) .none kV_u_part_of dc_u_part_of pm_u_part_of an_u_part_of cd_u_part_of ct_u_part_of), sl_u_part_of⟩)
    (c_u_part_of : PySem.W.codeIn K cd_u_part_of "_part_of" = true)
    (k_u_part_of : PySem.W.keepIn K (.ref f_u_part_of) = true)
    (a_cut : PySem.W.nsIn K mainGlobals "cut" = some (some (.ref f_cut)))
    (l_cut : K.lookup f_cut = some ⟨oc_cut, od_cut, .func (PySem.W.fnOf "cut" "cut" (defArgs S_cut) (defBody S_cut) (defScope S_cut) .none kV_cut dc_cut pm_cut an_cut cd_cut ct_cut), sl_cut⟩)
    (c_cut : PySem.W.codeIn K cd_cut "cut" = true)
    (k_cut : PySem.W.keepIn K (.ref f_cut) = true)
    (a_u_law_two : PySem.W.nsIn K mainGlobals "_law_two" = some (some (.ref f_u_law_two)))
    (l_u_law_two : K.lookup f_u_law_two = some ⟨oc_u_law_two, od_u_law_two, .func (PySem.W.fnOf "_law_two" "_law_two" (defArgs S_u_law_two) (defBody S_u_law_two) (defScope S_u_law_two) .none kV_u_law_two dc_u_law_two pm_u_law_two an_u_law_two cd_u_law_two ct_u_law_two), sl_u_law_two⟩)
    (c_u_law_two : PySem.W.codeIn K cd_u_law_two "_law_two" = true)
    (k_u_law_two : PySem.W.keepIn K (.ref f_u_law_two) = true)
    (a_u_law_tape : PySem.W.nsIn K mainGlobals "_law_tape" = some (some (.ref f_u_law_tape)))
    (l_u_law_tape : K.lookup f_u_law_tape = some ⟨oc_u_law_tape, od_u_law_tape, .func (PySem.W.fnOf "_law_tape" "_law_tape" (defArgs S_u_law_tape) (defBody S_u_law_tape) (defScope S_u_law_tape) .none kV_u_law_tape dc_u_law_tape pm_u_law_tape an_u_law_tape cd_u_law_tape ct_u_law_tape), sl_u_law_tape⟩)
    (c_u_law_tape : PySem.W.codeIn K cd_u_law_tape "_law_tape" = true)
    (k_u_law_tape : PySem.W.keepIn K (.ref f_u_law_tape) = true)
    (a_u_law_at : PySem.W.nsIn K mainGlobals "_law_at" = some (some (.ref f_u_law_at)))
    (l_u_law_at : K.lookup f_u_law_at = some ⟨oc_u_law_at, od_u_law_at, .func (PySem.W.fnOf "_law_at" "_law_at" (defArgs S_u_law_at) (defBody S_u_law_at) (defScope S_u_law_at) .none kV_u_law_at dc_u_law_at pm_u_law_at an_u_law_at cd_u_law_at ct_u_law_at), sl_u_law_at⟩)
    (c_u_law_at : PySem.W.codeIn K cd_u_law_at "_law_at" = true)
    (k_u_law_at : PySem.W.keepIn K (.ref f_u_law_at) = true)
    (a_u_law_part : PySem.W.nsIn K mainGlobals "_law_part" = some (some (.ref f_u_law_part)))
    (l_u_law_part : K.lookup f_u_law_part = some ⟨oc_u_law_part, od_u_law_part, .func (PySem.W.fnOf "_law_part" "_law_part" (defArgs S_u_law_part) (defBody S_u_law_part) (defScope S_u_law_part) .none kV_u_law_part dc_u_law_part pm_u_law_part an_u_law_part cd_u_law_part ct_u_law_part), sl_u_law_part⟩)
    (c_u_law_part : PySem.W.codeIn K cd_u_law_part "_law_part" = true)
    (k_u_law_part : PySem.W.keepIn K (.ref f_u_law_part) = true)
    (a_u_law_length : PySem.W.nsIn K mainGlobals "_law_length" = some (some (.ref f_u_law_length)))
    (l_u_law_length : K.lookup f_u_law_length = some ⟨oc_u_law_length, od_u_law_length, .func (PySem.W.fnOf "_law_length" "_law_length" (defArgs S_u_law_length) (defBody S_u_law_length) (defScope S_u_law_length) .none kV_u_law_length dc_u_law_length pm_u_law_length an_u_law_length cd_u_law_length ct_u_law_length), sl_u_law_length⟩)
    (c_u_law_length : PySem.W.codeIn K cd_u_law_length "_law_length" = true)
    (k_u_law_length : PySem.W.keepIn K (.ref f_u_law_length) = true)
    (a_u_law_end : PySem.W.nsIn K mainGlobals "_law_end" = some (some (.ref f_u_law_end)))
    (l_u_law_end : K.lookup f_u_law_end = some ⟨oc_u_law_end, od_u_law_end, .func (PySem.W.fnOf "_law_end" "_law_end" (defArgs S_u_law_end) (defBody S_u_law_end) (defScope S_u_law_end) .none kV_u_law_end dc_u_law_end pm_u_law_end an_u_law_end cd_u_law_end ct_u_law_end), sl_u_law_end⟩)
    (c_u_law_end : PySem.W.codeIn K cd_u_law_end "_law_end" = true)
    (k_u_law_end : PySem.W.keepIn K (.ref f_u_law_end) = true)
    (a_u_law_right : PySem.W.nsIn K mainGlobals "_law_right" = some (some (.ref f_u_law_right)))
    (l_u_law_right : K.lookup f_u_law_right = some ⟨oc_u_law_right, od_u_law_right, .func (PySem.W.fnOf "_law_right" "_law_right" (defArgs S_u_law_right) (defBody S_u_law_right) (defScope S_u_law_right) .none kV_u_law_right dc_u_law_right pm_u_law_right an_u_law_right cd_u_law_right ct_u_law_right), sl_u_law_right⟩)
    (c_u_law_right : PySem.W.codeIn K cd_u_law_right "_law_right" = true)
    (k_u_law_right : PySem.W.keepIn K (.ref f_u_law_right) = true)
    (a_law : PySem.W.nsIn K mainGlobals "law" = some (some (.ref f_law)))
    (l_law : K.lookup f_law = some ⟨oc_law, od_law, .func (PySem.W.fnOf "law" "law" (defArgs S_law) (defBody S_law) (defScope S_law) .none kV_law dc_law pm_law an_law cd_law ct_law), sl_law⟩)
    (c_law : PySem.W.codeIn K cd_law "law" = true)
    (k_law : PySem.W.keepIn K (.ref f_law) = true)
    (xL_BearerError : K.lookup C_BearerError = some (excClassObj nm_BearerError q_BearerError C_BearerError N_BearerError bs_BearerError bm_BearerError true sn_BearerError sub_BearerError ab_BearerError col_BearerError dd_BearerError m0_BearerError m1_BearerError m2_BearerError m3_BearerError m5_BearerError "ValueError.__new__"))
    (xB_BearerError : PySem.HandSPX.refsVE bm_BearerError = true)
    (sa_BearerError : PySem.W.findIn K (.ref C_BearerError) "__setattr__" = some (some (.builtin "object.__setattr__")))
    (ex_BearerError : PySem.W.subIn K (.ref C_BearerError) (.type "BaseException") = some true)
    (ty_BearerError : PySem.W.typeIn K (.ref C_BearerError) = some (.type "type"))
    (kC_BearerError : PySem.W.keepIn K (.ref C_BearerError) = true)
    (ii_BearerError : PySem.W.findIn K (.ref C_BearerError) "__init__" = some (some (.ref f_BearerError___init)))
    (ti_BearerError : PySem.W.typeIn K (.ref f_BearerError___init) = some (.type "function"))
    (ga_BearerError : PySem.W.findIn K (.ref C_BearerError) "__getattribute__" = some (some (.builtin "BaseException.__getattribute__")))
    (gg_BearerError : PySem.W.findIn K (.ref C_BearerError) "__getattr__" = some none)
    (hd_BearerError : PySem.W.hasDictIn K C_BearerError = true)
    (hc_BearerError : PySem.W.findIn K (.ref C_BearerError) "__class__" = some (some (.builtin "object.__class__")))
    (mo_BearerError : PySem.W.mroIn K C_BearerError (.type "object") = some true)
    (ic_BearerError : PySem.W.isClsIn K C_BearerError = true)
    (sb_BearerError_BearerError : PySem.W.subIn K (.ref C_BearerError) (.ref C_BearerError) = some true)
    (sb_BearerError_NotValid : PySem.W.subIn K (.ref C_BearerError) (.ref C_NotValid) = some false)
    (xL_NotValid : K.lookup C_NotValid = some (excClassObj nm_NotValid q_NotValid C_NotValid N_NotValid bs_NotValid bm_NotValid true sn_NotValid sub_NotValid ab_NotValid col_NotValid dd_NotValid m0_NotValid m1_NotValid m2_NotValid m3_NotValid m5_NotValid "ValueError.__new__"))
    (xB_NotValid : PySem.HandSPX.refsVE bm_NotValid = true)
    (sa_NotValid : PySem.W.findIn K (.ref C_NotValid) "__setattr__" = some (some (.builtin "object.__setattr__")))
    (ex_NotValid : PySem.W.subIn K (.ref C_NotValid) (.type "BaseException") = some true)
    (ty_NotValid : PySem.W.typeIn K (.ref C_NotValid) = some (.type "type"))
    (kC_NotValid : PySem.W.keepIn K (.ref C_NotValid) = true)
    (ii_NotValid : PySem.W.findIn K (.ref C_NotValid) "__init__" = some (some (.ref f_BearerError___init)))
    (ti_NotValid : PySem.W.typeIn K (.ref f_BearerError___init) = some (.type "function"))
    (ga_NotValid : PySem.W.findIn K (.ref C_NotValid) "__getattribute__" = some (some (.builtin "BaseException.__getattribute__")))
    (gg_NotValid : PySem.W.findIn K (.ref C_NotValid) "__getattr__" = some none)
    (hd_NotValid : PySem.W.hasDictIn K C_NotValid = true)
    (hc_NotValid : PySem.W.findIn K (.ref C_NotValid) "__class__" = some (some (.builtin "object.__class__")))
    (mo_NotValid : PySem.W.mroIn K C_NotValid (.type "object") = some true)
    (ic_NotValid : PySem.W.isClsIn K C_NotValid = true)
    (sb_NotValid_BearerError : PySem.W.subIn K (.ref C_NotValid) (.ref C_BearerError) = some true)
    (sb_NotValid_NotValid : PySem.W.subIn K (.ref C_NotValid) (.ref C_NotValid) = some true)
    (sn_get : PySem.W.specialIn K (.builtin "object.__class__") "__get__" = some (some (.builtin "getset_descriptor.__get__")))
    (tk_get : PySem.W.takesIn K (.builtin "object.__class__") = some true)
    : ∃ fd : FuncData, (∀ (s : Shared) (v : Value), BindsTo s fd ⟨[v], []⟩ [("script", v)]) ∧ ∀ base : Heap, K.In base → base.Ns mainGlobals mg → FnOk P w K mg base CX0 8 fa fd ["script"] (ip_law K) := by
  have e := hfa.symm.trans (PySem.W.mg_of X G a_law)
  cases e
  have F_BearerError___init := fun_mk (st := S_BearerError___init) l_BearerError___init c_BearerError___init k_BearerError___init
  have b_BearerError___init := F_BearerError___init.binds (ps := ["self"]) fun _ _ _ _ _ _ us hl => match us, hl with | [_], _ => rfl
  have F_field_bytes := fun_mk (st := S_field_bytes) l_field_bytes c_field_bytes k_field_bytes
  have b_field_bytes := F_field_bytes.binds (ps := ["widths"]) fun _ _ _ _ _ _ us hl => match us, hl with | [_], _ => rfl
  have F_pack := fun_mk (st := S_pack) l_pack c_pack k_pack
  have b_pack := F_pack.binds (ps := ["widths", "values"]) fun _ _ _ _ _ _ us hl => match us, hl with | [_, _], _ => rfl
  have F_unpack := fun_mk (st := S_unpack) l_unpack c_unpack k_unpack
  have b_unpack := F_unpack.binds (ps := ["widths", "data"]) fun _ _ _ _ _ _ us hl => match us, hl with | [_, _], _ => rfl
  have F_short := fun_mk (st := S_short) l_short c_short k_short
  have b_short := F_short.binds (ps := ["number", "bits"]) fun _ _ _ _ _ _ us hl => match us, hl with | [_, _], _ => rfl
  have F_u_has_offset := fun_mk (st := S_u_has_offset) l_u_has_offset c_u_has_offset k_u_has_offset
  have b_u_has_offset := F_u_has_offset.binds (ps := ["part"]) fun _ _ _ _ _ _ us hl => match us, hl with | [_], _ => rfl
  have F_u_data_widths := fun_mk (st := S_u_data_widths) l_u_data_widths c_u_data_widths k_u_data_widths
  have b_u_data_widths := F_u_data_widths.binds (ps := ["bits", "part"]) fun _ _ _ _ _ _ us hl => match us, hl with | [_, _], _ => rfl
  have F_u_status_head := fun_mk (st := S_u_status_head) l_u_status_head c_u_status_head k_u_status_head
  have b_u_status_head := F_u_status_head.binds (ps := ["bits"]) fun _ _ _ _ _ _ us hl => match us, hl with | [_], _ => rfl
  have F_u_range_widths := fun_mk (st := S_u_range_widths) l_u_range_widths c_u_range_widths k_u_range_widths
  have b_u_range_widths := F_u_range_widths.binds (ps := ["bits"]) fun _ _ _ _ _ _ us hl => match us, hl with | [_], _ => rfl
  have F_data_piece := fun_mk (st := S_data_piece) l_data_piece c_data_piece k_data_piece
  have b_data_piece := F_data_piece.binds (ps := ["bits", "poll", "number", "part", "offset", "body"]) fun _ _ _ _ _ _ us hl => match us, hl with | [_, _, _, _, _, _], _ => rfl
  have F_status_bytes := fun_mk (st := S_status_bytes) l_status_bytes c_status_bytes k_status_bytes
  have b_status_bytes := F_status_bytes.binds (ps := ["bits", "count"]) fun _ _ _ _ _ _ us hl => match us, hl with | [_, _], _ => rfl
  have F_u_read_data := fun_mk (st := S_u_read_data) l_u_read_data c_u_read_data k_u_read_data
  have b_u_read_data := F_u_read_data.binds (ps := ["bits", "piece"]) fun _ _ _ _ _ _ us hl => match us, hl with | [_, _], _ => rfl
  have F_u_read_status := fun_mk (st := S_u_read_status) l_u_read_status c_u_read_status k_u_read_status
  have b_u_read_status := F_u_read_status.binds (ps := ["bits", "piece"]) fun _ _ _ _ _ _ us hl => match us, hl with | [_, _], _ => rfl
  have F_read_piece := fun_mk (st := S_read_piece) l_read_piece c_read_piece k_read_piece
  have b_read_piece := F_read_piece.binds (ps := ["bits", "piece"]) fun _ _ _ _ _ _ us hl => match us, hl with | [_, _], _ => rfl
  have F_u_part_of := fun_mk (st := S_u_part_of) l_u_part_of c_u_part_of k_u_part_of
  have b_u_part_of := F_u_part_of.binds (ps := ["packet", "start", "end"]) fun _ _ _ _ _ _ us hl => match us, hl with | [_, _, _], _ => rfl
  have F_cut := fun_mk (st := S_cut) l_cut c_cut k_cut
  have b_cut := F_cut.binds (ps := ["bits", "poll", "number", "packet", "start", "stop", "room"]) fun _ _ _ _ _ _ us hl => match us, hl with | [_, _, _, _, _, _, _], _ => rfl
  have F_u_law_two := fun_mk (st := S_u_law_two) l_u_law_two c_u_law_two k_u_law_two
  have b_u_law_two := F_u_law_two.binds (ps := ["many"]) fun _ _ _ _ _ _ us hl => match us, hl with | [_], _ => rfl
  have F_u_law_tape := fun_mk (st := S_u_law_tape) l_u_law_tape c_u_law_tape k_u_law_tape
  have b_u_law_tape := F_u_law_tape.binds (ps := ["script"]) fun _ _ _ _ _ _ us hl => match us, hl with | [_], _ => rfl
  have F_u_law_at := fun_mk (st := S_u_law_at) l_u_law_at c_u_law_at k_u_law_at
  have b_u_law_at := F_u_law_at.binds (ps := ["tape", "k"]) fun _ _ _ _ _ _ us hl => match us, hl with | [_, _], _ => rfl
  have F_u_law_part := fun_mk (st := S_u_law_part) l_u_law_part c_u_law_part k_u_law_part
  have b_u_law_part := F_u_law_part.binds (ps := ["packet", "start", "end"]) fun _ _ _ _ _ _ us hl => match us, hl with | [_, _, _], _ => rfl
  have F_u_law_length := fun_mk (st := S_u_law_length) l_u_law_length c_u_law_length k_u_law_length
  have b_u_law_length := F_u_law_length.binds (ps := ["bits", "packet", "start", "end"]) fun _ _ _ _ _ _ us hl => match us, hl with | [_, _, _, _], _ => rfl
  have F_u_law_end := fun_mk (st := S_u_law_end) l_u_law_end c_u_law_end k_u_law_end
  have b_u_law_end := F_u_law_end.binds (ps := ["bits", "packet", "start", "stop", "room"]) fun _ _ _ _ _ _ us hl => match us, hl with | [_, _, _, _, _], _ => rfl
  have F_u_law_right := fun_mk (st := S_u_law_right) l_u_law_right c_u_law_right k_u_law_right
  have b_u_law_right := F_u_law_right.binds (ps := ["bits", "poll", "number", "packet", "start", "stop", "room"]) fun _ _ _ _ _ _ us hl => match us, hl with | [_, _, _, _, _, _, _], _ => rfl
  have F_law := fun_mk (st := S_law) l_law c_law k_law
  have b_law := F_law.binds (ps := ["script"]) fun _ _ _ _ _ _ us hl => match us, hl with | [_], _ => rfl
  refine ⟨PySem.W.fnOf "law" "law" (defArgs S_law) (defBody S_law) (defScope S_law) .none kV_law dc_law pm_law an_law cd_law ct_law, fun s v => .of_eq rfl, fun base _ _ => ?_⟩
  exact ok_law (T := ({
      n_len := PySem.W.mg_none_of X G z_len,
      n_range := PySem.W.mg_none_of X G z_range,
      n_abs := PySem.W.mg_none_of X G z_abs,
      n_int := PySem.W.mg_none_of X G z_int,
      n_sum := PySem.W.mg_none_of X G z_sum,
      n_zip := PySem.W.mg_none_of X G z_zip,
      n_min := PySem.W.mg_none_of X G z_min,
      n_max := PySem.W.mg_none_of X G z_max,
      n_isinstance := PySem.W.mg_none_of X G z_isinstance,
      n_list := PySem.W.mg_none_of X G z_list,
      n_tuple := PySem.W.mg_none_of X G z_tuple,
      g_MOST_MISSING := ⟨tk_MOST_MISSING, PySem.W.mg_of X G z_MOST_MISSING⟩,
      g_DATA := ⟨tk_DATA, PySem.W.mg_of X G z_DATA⟩,
      g_WHOLE := ⟨tk_WHOLE, PySem.W.mg_of X G z_WHOLE⟩,
      g_BEGINNING := ⟨tk_BEGINNING, PySem.W.mg_of X G z_BEGINNING⟩,
      g_END := ⟨tk_END, PySem.W.mg_of X G z_END⟩,
      g_WITHIN := ⟨tk_WITHIN, PySem.W.mg_of X G z_WITHIN⟩,
      C_BearerError := C_BearerError,
      g_BearerError := PySem.W.mg_of X G z_BearerError,
      C_NotValid := C_NotValid,
      g_NotValid := PySem.W.mg_of X G z_NotValid,
      a_BearerError___init := _,
      d_BearerError___init := _,
      p_BearerError___init := ⟨F_BearerError___init, b_BearerError___init⟩,
      a_field_bytes := _,
      d_field_bytes := _,
      p_field_bytes := ⟨F_field_bytes, b_field_bytes, PySem.W.mg_of X G a_field_bytes⟩,
      a_pack := _,
      d_pack := _,
      p_pack := ⟨F_pack, b_pack, PySem.W.mg_of X G a_pack⟩,
      a_unpack := _,
      d_unpack := _,
      p_unpack := ⟨F_unpack, b_unpack, PySem.W.mg_of X G a_unpack⟩,
      a_short := _,
      d_short := _,
      p_short := ⟨F_short, b_short, PySem.W.mg_of X G a_short⟩,
      a_u_has_offset := _,
      d_u_has_offset := _,
      p_u_has_offset := ⟨F_u_has_offset, b_u_has_offset, PySem.W.mg_of X G a_u_has_offset⟩,
      a_u_data_widths := _,
      d_u_data_widths := _,
      p_u_data_widths := ⟨F_u_data_widths, b_u_data_widths, PySem.W.mg_of X G a_u_data_widths⟩,
      a_u_status_head := _,
      d_u_status_head := _,
      p_u_status_head := ⟨F_u_status_head, b_u_status_head, PySem.W.mg_of X G a_u_status_head⟩,
      a_u_range_widths := _,
      d_u_range_widths := _,
      p_u_range_widths := ⟨F_u_range_widths, b_u_range_widths, PySem.W.mg_of X G a_u_range_widths⟩,
      a_data_piece := _,
      d_data_piece := _,
      p_data_piece := ⟨F_data_piece, b_data_piece, PySem.W.mg_of X G a_data_piece⟩,
      a_status_bytes := _,
      d_status_bytes := _,
      p_status_bytes := ⟨F_status_bytes, b_status_bytes, PySem.W.mg_of X G a_status_bytes⟩,
      a_u_read_data := _,
      d_u_read_data := _,
      p_u_read_data := ⟨F_u_read_data, b_u_read_data, PySem.W.mg_of X G a_u_read_data⟩,
      a_u_read_status := _,
      d_u_read_status := _,
      p_u_read_status := ⟨F_u_read_status, b_u_read_status, PySem.W.mg_of X G a_u_read_status⟩,
      a_read_piece := _,
      d_read_piece := _,
      p_read_piece := ⟨F_read_piece, b_read_piece, PySem.W.mg_of X G a_read_piece⟩,
      a_u_part_of := _,
      d_u_part_of := _,
      p_u_part_of := ⟨F_u_part_of, b_u_part_of, PySem.W.mg_of X G a_u_part_of⟩,
      a_cut := _,
      d_cut := _,
      p_cut := ⟨F_cut, b_cut, PySem.W.mg_of X G a_cut⟩,
      a_u_law_two := _,
      d_u_law_two := _,
      p_u_law_two := ⟨F_u_law_two, b_u_law_two, PySem.W.mg_of X G a_u_law_two⟩,
      a_u_law_tape := _,
      d_u_law_tape := _,
      p_u_law_tape := ⟨F_u_law_tape, b_u_law_tape, PySem.W.mg_of X G a_u_law_tape⟩,
      a_u_law_at := _,
      d_u_law_at := _,
      p_u_law_at := ⟨F_u_law_at, b_u_law_at, PySem.W.mg_of X G a_u_law_at⟩,
      a_u_law_part := _,
      d_u_law_part := _,
      p_u_law_part := ⟨F_u_law_part, b_u_law_part, PySem.W.mg_of X G a_u_law_part⟩,
      a_u_law_length := _,
      d_u_law_length := _,
      p_u_law_length := ⟨F_u_law_length, b_u_law_length, PySem.W.mg_of X G a_u_law_length⟩,
      a_u_law_end := _,
      d_u_law_end := _,
      p_u_law_end := ⟨F_u_law_end, b_u_law_end, PySem.W.mg_of X G a_u_law_end⟩,
      a_u_law_right := _,
      d_u_law_right := _,
      p_u_law_right := ⟨F_u_law_right, b_u_law_right, PySem.W.mg_of X G a_u_law_right⟩,
      a_law := _,
      d_law := _,
      p_law := ⟨F_law, b_law, PySem.W.mg_of X G a_law⟩,
      o_BearerError := ⟨⟨nm_BearerError, q_BearerError, N_BearerError, bs_BearerError, bm_BearerError, sn_BearerError, sub_BearerError, ab_BearerError, col_BearerError, dd_BearerError, m0_BearerError, m1_BearerError, m2_BearerError, m3_BearerError, m5_BearerError, xL_BearerError, xB_BearerError⟩, sa_BearerError, ex_BearerError, ty_BearerError, kC_BearerError⟩,
      i_BearerError := ii_BearerError,
      t_BearerError := ti_BearerError,
      e_BearerError := ⟨ga_BearerError, gg_BearerError, ex_BearerError, hd_BearerError, hc_BearerError, sn_get, tk_get, mo_BearerError⟩,
      s_BearerError_BearerError := sb_BearerError_BearerError,
      s_BearerError_NotValid := sb_BearerError_NotValid,
      y_BearerError := ty_BearerError,
      l_BearerError := ic_BearerError,
      o_NotValid := ⟨⟨nm_NotValid, q_NotValid, N_NotValid, bs_NotValid, bm_NotValid, sn_NotValid, sub_NotValid, ab_NotValid, col_NotValid, dd_NotValid, m0_NotValid, m1_NotValid, m2_NotValid, m3_NotValid, m5_NotValid, xL_NotValid, xB_NotValid⟩, sa_NotValid, ex_NotValid, ty_NotValid, kC_NotValid⟩,
      i_NotValid := ii_NotValid,
      t_NotValid := ti_NotValid,
      e_NotValid := ⟨ga_NotValid, gg_NotValid, ex_NotValid, hd_NotValid, hc_NotValid, sn_get, tk_get, mo_NotValid⟩,
      s_NotValid_BearerError := sb_NotValid_BearerError,
      s_NotValid_NotValid := sb_NotValid_NotValid,
      y_NotValid := ty_NotValid,
      l_NotValid := ic_NotValid
    } : Tx P w K mg base))
theorem walk {l : PySem.W.OpenLaw} {q : Program} {loose : List Str} {XP : (Str → Option Value) → Heap → Prop} {YP : World → Heap → Prop} {d : DefRec} {K : Params → PySem.W.Frag} (hn : l.most = some 63) (hdf : d.params.defaults = [])
    (hY : ∀ (w : World) (h : Heap), YP w h → (K w.params).In h)
    (F : ∀ (w : World) (mg : Str → Option Value) (fa : Addr) (h : Heap), (K w.params).In h → h.Ns mainGlobals mg → mg d.name = some (.ref fa) →
      ∃ fd : FuncData, (∀ (s : Shared) (u : Value), BindsTo s fd ⟨[u], []⟩ [("script", u)]) ∧ ∀ base : Heap, (K w.params).In base → base.Ns mainGlobals mg → FnOk l.prog w (K w.params) mg base CX0 8 fa fd ["script"] (ip_law (K w.params))) :
    PySem.W.WalkO q loose XP YP l.row.toRowW d [] (fun f vs => PySem.call f vs) :=
  L2.walk_of (n := 63) (k := 8) (x := "script") (CX := fun _ => CX0) (sp := fun w => ip_law (K w.params)) hn (by decide) hdf ⟨rfl, by decide, by decide⟩ hY F (fun _ _ a ns hl _ hS => op_law ⟨a, ns, rfl, hS, hl, fun _ => rfl⟩) fun _ _ _ _ _ z => z
end My
open PySem PySem.W PyProof.Rows
set_option maxRecDepth 100000 in
set_option maxHeartbeats 0 in
theorem PySem.Challenge.cw_bearerwise_k03_cutting_holds : PySem.Challenge.rw_bearerwise_k03_cutting.Holds := by
  w_on; o_law; k_head; (case hw => w_witness2)
  k_fill
  refine My.walk (l := PySem.Challenge.rw_bearerwise_k03_cutting) rfl rfl (fun w h Y => PySem.W.kIn_of Y) ?F
  case F =>
    intro w mg fa h KX G hmg
    refine' My.all_mk KX G hmg ?z_len ?z_range ?z_abs ?z_int ?z_sum ?z_zip ?z_min ?z_max ?z_isinstance ?z_list ?z_tuple ?z_MOST_MISSING ?z_DATA ?z_WHOLE ?z_BEGINNING ?z_END ?z_WITHIN ?z_BearerError ?z_NotValid ?a_BearerError___init ?i_BearerError___init ?l_BearerError___init ?c_BearerError___init ?k_BearerError___init ?a_field_bytes ?l_field_bytes ?c_field_bytes ?k_field_bytes ?a_pack ?l_pack ?c_pack ?k_pack ?a_unpack ?l_unpack ?c_unpack ?k_unpack ?a_short ?l_short ?c_short ?k_short ?a_u_has_offset ?l_u_has_offset ?c_u_has_offset ?k_u_has_offset ?a_u_data_widths ?l_u_data_widths ?c_u_data_widths ?k_u_data_widths ?a_u_status_head ?l_u_status_head ?c_u_status_head ?k_u_status_head ?a_u_range_widths ?l_u_range_widths ?c_u_range_widths ?k_u_range_widths ?a_data_piece ?l_data_piece ?c_data_piece ?k_data_piece ?a_status_bytes ?l_status_bytes ?c_status_bytes ?k_status_bytes ?a_u_read_data ?l_u_read_data ?c_u_read_data ?k_u_read_data ?a_u_read_status ?l_u_read_status ?c_u_read_status ?k_u_read_status ?a_read_piece ?l_read_piece ?c_read_piece ?k_read_piece ?a_u_part_of ?l_u_part_of ?c_u_part_of ?k_u_part_of ?a_cut ?l_cut ?c_cut ?k_cut ?a_u_law_two ?l_u_law_two ?c_u_law_two ?k_u_law_two ?a_u_law_tape ?l_u_law_tape ?c_u_law_tape ?k_u_law_tape ?a_u_law_at ?l_u_law_at ?c_u_law_at ?k_u_law_at ?a_u_law_part ?l_u_law_part ?c_u_law_part ?k_u_law_part ?a_u_law_length ?l_u_law_length ?c_u_law_length ?k_u_law_length ?a_u_law_end ?l_u_law_end ?c_u_law_end ?k_u_law_end ?a_u_law_right ?l_u_law_right ?c_u_law_right ?k_u_law_right ?a_law ?l_law ?c_law ?k_law ?xL_BearerError ?xB_BearerError ?sa_BearerError ?ex_BearerError ?ty_BearerError ?kC_BearerError ?ii_BearerError ?ti_BearerError ?ga_BearerError ?gg_BearerError ?hd_BearerError ?hc_BearerError ?mo_BearerError ?ic_BearerError ?sb_BearerError_BearerError ?sb_BearerError_NotValid ?xL_NotValid ?xB_NotValid ?sa_NotValid ?ex_NotValid ?ty_NotValid ?kC_NotValid ?ii_NotValid ?ti_NotValid ?ga_NotValid ?gg_NotValid ?hd_NotValid ?hc_NotValid ?mo_NotValid ?ic_NotValid ?sb_NotValid_BearerError ?sb_NotValid_NotValid ?sn_get ?tk_get
    (case z_len => k_is)
    (case z_range => k_is)
    (case z_abs => k_is)
    (case z_int => k_is)
    (case z_sum => k_is)
    (case z_zip => k_is)
    (case z_min => k_is)
    (case z_max => k_is)
    (case z_isinstance => k_is)
    (case z_list => k_is)
    (case z_tuple => k_is)
    (case z_MOST_MISSING => k_is)
    (case z_DATA => k_is)
    (case z_WHOLE => k_is)
    (case z_BEGINNING => k_is)
    (case z_END => k_is)
    (case z_WITHIN => k_is)
    (case z_BearerError => k_is)
    (case z_NotValid => k_is)
    (case a_BearerError___init => k_is)
    (case i_BearerError___init => k_is)
    (case l_BearerError___init => k_is)
    (case c_BearerError___init => k_is)
    (case k_BearerError___init => k_is)
    (case a_field_bytes => k_is)
    (case l_field_bytes => k_is)
    (case c_field_bytes => k_is)
    (case k_field_bytes => k_is)
    (case a_pack => k_is)
    (case l_pack => k_is)
    (case c_pack => k_is)
    (case k_pack => k_is)
    (case a_unpack => k_is)
    (case l_unpack => k_is)
    (case c_unpack => k_is)
    (case k_unpack => k_is)
    (case a_short => k_is)
    (case l_short => k_is)
    (case c_short => k_is)
    (case k_short => k_is)
    (case a_u_has_offset => k_is)
    (case l_u_has_offset => k_is)
    (case c_u_has_offset => k_is)
    (case k_u_has_offset => k_is)
    (case a_u_data_widths => k_is)
    (case l_u_data_widths => k_is)
    (case c_u_data_widths => k_is)
    (case k_u_data_widths => k_is)
    (case a_u_status_head => k_is)
    (case l_u_status_head => k_is)
    (case c_u_status_head => k_is)
    (case k_u_status_head => k_is)
    (case a_u_range_widths => k_is)
    (case l_u_range_widths => k_is)
    (case c_u_range_widths => k_is)
    (case k_u_range_widths => k_is)
    (case a_data_piece => k_is)
    (case l_data_piece => k_is)
    (case c_data_piece => k_is)
    (case k_data_piece => k_is)
    (case a_status_bytes => k_is)
    (case l_status_bytes => k_is)
    (case c_status_bytes => k_is)
    (case k_status_bytes => k_is)
    (case a_u_read_data => k_is)
    (case l_u_read_data => k_is)
    (case c_u_read_data => k_is)
    (case k_u_read_data => k_is)
    (case a_u_read_status => k_is)
    (case l_u_read_status => k_is)
    (case c_u_read_status => k_is)
    (case k_u_read_status => k_is)
    (case a_read_piece => k_is)
    (case l_read_piece => k_is)
    (case c_read_piece => k_is)
    (case k_read_piece => k_is)
    (case a_u_part_of => k_is)
    (case l_u_part_of => k_is)
    (case c_u_part_of => k_is)
    (case k_u_part_of => k_is)
    (case a_cut => k_is)
    (case l_cut => k_is)
    (case c_cut => k_is)
    (case k_cut => k_is)
    (case a_u_law_two => k_is)
    (case l_u_law_two => k_is)
    (case c_u_law_two => k_is)
    (case k_u_law_two => k_is)
    (case a_u_law_tape => k_is)
    (case l_u_law_tape => k_is)
    (case c_u_law_tape => k_is)
    (case k_u_law_tape => k_is)
    (case a_u_law_at => k_is)
    (case l_u_law_at => k_is)
    (case c_u_law_at => k_is)
    (case k_u_law_at => k_is)
    (case a_u_law_part => k_is)
    (case l_u_law_part => k_is)
    (case c_u_law_part => k_is)
    (case k_u_law_part => k_is)
    (case a_u_law_length => k_is)
    (case l_u_law_length => k_is)
    (case c_u_law_length => k_is)
    (case k_u_law_length => k_is)
    (case a_u_law_end => k_is)
    (case l_u_law_end => k_is)
    (case c_u_law_end => k_is)
    (case k_u_law_end => k_is)
    (case a_u_law_right => k_is)
    (case l_u_law_right => k_is)
    (case c_u_law_right => k_is)
    (case k_u_law_right => k_is)
    (case a_law => k_is)
    (case l_law => k_is)
    (case c_law => k_is)
    (case k_law => k_is)
    (case xL_BearerError => k_is)
    (case xB_BearerError => decide +kernel)
    (case sa_BearerError => k_is)
    (case ex_BearerError => k_is)
    (case ty_BearerError => k_is)
    (case kC_BearerError => k_is)
    (case ii_BearerError => k_is)
    (case ti_BearerError => k_is)
    (case ga_BearerError => k_is)
    (case gg_BearerError => k_is)
    (case hd_BearerError => k_is)
    (case hc_BearerError => k_is)
    (case mo_BearerError => k_is)
    (case ic_BearerError => k_is)
    (case sb_BearerError_BearerError => first | rfl | k_is)
    (case sb_BearerError_NotValid => first | rfl | k_is)
    (case xL_NotValid => k_is)
    (case xB_NotValid => decide +kernel)
    (case sa_NotValid => k_is)
    (case ex_NotValid => k_is)
    (case ty_NotValid => k_is)
    (case kC_NotValid => k_is)
    (case ii_NotValid => k_is)
    (case ti_NotValid => k_is)
    (case ga_NotValid => k_is)
    (case gg_NotValid => k_is)
    (case hd_NotValid => k_is)
    (case hc_NotValid => k_is)
    (case mo_NotValid => k_is)
    (case ic_NotValid => k_is)
    (case sb_NotValid_BearerError => first | rfl | k_is)
    (case sb_NotValid_NotValid => first | rfl | k_is)
    (case sn_get => k_is)
    (case tk_get => k_is)
