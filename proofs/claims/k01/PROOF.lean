import PyProof.Rows.All
import Wide.All
import OpenK.AllK
import Wide.FinOn
import HandS.ForMost
import HandS.ForExc
import HandS.IsInst
import HandS.ExcIs
import HandS.ExcInit
import HandS.Wide
import HandS.WideBits
import HandS.Zip
import HandS.Flow
import PySem.Challenge.RW_bearerwise_k01_fields
set_option Elab.async false
set_option linter.all false
set_option maxRecDepth 100000
set_option maxHeartbeats 4000000
namespace My
open PySem L2

/-! ### a def as the top has left it -/
structure DefAt (K : PySem.W.Frag) (mg : Str → Option Value) (x q : Str) (st : Stmt) (ps : List Str) (f : Addr) (fd : FuncData) : Prop where
  F : Fun K x q st f fd
  b : Binds K fd ps []
  m : mg x = some (.ref f)
structure MethAt (K : PySem.W.Frag) (C : Addr) (x q : Str) (st : Stmt) (ps : List Str) (f : Addr) (fd : FuncData) : Prop where
  F : Fun K x q st f fd
  b : Binds K fd ps []
  me : Meth K C x f

structure DefAt0 (K : PySem.W.Frag) (x q : Str) (st : Stmt) (ps : List Str) (f : Addr) (fd : FuncData) : Prop where
  F : Fun K x q st f fd
  b : Binds K fd ps []
structure ClsAt (K : PySem.W.Frag) (C f : Addr) : Prop where
  cl : Cls K C
  mk' : Mk K C f

/-! ### heaps -/
theorem same_upd {H : Hp} {p : Addr} {o : HO} (h : H p = none) : Same H (upd H p o) := fun b x e => by
  rw [upd_ne (ne_of_none e h)]
  exact e
/-- an object that H does not know may change -/
theorem same_mut {H H' : Hp} {p : Addr} {o : HO} (e : Same H H') (h : H p = none) : Same H (upd H' p o) := fun b x hb => by
  rw [upd_ne (ne_of_none hb h)]
  exact e b x hb
theorem sq_of {K : PySem.W.Frag} {H : Hp} {a : Addr} {xs : List V} (h : H a = some (.lst xs)) : SqL K H a xs := Or.inl (Or.inl h)
theorem st_of {K : PySem.W.Frag} {H : Hp} {a : Addr} {xs : List V} (h : H a = some (.tup xs)) : SqT K H a xs := Or.inl (Or.inl h)
theorem Same.sqt {K : PySem.W.Frag} {H H' : Hp} {a : Addr} {xs : List V} (e : Same H H') (h : SqT K H a xs) : SqT K H' a xs := by
  rcases h with (h | ⟨o, h⟩) | h
  · exact .inl (.inl (e _ _ h))
  · exact .inl (.inr ⟨o, e _ _ h⟩)
  · exact .inr h
theorem sz {n : Nat} (h : n ≤ 1000000) : n ≤ sizeLine := Nat.le_trans h (by rw [sizeLine_eq]; decide)
theorem szl {n : Nat} (h : n < 1000000) : n < sizeLine := Nat.lt_of_lt_of_le h (by rw [sizeLine_eq]; decide)

/-- the promises' shapes: a value and the heap as it was; a value; a new list -/
def RV (v : V) (H : Hp) (Q : VK) : Prop := ∀ H', Same H H' → Q v H'
def RL (xs : List V) (H : Hp) (Q : VK) : Prop := ∀ p H', H p = none → Same H H' → H' p = some (.lst xs) → Q (.ref p) H'
def RT (xs : List V) (H : Hp) (Q : VK) : Prop := ∀ p H', H p = none → Same H H' → H' p = some (.tup xs) → Q (.ref p) H'

/-! ### stops for the walk: a proposition that no tuple opens -/
inductive Stop (p : Prop) : Prop where
  | a (h : p) : Stop p
  | b (h : p) : Stop p
theorem Stop.un {p : Prop} (h : Stop p) : p := by cases h <;> assumption

/-! ### an exception of an own class whose __init__ takes nothing and stores nothing: X() -/
def spInit0 : Sp := fun vs H Q _ => ∃ a, vs = [.ref a] ∧ Q .non H
structure PlainExc (P : Program) (w : World) (K : PySem.W.Frag) (mg : Str → Option Value) (base : Heap) (x : Str) (C fI : Addr) (fdI : FuncData) : Prop where
  T : OexC K C
  iC : PySem.W.findIn K (.ref C) "__init__" = some (some (.ref fI))
  tI : PySem.W.typeIn K (.ref fI) = some (.type "function")
  F1 : FnOk P w K mg base CX0 1 fI fdI ["self"] spInit0
  bI : Binds K fdI ["self"] []
  m : mg x = some (.ref C)
open PySem.Spec PyProof.Rows in
theorem mk_endN {X : Cx} {pins : List (Addr × Obj)} {σ : L2.St} {H1 : Hp} {Q : XK} {hp hp2 h2 : Heap} {g1 g2 : Array GenState} {d1 d2 : Drawn} {t1 t2 : Nat} {os1 os2 : OsState} {a C : Addr} (T : Raises X (.ref C)) (I1 : Inv X pins σ H1 ⟨hp, g1, d1, t1, os1⟩)
    (ha : hp.objs.size ≤ a) (k : ∀ b o, hp.get? b = some o → hp2.get? b = some o) (un : Un (frs X.stack) [] (upd H1 a (exo a C none)) (upd H1 a (exo a C none)) hp2 h2) (hok : HOk X.prog X.w (upd H1 a (exo a C none)) h2) (ho : os2 = os1) (hb : AllBare g2)
    (q : Q (.ref C) none H1) : MkP X pins σ Q (.ref a) ⟨h2, g2, d2, t2, os2⟩ := by
  obtain ⟨t0, hoe⟩ := exo_at hok upd_same
  have hn : H1 a = none := I1.hok.fresh ha
  obtain ⟨G, g1', g2'⟩ := restrict h2 fun b => decide (b ≠ a)
  have gk : ∀ b, b ≠ a → G.get? b = h2.get? b := fun b hb => g1' b (decide_eq_true hb)
  have ge : G.get? a = none := g2' a (by simp)
  have nha : ∀ {b : Addr} {o : Obj}, hp.get? b = some o → b ≠ a := fun {b o} z => Nat.ne_of_lt (Nat.lt_of_lt_of_le (Heap.lt_size z) ha)
  have up : ∀ {b : Addr}, b ≠ a → H1 b = none → upd H1 a (exo a C none) b = none := fun {b} hb n => by rw [upd_ne hb]; exact n
  have U : Un (frs X.stack) [] H1 H1 hp G := {
    keep := fun b o z n hf hx => by
      rw [gk b (nha z)]
      exact un.keep b o (k b o z) (up (nha z) n) hf hx
    slot := fun b o z n hf hx => by
      rw [gk b (nha z)]
      exact un.slot b o (k b o z) (up (nha z) n) hf hx
    free := fun b o z n hx => n
    there := fun b o z hx => by
      rw [gk b (nha z)]
      exact un.there b o (k b o z) hx
    tups := fun b xs z => z
    frzs := fun b o v z => z
    tbls := fun b ps z => ⟨#[], by rw [z]; simp⟩ }
  have hok3 : HOk X.prog X.w H1 G := fun b o z => by
    have hba : b ≠ a := fun e => by
      rw [e, hn] at z
      cases z
    have z2 : upd H1 a (exo a C none) b = some o := by rw [upd_ne hba]; exact z
    have noa : ∀ {c : Addr} {u : HO}, H1 c = some u → c ≠ a := fun {c u} hc e => by
      rw [e, hn] at hc
      cases hc
    exact (hok b o z2).stay (fun c v hc y => by
        have hca : c ≠ a := by
          rcases hc with hc | hc
          · rw [hc]
            exact hba
          · exact fun e => by
              rw [e, upd_same] at hc
              exact exo_own (Option.some.inj hc)
        rw [gk c hca]
        exact y)
      (fun c hc => by
        by_cases e : c = a
        · rw [e, upd_same] at hc
          exact absurd (Option.some.inj hc) exo_own
        · rw [upd_ne e] at hc
          exact hc)
      (fun c xs hc => by
        by_cases e : c = a
        · rw [e, upd_same] at hc
          exact absurd (Option.some.inj hc) exo_tup
        · rw [upd_ne e] at hc
          exact hc)
  have J : Inv X pins σ H1 ⟨G, g2, d2, t2, os2⟩ := I1.call' (ch := []) ho U hok3 hb (fun b z => absurd z (by simp))
  refine ⟨a, _, _, ⟨G, g2, d2, t2, os2⟩, _, .ref C, none, rfl, J, fun b o z => ?_, ge, hoe, ⟨rfl, rfl⟩, rfl, rfl, hn, rfl, hb, T, q⟩
  by_cases hba : b = a
  · rw [hba, ge] at z
    cases z
  · exact (gk b hba).symm.trans z
open PySem.Spec PyProof.Rows in
theorem pmk_plain {X : Cx} {x : Str} {C fI : Addr} {fdI : FuncData} {p pos : Pos} (T : PlainExc X.prog X.w X.K X.mg X.base x C fI fdI) (hr : Room 2 X.A) (hg : Gl X x) (hdb : (x == ("__debug__" : Str)) = false := by decide) :
    PMk X (.Call (.Name x p) [] [] pos) (fun _ H Q => Q (.ref C) none H) := by
  intro pins s σ H Q I h
  obtain ⟨nm, q, N, bs, bm, sn, sub, ab, col, dd, k0, k1, k2, k3, k5, hC, hbm⟩ := T.T.cls
  refine wpAny_Call_Name_kw (ld_glob I hg T.m ?_ hdb)
  refine PySem.W.callWith_K0 I.kIn T.T.kC ?_
  show wpAny _ _ (call (.ref C) []) _ _ _
  obtain ⟨hp, g, dr, tk, os⟩ := s
  have hsz : hp.objs.size ≤ hp.objs.size + 1 := Nat.le_succ _
  have hn : H (hp.objs.size + 1) = none := I.hok.fresh hsz
  have kk : ∀ b o, hp.get? b = some o → ((hp.push (PySem.W.kdv_tup [])).push (PySem.HandSPX.excO C hp.objs.size)).get? b = some o := fun b o e => Heap.get?_push_of_some _ (Heap.get?_push_of_some _ e)
  have hget : ((hp.push (PySem.W.kdv_tup [])).push (PySem.HandSPX.excO C hp.objs.size)).get? (hp.objs.size + 1) = some (PySem.HandSPX.excO C hp.objs.size) := by heap_get
  have I2 : Inv X pins σ (upd H (hp.objs.size + 1) (exo (hp.objs.size + 1) C none)) ⟨(hp.push (PySem.W.kdv_tup [])).push (PySem.HandSPX.excO C hp.objs.size), g, dr, tk, os⟩ :=
    I.laid (t' := tk) (a := hp.objs.size + 1) (o := exo (hp.objs.size + 1) C none) (h' := (hp.push (PySem.W.kdv_tup [])).push (PySem.HandSPX.excO C hp.objs.size)) kk hsz (exo_ok hget)
  have r2 : Vals [V.ref (hp.objs.size + 1)] [Value.ref (hp.objs.size + 1)] := .cons rfl .nil
  have hq : spInit0 [V.ref (hp.objs.size + 1)] (upd H (hp.objs.size + 1) (exo (hp.objs.size + 1) C none)) (fun v H2 => v = .non ∧ H2 = upd H (hp.objs.size + 1) (exo (hp.objs.size + 1) C none)) (fun _ _ _ => False) := ⟨_, rfl, rfl, rfl⟩
  refine wpAny_call (PySem.HandSPX.call_own PySem.F.excBase_ValueError (fun Y => PySem.HandSPX.refsVE_contains Y bm hbm) (I.kIn _ _ hC) (PySem.W.looks_findIn I.kIn T.iC) (fun self => PySem.W.bind_fn I.kIn self T.tI) (Nat.zero_le _)
    (codeAny_mono (T.F1.run _ X.stack _ _ ⟨[Value.ref (hp.objs.size + 1)], []⟩ [Value.ref (hp.objs.size + 1)] _ _ (fun _ _ _ => False) (hr.make C [] []) (I2.env0.make C [] []) (T.bI _ [Value.ref (hp.objs.size + 1)] I2.kIn rfl) r2 hq) fun r s' hq' => ?_))
  cases r with
  | error er => exact hq'.elim
  | ok fl =>
    cases fl with
    | ret u =>
      obtain ⟨v, H2, os2, bare2, un2, hok2, rv, ev, eH⟩ := hq'
      subst ev
      subst eH
      obtain ⟨h2, g2, d2, t2, os'⟩ := s'
      exact ⟨rv, mk_endN (raises_own T.T.exC T.T.tyC) I hsz kk un2 hok2 os2 bare2 h⟩
    | next => exact False.elim hq'
    | brk => exact False.elim hq'
    | cont => exact False.elim hq'

theorem ite_t {c A B : Prop} [Decidable c] (hc : c) (h : A) : if decide c = true then A else B := by
  rw [decide_eq_true hc]
  exact iteT h
theorem ite_f {c A B : Prop} [Decidable c] (hc : ¬ c) (h : B) : if decide c = true then A else B := by
  rw [decide_eq_false hc]
  exact iteF h
theorem ite_nt {c A B : Prop} [Decidable c] (hc : ¬ c) (h : A) : if (!decide c) = true then A else B := by
  rw [decide_eq_false hc]
  exact iteT h
theorem ite_nf {c A B : Prop} [Decidable c] (hc : c) (h : B) : if (!decide c) = true then A else B := by
  rw [decide_eq_true hc]
  exact iteF h
theorem ite_by {c A B : Prop} [Decidable c] (h1 : c → A) (h2 : ¬ c → B) : if decide c = true then A else B := by
  by_cases h : c
  · exact ite_t h (h1 h)
  · exact ite_f h (h2 h)
theorem ite_nby {c A B : Prop} [Decidable c] (h1 : ¬ c → A) (h2 : c → B) : if (!decide c) = true then A else B := by
  by_cases h : c
  · exact ite_nf h (h2 h)
  · exact ite_nt h (h1 h)
/-- an item of the ints -/
theorem at_int {ns : List Int} {k : Int} (h0 : 0 ≤ k) (h1 : k < (ns.length : Int)) : atI (ns.map V.int) k = some (V.int (ns.getD k.toNat 0)) := by
  refine at_of (j := k.toNat) (by omega) ?_
  have h2 : k.toNat < ns.length := by omega
  rw [List.getElem?_map, List.getElem?_eq_getElem h2, List.getD_eq_getElem?_getD, List.getElem?_eq_getElem h2]
  rfl
theorem two_pos1 (k : Nat) : (0 : Int) < 1 * 2 ^ k := by
  rw [Int.one_mul]
  exact Int.pow_pos (by decide)
theorem q_int {Q : VK} {x y : Int} {H : Hp} (q : Q (.int x) H) (e : x = y) : Q (.int y) H := e ▸ q
theorem q_bl {Q : VK} {x y : Bool} {H : Hp} (q : Q (.bl x) H) (e : x = y) : Q (.bl y) H := e ▸ q

/-! ### readings that stop the walk where a new object comes: told by what holds of the new heap -/
/-- the closure of a reading: some wish that it keeps, and that is enough -/
def cTE (t : TE) : TE := fun σ H Q => ∃ R : VK, t σ H R ∧ ∀ v H', R v H' → Q v H'
def cTA (t : TA) : TA := fun σ H Q => ∃ R : List V → Hp → Prop, t σ H R ∧ ∀ v H', R v H' → Q v H'
def cTT (t : TT) : TT := fun σ H Q => ∃ R : Bool → Hp → Prop, t σ H R ∧ ∀ v H', R v H' → Q v H'
section
variable {X : Cx} {e : Expr} {es : List Expr} {te : TE} {ta : TA} {tt : TT} {pos : Pos}
theorem pe_c (h : PE X e te) : PE X e (cTE te) := ⟨fun pins s σ H Q I ⟨R, h1, h2⟩ => thn (h.run pins s σ H R I h1) fun u s1 ⟨v, H1, I1, r, q⟩ => ⟨v, H1, I1, r, h2 _ _ q⟩⟩
theorem pa_c (h : PA X es ta) : PA X es (cTA ta) := ⟨fun pos pins s σ H Q I ⟨R, h1, h2⟩ => thn (h.run pos pins s σ H R I h1) fun u s1 ⟨v, H1, I1, r, q⟩ => ⟨v, H1, I1, r, h2 _ _ q⟩⟩
theorem pt_c (h : PT X e tt) : PT X e (cTT tt) := ⟨fun pins s σ H Q I ⟨R, h1, h2⟩ => thn (h.run pins s σ H R I h1) fun u s1 ⟨H1, I1, q⟩ => ⟨H1, I1, h2 _ _ q⟩⟩
theorem pe_weak {te' : TE} (h : PE X e te) (w : ∀ σ H Q, te' σ H Q → te σ H Q) : PE X e te' := ⟨fun pins s σ H Q I q => h.run pins s σ H Q I (w σ H Q q)⟩
theorem ps_weak {st : Stmt} {t t' : TS} (h : PS X st t) (w : ∀ D σ H, t' D σ H → t D σ H) : PS X st t' := ⟨fun pins s σ H D I q => h.run pins s σ H D I (w D σ H q)⟩
end
/-- what is wanted of a new object -/
def NewO (o : HO) (H : Hp) (Q : VK) : Prop := ∀ p H', H p = none → Same H H' → H' p = some o → Q (.ref p) H'
theorem NewO.go {o : HO} {H : Hp} {Q : VK} (h : NewO o H Q) : ∀ p, H p = none → Q (.ref p) (upd H p o) := fun p hp => h p _ hp (same_upd hp) upd_same
@[irreducible] def mTup (t : TA) : TE := fun σ H Q => t σ H fun xs H1 => xs.length ≤ 1000 ∧ NewO (.tup xs) H1 Q
@[irreducible] def mLst (t : TA) : TE := fun σ H Q => t σ H fun xs H1 => xs.length ≤ 1000 ∧ NewO (.lst xs) H1 Q
theorem rd_tup {t : TA} {σ : L2.St} {H : Hp} {Q : VK} (h : t σ H fun xs H1 => xs.length ≤ 1000 ∧ NewO (.tup xs) H1 Q) : mTup t σ H Q := by
  unfold mTup
  exact h
theorem rd_lst {t : TA} {σ : L2.St} {H : Hp} {Q : VK} (h : t σ H fun xs H1 => xs.length ≤ 1000 ∧ NewO (.lst xs) H1 Q) : mLst t σ H Q := by
  unfold mLst
  exact h
@[irreducible] def mCat (K : PySem.W.Frag) : R2 := fun x y H Q => ∃ l b xs zs, x = .ref l ∧ y = .ref b ∧ H l = some (.lst xs) ∧ H b = some (.lst zs) ∧ xs.length + zs.length ≤ 1000000 ∧ NewO (.lst (xs ++ zs)) H Q
theorem rd_cat {K : PySem.W.Frag} {l b : Addr} {xs zs : List V} {H : Hp} {Q : VK} (h1 : H l = some (.lst xs)) (h2 : H b = some (.lst zs)) (hz : xs.length + zs.length ≤ 1000000) (h : NewO (.lst (xs ++ zs)) H Q) : mCat K (.ref l) (.ref b) H Q := by
  unfold mCat
  exact ⟨l, b, xs, zs, rfl, rfl, h1, h2, hz, h⟩
@[irreducible] def mRep : R2 := fun x y H Q => ∃ l k xs, x = .ref l ∧ y = .int k ∧ H l = some (.lst xs) ∧ 0 ≤ k ∧ k ≤ 100000 ∧ xs.length * k.toNat ≤ 1000000 ∧ NewO (.lst (List.replicate k.toNat xs).flatten) H Q
@[irreducible] def mSlL (K : PySem.W.Frag) : V → Option Int → Option Int → Hp → VK → Prop := fun x lo hi H Q => ∃ a xs, x = .ref a ∧ SqL K H a xs ∧ NewO (.lst (cutV xs lo hi)) H Q
theorem rd_sl {K : PySem.W.Frag} {a : Addr} {xs : List V} {lo hi : Option Int} {H : Hp} {Q : VK} (h1 : SqL K H a xs) (h : NewO (.lst (cutV xs lo hi)) H Q) : mSlL K (.ref a) lo hi H Q := by
  unfold mSlL
  exact ⟨a, xs, rfl, h1, h⟩
@[irreducible] def mListOf (K : PySem.W.Frag) : List V → Hp → VK → Prop := fun xs H Q => ∃ p ys, xs = [.ref p] ∧ (SqL K H p ys ∨ SqT K H p ys) ∧ NewO (.lst ys) H Q
theorem rd_list {K : PySem.W.Frag} {a : Addr} {xs : List V} {H : Hp} {Q : VK} (h1 : SqL K H a xs) (h : NewO (.lst xs) H Q) : mListOf K [.ref a] H Q := by
  unfold mListOf
  exact ⟨a, xs, rfl, .inl h1, h⟩
/-- the elements of a comprehension, one by one: what each gives, the heap grown at most -/
def Elt (te : TE) (σ : L2.St) (H : Hp) (y : V) : Prop := ∀ H', Same H H' → te σ H' fun v H'' => v = y ∧ Same H' H''
@[irreducible] def mLcR1 (ta : TA) (j : Nat) (te : TE) (vs : List Nat) : TE := fun σ H Q => ta σ H fun ws H1 => ∃ (n : Int) (f : Nat → V), ws = [.int n] ∧ (-100000 ≤ n ∧ n ≤ 100000) ∧ (∀ i, i < n.toNat → Elt te ((wipe σ vs).set j (some (.int (i : Nat)))) H1 (f i)) ∧ NewO (.lst ((List.range n.toNat).map f)) H1 Q
theorem rd_lcR1 {ta : TA} {j : Nat} {te : TE} {vs : List Nat} {σ : L2.St} {H : Hp} {Q : VK} (h : ta σ H fun ws H1 => ∃ (n : Int) (f : Nat → V), ws = [.int n] ∧ (-100000 ≤ n ∧ n ≤ 100000) ∧ (∀ i, i < n.toNat → Elt te ((wipe σ vs).set j (some (.int (i : Nat)))) H1 (f i)) ∧ NewO (.lst ((List.range n.toNat).map f)) H1 Q) : mLcR1 ta j te vs σ H Q := by
  unfold mLcR1
  exact h
@[irreducible] def mLcL (K : PySem.W.Frag) (tl : TE) (j : Nat) (te : TE) (vs : List Nat) : TE := fun σ H Q => tl σ H fun x H1 => ∃ (a : Addr) (xs : List V) (f : V → V), x = .ref a ∧ SqL K H1 a xs ∧ xs.length ≤ 100000 ∧ (∀ y, y ∈ xs → Elt te ((wipe σ vs).set j (some y)) H1 (f y)) ∧ NewO (.lst (xs.map f)) H1 Q
theorem rd_lcL {K : PySem.W.Frag} {tl : TE} {j : Nat} {te : TE} {vs : List Nat} {σ : L2.St} {H : Hp} {Q : VK} (h : tl σ H fun x H1 => ∃ (a : Addr) (xs : List V) (f : V → V), x = .ref a ∧ SqL K H1 a xs ∧ xs.length ≤ 100000 ∧ (∀ y, y ∈ xs → Elt te ((wipe σ vs).set j (some y)) H1 (f y)) ∧ NewO (.lst (xs.map f)) H1 Q) : mLcL K tl j te vs σ H Q := by
  unfold mLcL
  exact h
theorem wipe_set {σ : L2.St} {vs : List Nat} {j : Nat} {x : Option V} (hj : vs = [j]) : wipe ((wipe σ vs).set j x) vs = wipe σ vs := by
  subst hj
  show ((σ.set j none).set j x).set j none = σ.set j none
  rw [List.set_set, List.set_set]
section
variable {X : Cx} {e : Expr} {es : List Expr} {te : TE} {t ta : TA} {tt : TT} {pos : Pos}
theorem pe_tupM {x1} (h : PA X es t) : PE X (.Tuple es x1 pos) (mTup t) := pe_weak (pe_tup (pa_c h)) fun σ H Q q => by
  unfold mTup at q
  exact ⟨_, q, fun xs H1 r => ⟨sz (Nat.le_trans r.1 (by decide)), r.2.go⟩⟩
theorem pe_lstM (h : PA X es t) : PE X (.List es pos) (mLst t) := pe_weak (pe_lst (pa_c h)) fun σ H Q q => by
  unfold mLst at q
  exact ⟨_, q, fun xs H1 r => ⟨sz (Nat.le_trans r.1 (by decide)), r.2.go⟩⟩
theorem op_catM : OpR X (binaryOp .Add) (mCat X.K) := fun pins s σ H x y v u Q I rx ry q => op_cat pins s σ H x y v u Q I rx ry (by
  unfold mCat at q
  obtain ⟨l, b, xs, zs, e1, e2, h1, h2, hz, h⟩ := q
  exact ⟨l, b, xs, zs, e1, e2, h1, h2, sz hz, h.go⟩)
theorem sl_listM : SlR X (mSlL X.K) := fun pins s σ H x v vl vu lo hi sl Q I rx hs pl pu q => sl_list pins s σ H x v vl vu lo hi sl Q I rx hs pl pu (by
  unfold mSlL at q
  obtain ⟨a, xs, e1, h1, h⟩ := q
  exact ⟨a, xs, e1, h1, h.go⟩)
theorem call_listM : CallR X (.type "list") (mListOf X.K) := fun pins s σ H xs us Q I r q => call_list_of pins s σ H xs us Q I r (by
  unfold mListOf at q
  obtain ⟨a, xs, e1, h1, h⟩ := q
  exact ⟨a, xs, e1, h1, h.go⟩)
/-- [e for x in range(n)] -/
theorem lcR1_of {ta : TA} {j : Nat} {te : TE} {vs : List Nat} {σ : L2.St} {H : Hp} {Q : VK} (hj : vs = [j]) (q : mLcR1 ta j te vs σ H Q) : tLc (iRng1 (cTA ta)) (gName j) tYes (cTE te) vs σ H Q := by
  unfold mLcR1 at q
  refine ⟨_, q, fun ws H1 r => ?_⟩
  obtain ⟨n, f, rfl, hn, he, hq⟩ := r
  obtain ⟨hn0, hn⟩ := hn
  have big : (2 : Int) ^ 62 = 4611686018427387904 := by decide
  refine ⟨n, rfl, by omega, by omega, fun D hD => ?_⟩
  refine lc_range (lo := 0) (n := n.toNat) (fun i H' => Same H1 H' ∧ H' D = some (.lst ((List.range i).map f))) ⟨same_upd hD, upd_same⟩ (fun i H' hi p => ⟨wipe_set hj, ?_⟩) fun H' p => hq D H' hD p.1 p.2
  show cTE te ((wipe σ vs).set j (some (.int (0 + (i : Int))))) H' _
  rw [Int.zero_add]
  refine ⟨_, he i hi H' p.1, fun y H'' r => ?_⟩
  obtain ⟨rfl, s2⟩ := r
  refine ⟨_, s2 _ _ p.2, szl (by rw [List.length_map, List.length_range]; omega), same_mut (p.1.trans s2) hD, ?_⟩
  rw [upd_same, List.range_succ, List.map_append]
  rfl
theorem take_snoc {α : Type} {l : List α} {i : Nat} {x : α} (h : l[i]? = some x) : l.take (i + 1) = l.take i ++ [x] := by
  rw [List.take_add_one, h]
  rfl
/-- [e for x in xs] -/
theorem lcL_of {K : PySem.W.Frag} {tl : TE} {j : Nat} {te : TE} {vs : List Nat} {σ : L2.St} {H : Hp} {Q : VK} (hj : vs = [j]) (q : mLcL K tl j te vs σ H Q) : tLc (iList K (cTE tl)) (gName j) tYes (cTE te) vs σ H Q := by
  unfold mLcL at q
  refine ⟨_, q, fun x H1 r => ?_⟩
  obtain ⟨a, xs, f, rfl, hx, hn, he, hq⟩ := r
  refine ⟨a, rfl, ⟨xs, hx⟩, fun D hD => ?_⟩
  refine lc_list (xs := xs) (fun i H' => Same H1 H' ∧ H' D = some (.lst ((xs.take i).map f))) ⟨same_upd hD, upd_same⟩ (fun i H' _ p => p.1.seq hx) (fun i y H' hi p => ⟨wipe_set hj, ?_⟩) fun H' p => hq D H' hD p.1 (by rw [p.2, List.take_length])
  have hy : y ∈ xs := List.mem_of_getElem? hi
  have hl : i < xs.length := (List.getElem?_eq_some_iff.mp hi).1
  show cTE te ((wipe σ vs).set j (some y)) H' _
  refine ⟨_, he y hy H' p.1, fun z H'' r => ?_⟩
  obtain ⟨rfl, s2⟩ := r
  refine ⟨_, s2 _ _ p.2, szl (by rw [List.length_map, List.length_take]; omega), same_mut (p.1.trans s2) hD, ?_⟩
  rw [upd_same, take_snoc hi, List.map_append]
  rfl
theorem pe_lcR1 {elt : Expr} {scope : Scope} {j : Nat} {x : Str} {a : Expr} {p p2 xpos : Pos} (hc : X.calm = true) (hN : X.N.Nodup) (hg : Gl X "range") (hm : X.mg "range" = none) (ha : PA X [a] ta) (ok : BlkOk X.N X.env.scope scope [(x, j)])
    (hgt : ∀ (s : Shared) (H : Hp) (C : Addr) (cl : List (Str × Addr)) (fp : List Addr), PG (X.blk s H scope (compEnvC scope cl C X.env) fp) (.Name x xpos) (gName j))
    (he : ∀ (s : Shared) (H : Hp) (C : Addr) (cl : List (Str × Addr)) (fp : List Addr), PE (X.blk s H scope (compEnvC scope cl C X.env) fp) elt te)
    (hs : starEach [a] X.env = [(false, eval a X.env)] := by rfl) (hs2 : ∀ y, foldedSetIterable (.Call (.Name "range" p) [a] [] p2) X.env y = pure y := by intro _; rfl) :
    PE X (.ListComp elt [⟨.Name x xpos, .Call (.Name "range" p) [a] [] p2, [], 0⟩] scope pos) (mLcR1 ta j te [j]) :=
  pe_weak (pe_lc hc hN (pi_range1 hg hm (pa_c ha) hs) ok hgt (fun _ _ _ _ _ => pts_nil) (fun s H C cl fp => pe_c (he s H C cl fp)) hs2) fun _ _ _ q => lcR1_of rfl q
theorem pe_lcL {elt it : Expr} {scope : Scope} {j : Nat} {x : Str} {xpos : Pos} (hc : X.calm = true) (hN : X.N.Nodup) {tl : TE} (ha : PE X it tl) (ok : BlkOk X.N X.env.scope scope [(x, j)])
    (hgt : ∀ (s : Shared) (H : Hp) (C : Addr) (cl : List (Str × Addr)) (fp : List Addr), PG (X.blk s H scope (compEnvC scope cl C X.env) fp) (.Name x xpos) (gName j))
    (he : ∀ (s : Shared) (H : Hp) (C : Addr) (cl : List (Str × Addr)) (fp : List Addr), PE (X.blk s H scope (compEnvC scope cl C X.env) fp) elt te) (hs2 : ∀ y, foldedSetIterable it X.env y = pure y := by intro _; rfl) :
    PE X (.ListComp elt [⟨.Name x xpos, it, [], 0⟩] scope pos) (mLcL X.K tl j te [j]) :=
  pe_weak (pe_lc hc hN (pi_list (pe_c ha)) ok hgt (fun _ _ _ _ _ => pts_nil) (fun s H C cl fp => pe_c (he s H C cl fp)) hs2) fun _ _ _ q => lcL_of rfl q
theorem ps_setLcR1 {i : Nat} {y : Str} {py spos : Pos} {elt : Expr} {scope : Scope} {j : Nat} {x : Str} {a : Expr} {p p2 xpos : Pos} (hc : X.calm = true) (hN : X.N.Nodup) (hy : X.N[i]? = some y) (hyl : X.env.scope.names.lookup y = some .local)
    (hsw : swapsWith (.ListComp elt [⟨.Name x xpos, .Call (.Name "range" p) [a] [] p2, [], 0⟩] scope pos) (some (.Name y py)) spos.line X.env = pure true) (hg : Gl X "range") (hm : X.mg "range" = none) (ha : PA X [a] ta) (ok : BlkOk X.N X.env.scope scope [(x, j)])
    (hgt : ∀ (s : Shared) (H : Hp) (C : Addr) (cl : List (Str × Addr)) (fp : List Addr), PG (X.blk s H scope (compEnvC scope cl C X.env) fp) (.Name x xpos) (gName j))
    (he : ∀ (s : Shared) (H : Hp) (C : Addr) (cl : List (Str × Addr)) (fp : List Addr), PE (X.blk s H scope (compEnvC scope cl C X.env) fp) elt te)
    (hs : starEach [a] X.env = [(false, eval a X.env)] := by rfl) (hs2 : ∀ y, foldedSetIterable (.Call (.Name "range" p) [a] [] p2) X.env y = pure y := by intro _; rfl) :
    PS X (.Assign [.Name y py] (.ListComp elt [⟨.Name x xpos, .Call (.Name "range" p) [a] [] p2, [], 0⟩] scope pos) spos) (tAsg (mLcR1 ta j te [j]) (gName i)) :=
  ps_weak (ps_setLc hc hN hy hyl hsw (pi_range1 hg hm (pa_c ha) hs) ok hgt (fun _ _ _ _ _ => pts_nil) (fun s H C cl fp => pe_c (he s H C cl fp)) hs2) fun _ _ _ q => lcR1_of rfl q
theorem ps_setLcL {i : Nat} {y : Str} {py spos : Pos} {elt it : Expr} {scope : Scope} {j : Nat} {x : Str} {xpos : Pos} {tl : TE} (hc : X.calm = true) (hN : X.N.Nodup) (hy : X.N[i]? = some y) (hyl : X.env.scope.names.lookup y = some .local)
    (hsw : swapsWith (.ListComp elt [⟨.Name x xpos, it, [], 0⟩] scope pos) (some (.Name y py)) spos.line X.env = pure true) (ha : PE X it tl) (ok : BlkOk X.N X.env.scope scope [(x, j)])
    (hgt : ∀ (s : Shared) (H : Hp) (C : Addr) (cl : List (Str × Addr)) (fp : List Addr), PG (X.blk s H scope (compEnvC scope cl C X.env) fp) (.Name x xpos) (gName j))
    (he : ∀ (s : Shared) (H : Hp) (C : Addr) (cl : List (Str × Addr)) (fp : List Addr), PE (X.blk s H scope (compEnvC scope cl C X.env) fp) elt te) (hs2 : ∀ y, foldedSetIterable it X.env y = pure y := by intro _; rfl) :
    PS X (.Assign [.Name y py] (.ListComp elt [⟨.Name x xpos, it, [], 0⟩] scope pos) spos) (tAsg (mLcL X.K tl j te [j]) (gName i)) :=
  ps_weak (ps_setLc hc hN hy hyl hsw (pi_list (pe_c ha)) ok hgt (fun _ _ _ _ _ => pts_nil) (fun s H C cl fp => pe_c (he s H C cl fp)) hs2) fun _ _ _ q => lcL_of rfl q
/-! ### loops that stop the walk -/
@[irreducible] def mForR1 (ta : TA) (j : Nat) (tb : TS) : TS := fun D σ H => ta σ H fun ws H1 => ∃ (n : Int) (Pv : Nat → L2.St → Hp → Prop), ws = [.int n] ∧ (-100000 ≤ n ∧ n ≤ 100000) ∧ Pv 0 σ H1 ∧
  (∀ i σ' H', i < n.toNat → Pv i σ' H' → tb { D with nx := Pv (i + 1), ct := Pv (i + 1), bk := D.nx } (σ'.set j (some (.int (i : Nat)))) H') ∧ ∀ σ' H', Pv n.toNat σ' H' → D.nx σ' H'
theorem rd_forR1 {ta : TA} {j : Nat} {tb : TS} {D : Ends} {σ : L2.St} {H : Hp} (h : ta σ H fun ws H1 => ∃ (n : Int) (Pv : Nat → L2.St → Hp → Prop), ws = [.int n] ∧ (-100000 ≤ n ∧ n ≤ 100000) ∧ Pv 0 σ H1 ∧
  (∀ i σ' H', i < n.toNat → Pv i σ' H' → tb { D with nx := Pv (i + 1), ct := Pv (i + 1), bk := D.nx } (σ'.set j (some (.int (i : Nat)))) H') ∧ ∀ σ' H', Pv n.toNat σ' H' → D.nx σ' H') : mForR1 ta j tb D σ H := by
  unfold mForR1
  exact h
theorem forR1_of {ta : TA} {j : Nat} {tb : TS} {D : Ends} {σ : L2.St} {H : Hp} (q : mForR1 ta j tb D σ H) : tFor (iRng1 (cTA ta)) (gName j) tb D σ H := by
  unfold mForR1 at q
  refine ⟨_, q, fun ws H1 r => ?_⟩
  obtain ⟨n, Pv, rfl, ⟨hn0, hn⟩, h0, hs, hd⟩ := r
  have big : (2 : Int) ^ 62 = 4611686018427387904 := by decide
  refine ⟨n, rfl, by omega, by omega, for_range (lo := 0) (n := n.toNat) Pv h0 (fun i σ' H' hi p => ?_) hd⟩
  show tb _ (σ'.set j (some (.int (0 + (i : Int))))) H'
  rw [Int.zero_add]
  exact hs i σ' H' hi p
theorem ps_forR1 {j : Nat} {x : Str} {a : Expr} {body : List Stmt} {tb : TS} {p p2 xpos : Pos} (hp : PassesOwn (model X.prog X.w) X.A X.env X.xe) (hc : X.calm = true) (hg : Gl X "range") (hm : X.mg "range" = none) (ha : PA X [a] ta) (hgt : PG X (.Name x xpos) (gName j)) (hb : PSs X body tb)
    (hs : starEach [a] X.env = [(false, eval a X.env)] := by rfl) (hs2 : ∀ y, foldedSetIterable (.Call (.Name "range" p) [a] [] p2) X.env y = pure y := by intro _; rfl) : PS X (.For (.Name x xpos) (.Call (.Name "range" p) [a] [] p2) body [] pos) (mForR1 ta j tb) :=
  ps_weak (ps_for hp hc (pi_range1 hg hm (pa_c ha) hs) hgt hb hs2) fun _ _ _ q => forR1_of q
@[irreducible] def mForR2 (ta : TA) (j : Nat) (tb : TS) : TS := fun D σ H => ta σ H fun ws H1 => ∃ (lo n : Int) (Pv : Nat → L2.St → Hp → Prop), ws = [.int lo, .int n] ∧ (-100000 ≤ lo ∧ lo ≤ 100000 ∧ -100000 ≤ n ∧ n ≤ 100000) ∧ Pv 0 σ H1 ∧
  (∀ i σ' H', i < (n - lo).toNat → Pv i σ' H' → tb { D with nx := Pv (i + 1), ct := Pv (i + 1), bk := D.nx } (σ'.set j (some (.int (lo + (i : Int))))) H') ∧ ∀ σ' H', Pv (n - lo).toNat σ' H' → D.nx σ' H'
theorem rd_forR2 {ta : TA} {j : Nat} {tb : TS} {D : Ends} {σ : L2.St} {H : Hp} (h : ta σ H fun ws H1 => ∃ (lo n : Int) (Pv : Nat → L2.St → Hp → Prop), ws = [.int lo, .int n] ∧ (-100000 ≤ lo ∧ lo ≤ 100000 ∧ -100000 ≤ n ∧ n ≤ 100000) ∧ Pv 0 σ H1 ∧
  (∀ i σ' H', i < (n - lo).toNat → Pv i σ' H' → tb { D with nx := Pv (i + 1), ct := Pv (i + 1), bk := D.nx } (σ'.set j (some (.int (lo + (i : Int))))) H') ∧ ∀ σ' H', Pv (n - lo).toNat σ' H' → D.nx σ' H') : mForR2 ta j tb D σ H := by
  unfold mForR2
  exact h
theorem ps_forR2 {j : Nat} {x : Str} {a b : Expr} {body : List Stmt} {tb : TS} {p p2 xpos : Pos} (hp : PassesOwn (model X.prog X.w) X.A X.env X.xe) (hc : X.calm = true) (hg : Gl X "range") (hm : X.mg "range" = none) (ha : PA X [a, b] ta) (hgt : PG X (.Name x xpos) (gName j)) (hb : PSs X body tb)
    (hs : starEach [a, b] X.env = [(false, eval a X.env), (false, eval b X.env)] := by rfl) (hs3 : starEach [b] X.env = [(false, eval b X.env)] := by rfl) (hs2 : ∀ y, foldedSetIterable (.Call (.Name "range" p) [a, b] [] p2) X.env y = pure y := by intro _; rfl) :
    PS X (.For (.Name x xpos) (.Call (.Name "range" p) [a, b] [] p2) body [] pos) (mForR2 ta j tb) :=
  ps_weak (ps_for hp hc (pi_range2 hg hm (pa_c ha) hs hs3) hgt hb hs2) fun D σ H q => by
    unfold mForR2 at q
    refine ⟨_, q, fun ws H1 r => ?_⟩
    obtain ⟨lo, n, Pv, rfl, ⟨h1, h2, h3, h4⟩, h0, hs, hd⟩ := r
    have big : (2 : Int) ^ 62 = 4611686018427387904 := by decide
    exact ⟨lo, n, rfl, ⟨by omega, by omega, by omega, by omega⟩, for_range (lo := lo) (n := (n - lo).toNat) Pv h0 (fun i σ' H' hi p => hs i σ' H' hi p) hd⟩
/-- for x in xs -/
@[irreducible] def mForL (K : PySem.W.Frag) (tl : TE) (j : Nat) (tb : TS) : TS := fun D σ H => tl σ H fun x H1 => ∃ (a : Addr) (xs : List V) (Pv : Nat → L2.St → Hp → Prop), x = .ref a ∧ SqL K H1 a xs ∧ Pv 0 σ H1 ∧ (∀ i σ' H', i ≤ xs.length → Pv i σ' H' → SqL K H' a xs) ∧
  (∀ i y σ' H', xs[i]? = some y → Pv i σ' H' → tb { D with nx := Pv (i + 1), ct := Pv (i + 1), bk := D.nx } (σ'.set j (some y)) H') ∧ ∀ σ' H', Pv xs.length σ' H' → D.nx σ' H'
theorem rd_forL {K : PySem.W.Frag} {tl : TE} {j : Nat} {tb : TS} {D : Ends} {σ : L2.St} {H : Hp} (h : tl σ H fun x H1 => ∃ (a : Addr) (xs : List V) (Pv : Nat → L2.St → Hp → Prop), x = .ref a ∧ SqL K H1 a xs ∧ Pv 0 σ H1 ∧ (∀ i σ' H', i ≤ xs.length → Pv i σ' H' → SqL K H' a xs) ∧
  (∀ i y σ' H', xs[i]? = some y → Pv i σ' H' → tb { D with nx := Pv (i + 1), ct := Pv (i + 1), bk := D.nx } (σ'.set j (some y)) H') ∧ ∀ σ' H', Pv xs.length σ' H' → D.nx σ' H') : mForL K tl j tb D σ H := by
  unfold mForL
  exact h
theorem ps_forL {j : Nat} {x : Str} {it : Expr} {body : List Stmt} {tb : TS} {tl : TE} {xpos : Pos} (hp : PassesOwn (model X.prog X.w) X.A X.env X.xe) (hc : X.calm = true) (ha : PE X it tl) (hgt : PG X (.Name x xpos) (gName j)) (hb : PSs X body tb)
    (hs2 : ∀ y, foldedSetIterable it X.env y = pure y := by intro _; rfl) : PS X (.For (.Name x xpos) it body [] pos) (mForL X.K tl j tb) :=
  ps_weak (ps_for hp hc (pi_list (pe_c ha)) hgt hb hs2) fun D σ H q => by
    unfold mForL at q
    refine ⟨_, q, fun x H1 r => ?_⟩
    obtain ⟨a, xs, Pv, rfl, hx, h0, hl, hs, hd⟩ := r
    exact ⟨a, rfl, ⟨xs, hx⟩, for_list (xs := xs) Pv h0 hl (fun i y σ' H' hi p => hs i y σ' H' hi p) hd⟩
/-- for .. in xs, the target of any form -/
@[irreducible] def mForG (K : PySem.W.Frag) (tl : TE) (g : TG) (tb : TS) : TS := fun D σ H => tl σ H fun x H1 => ∃ (a : Addr) (xs : List V) (Pv : Nat → L2.St → Hp → Prop), x = .ref a ∧ SqL K H1 a xs ∧ Pv 0 σ H1 ∧ (∀ i σ' H', i ≤ xs.length → Pv i σ' H' → SqL K H' a xs) ∧
  (∀ i y σ' H', xs[i]? = some y → Pv i σ' H' → g y σ' H' fun σ2 H2 => tb { D with nx := Pv (i + 1), ct := Pv (i + 1), bk := D.nx } σ2 H2) ∧ ∀ σ' H', Pv xs.length σ' H' → D.nx σ' H'
theorem rd_forG {K : PySem.W.Frag} {tl : TE} {g : TG} {tb : TS} {D : Ends} {σ : L2.St} {H : Hp} (h : tl σ H fun x H1 => ∃ (a : Addr) (xs : List V) (Pv : Nat → L2.St → Hp → Prop), x = .ref a ∧ SqL K H1 a xs ∧ Pv 0 σ H1 ∧ (∀ i σ' H', i ≤ xs.length → Pv i σ' H' → SqL K H' a xs) ∧
  (∀ i y σ' H', xs[i]? = some y → Pv i σ' H' → g y σ' H' fun σ2 H2 => tb { D with nx := Pv (i + 1), ct := Pv (i + 1), bk := D.nx } σ2 H2) ∧ ∀ σ' H', Pv xs.length σ' H' → D.nx σ' H') : mForG K tl g tb D σ H := by
  unfold mForG
  exact h
theorem ps_forG {tg it : Expr} {body : List Stmt} {g : TG} {tb : TS} {tl : TE} (hp : PassesOwn (model X.prog X.w) X.A X.env X.xe) (hc : X.calm = true) (ha : PE X it tl) (hgt : PG X tg g) (hb : PSs X body tb)
    (hs2 : ∀ y, foldedSetIterable it X.env y = pure y := by intro _; rfl) : PS X (.For tg it body [] pos) (mForG X.K tl g tb) :=
  ps_weak (ps_for hp hc (pi_list (pe_c ha)) hgt hb hs2) fun D σ H q => by
    unfold mForG at q
    refine ⟨_, q, fun x H1 r => ?_⟩
    obtain ⟨a, xs, Pv, rfl, hx, h0, hl, hs, hd⟩ := r
    exact ⟨a, rfl, ⟨xs, hx⟩, for_list (xs := xs) Pv h0 hl (fun i y σ' H' hi p => hs i y σ' H' hi p) hd⟩
/-- for x, y in zip(xs, ys), lists of one length -/
@[irreducible] def mForZ (K : PySem.W.Frag) (ta : TA) (i1 i2 : Nat) (tb : TS) : TS := fun D σ H => ta σ H fun ws H1 => ∃ (a b : Addr) (xs ys : List V) (Pv : Nat → L2.St → Hp → Prop), ws = [.ref a, .ref b] ∧ SqL K H1 a xs ∧ SqL K H1 b ys ∧ xs.length = ys.length ∧ Pv 0 σ H1 ∧ (∀ i σ' H', Pv i σ' H' → SqL K H' a xs ∧ SqL K H' b ys) ∧
  (∀ i x y σ' H' H'', xs[i]? = some x → ys[i]? = some y → Pv i σ' H' → Same H' H'' → tb { D with nx := Pv (i + 1), ct := Pv (i + 1), bk := D.nx } ((σ'.set i1 (some x)).set i2 (some y)) H'') ∧ ∀ σ' H', Pv xs.length σ' H' → D.nx σ' H'
theorem rd_forZ {K : PySem.W.Frag} {ta : TA} {i1 i2 : Nat} {tb : TS} {D : Ends} {σ : L2.St} {H : Hp} (h : ta σ H fun ws H1 => ∃ (a b : Addr) (xs ys : List V) (Pv : Nat → L2.St → Hp → Prop), ws = [.ref a, .ref b] ∧ SqL K H1 a xs ∧ SqL K H1 b ys ∧ xs.length = ys.length ∧ Pv 0 σ H1 ∧ (∀ i σ' H', Pv i σ' H' → SqL K H' a xs ∧ SqL K H' b ys) ∧
  (∀ i x y σ' H' H'', xs[i]? = some x → ys[i]? = some y → Pv i σ' H' → Same H' H'' → tb { D with nx := Pv (i + 1), ct := Pv (i + 1), bk := D.nx } ((σ'.set i1 (some x)).set i2 (some y)) H'') ∧ ∀ σ' H', Pv xs.length σ' H' → D.nx σ' H') : mForZ K ta i1 i2 tb D σ H := by
  unfold mForZ
  exact h
theorem ps_forZ {e e2 : Expr} {kk : Nat} {p p2 tpos : Pos} {i1 i2 : Nat} {body : List Stmt} {tb : TS} {t1 t2 : Expr} (hp : PassesOwn (model X.prog X.w) X.A X.env X.xe) (hc : X.calm = true) (hg : Gl X "zip") (hm : X.mg "zip" = none) (ha : PA X [e, e2] ta)
    (hgt : PG X (.Tuple [t1, t2] kk tpos) (gTup X.K 2 (gCons (gName i1) (gCons (gName i2) gNil)))) (hb : PSs X body tb)
    (hs : starEach [e, e2] X.env = (false, eval e X.env) :: starEach [e2] X.env := by rfl) (hpl : (backTo p2 (starEach [e2] X.env)).any (·.1) = false := by rfl) (hs2 : ∀ y, foldedSetIterable (.Call (.Name "zip" p) [e, e2] [] p2) X.env y = pure y := by intro _; rfl) :
    PS X (.For (.Tuple [t1, t2] kk tpos) (.Call (.Name "zip" p) [e, e2] [] p2) body [] pos) (mForZ X.K ta i1 i2 tb) :=
  ps_weak (ps_for hp hc (pi_zip hg hm (pa_c ha) hs hpl) hgt hb hs2) fun D σ H q => by
    unfold mForZ at q
    refine ⟨_, q, fun ws H1 r => ?_⟩
    obtain ⟨a, b, xs, ys, Pv, rfl, hx, hy, hl, h0, hq, hs, hd⟩ := r
    refine ⟨a, b, xs, ys, rfl, hx, hy, RZ.for_zipL hl Pv h0 hq (fun i x y T σ' H' h1 h2 p hT => ?_) hd⟩
    exact ⟨T, [x, y], rfl, st_of upd_same, rfl, x, [y], rfl, y, [], rfl, rfl, hs i x y σ' H' _ h1 h2 p (same_upd hT)⟩
end
theorem ite_ei {x y : Int} {A B : Prop} (hc : x = y) (h : A) : if decide (V.int x = V.int y) = true then A else B := ite_t (congrArg V.int hc) h
theorem ite_eif {x y : Int} {A B : Prop} (hc : x ≠ y) (h : B) : if decide (V.int x = V.int y) = true then A else B := ite_f (fun e => hc (V.int.inj e)) h
theorem ite_ni {x y : Int} {A B : Prop} (hc : x = y) (h : B) : if (!decide (V.int x = V.int y)) = true then A else B := ite_nf (congrArg V.int hc) h
theorem ite_nit {x y : Int} {A B : Prop} (hc : x ≠ y) (h : A) : if (!decide (V.int x = V.int y)) = true then A else B := ite_nt (fun e => hc (V.int.inj e)) h
theorem ite_eby {x y : Int} {A B : Prop} (h1 : x = y → A) (h2 : x ≠ y → B) : if decide (V.int x = V.int y) = true then A else B := ite_by (fun e => h1 (V.int.inj e)) (fun n => h2 fun e => n (congrArg V.int e))
theorem ite_enby {x y : Int} {A B : Prop} (h1 : x ≠ y → A) (h2 : x = y → B) : if (!decide (V.int x = V.int y)) = true then A else B := ite_nby (fun n => h1 fun e => n (congrArg V.int e)) (fun e => h2 (V.int.inj e))

/-! ### branches that stop the walk -/
@[irreducible] def Br (b : Bool) (A B : Prop) : Prop := if b = true then A else B
section
variable {b : Bool} {A B : Prop}
theorem Br.un (h : Br b A B) : if b = true then A else B := by
  unfold Br at h
  exact h
theorem br_of (h : if b = true then A else B) : Br b A B := by
  unfold Br
  exact h
theorem br_T (h : A) : Br true A B := br_of (iteT h)
theorem br_F (h : B) : Br false A B := br_of (iteF h)
theorem br_nT (h : A) : Br (!false) A B := br_of (iteT h)
theorem br_nF (h : B) : Br (!true) A B := br_of (iteF h)
theorem br_t {c : Prop} [Decidable c] (hc : c) (h : A) : Br (decide c) A B := br_of (ite_t hc h)
theorem br_f {c : Prop} [Decidable c] (hc : ¬ c) (h : B) : Br (decide c) A B := br_of (ite_f hc h)
theorem br_nt {c : Prop} [Decidable c] (hc : ¬ c) (h : A) : Br (!decide c) A B := br_of (ite_nt hc h)
theorem br_nf {c : Prop} [Decidable c] (hc : c) (h : B) : Br (!decide c) A B := br_of (ite_nf hc h)
theorem br_by {c : Prop} [Decidable c] (h1 : c → A) (h2 : ¬ c → B) : Br (decide c) A B := br_of (ite_by h1 h2)
theorem br_nby {c : Prop} [Decidable c] (h1 : ¬ c → A) (h2 : c → B) : Br (!decide c) A B := br_of (ite_nby h1 h2)
theorem br_ei {x y : Int} (hc : x = y) (h : A) : Br (decide (V.int x = V.int y)) A B := br_of (ite_ei hc h)
theorem br_eif {x y : Int} (hc : x ≠ y) (h : B) : Br (decide (V.int x = V.int y)) A B := br_of (ite_eif hc h)
theorem br_ni {x y : Int} (hc : x = y) (h : B) : Br (!decide (V.int x = V.int y)) A B := br_of (ite_ni hc h)
theorem br_nit {x y : Int} (hc : x ≠ y) (h : A) : Br (!decide (V.int x = V.int y)) A B := br_of (ite_nit hc h)
theorem br_eby {x y : Int} (h1 : x = y → A) (h2 : x ≠ y → B) : Br (decide (V.int x = V.int y)) A B := br_of (ite_eby h1 h2)
theorem br_enby {x y : Int} (h1 : x ≠ y → A) (h2 : x = y → B) : Br (!decide (V.int x = V.int y)) A B := br_of (ite_enby h1 h2)
theorem br_b (h1 : b = true → A) (h2 : b = false → B) : Br b A B := by
  cases b with
  | true => exact br_T (h1 rfl)
  | false => exact br_F (h2 rfl)
end
def mIfS (c : TT) (t u : TS) : TS := fun D σ H => c σ H fun b H1 => Br b (t D σ H1) (u D σ H1)
def mIf (c : TT) (ta tb : TE) : TE := fun σ H Q => c σ H fun b H1 => Br b (ta σ H1 Q) (tb σ H1 Q)
def mAnd (t u : TT) : TT := fun σ H Q => t σ H fun c H1 => Br c (u σ H1 Q) (Q false H1)
def mOr (t u : TT) : TT := fun σ H Q => t σ H fun c H1 => Br c (Q true H1) (u σ H1 Q)
def mAndV (ta tb : TE) : TE := fun σ H Q => ta σ H fun x H1 => ∃ c, x = .bl c ∧ Br c (tb σ H1 Q) (Q (.bl false) H1)
def mOrV (ta tb : TE) : TE := fun σ H Q => ta σ H fun x H1 => ∃ c, x = .bl c ∧ Br c (Q (.bl true) H1) (tb σ H1 Q)
def mChain (r r' : R2) (ta tb tc : TE) : TE := fun σ H Q => ta σ H fun x H1 => tb σ H1 fun y H2 => r x y H2 fun z H3 => ∃ k, z = .bl k ∧ Br k (tc σ H3 fun w' H4 => r' y w' H4 Q) (Q (.bl false) H3)
def mNot (t : TT) : TT := fun σ H Q => t σ H fun c H1 => Q (!c) H1
def cR2 (r : R2) : R2 := fun x y H Q => ∃ R : VK, r x y H R ∧ ∀ v H', R v H' → Q v H'
section
variable {X : Cx} {e a b c : Expr} {ta tb tc : TE} {tt tA tB' : TT} {pos : Pos} {t u : TS} {rest : List Expr}
theorem pw_weak {tt' : TT} (h : PW X e tt) (w : ∀ σ H Q, tt' σ H Q → tt σ H Q) : PW X e tt' := ⟨fun wh pins s σ H Q I q => h.run wh pins s σ H Q I (w σ H Q q)⟩
theorem pt_weak {tt' : TT} (h : PT X e tt) (w : ∀ σ H Q, tt' σ H Q → tt σ H Q) : PT X e tt' := ⟨fun pins s σ H Q I q => h.run pins s σ H Q I (w σ H Q q)⟩
theorem opr_c {f : Value → Value → Sem Value} {r : R2} (h : OpR X f r) : OpR X f (cR2 r) := fun pins s σ H x y v u Q I rx ry ⟨R, h1, h2⟩ => thn (h pins s σ H x y v u R I rx ry h1) fun w s1 ⟨z, H1, I1, rz, q⟩ => ⟨z, H1, I1, rz, h2 _ _ q⟩
theorem ps_ifM {bs us : List Stmt} (hc : PT X c tt) (ha : PSs X bs t) (hb : PSs X us u) : PS X (.If c bs us pos) (mIfS tt t u) := ps_weak (ps_if (pt_c hc) ha hb) fun D σ H q => ⟨_, q, fun b H1 r => r.un⟩
theorem pe_ifM (hc : PT X c tt) (ha : PE X a ta) (hb : PE X b tb) : PE X (.IfExp c a b pos) (mIf tt ta tb) := pe_weak (pe_ifExp (pt_c hc) ha hb) fun σ H Q q => ⟨_, q, fun b H1 r => r.un⟩
theorem pw_andM (ha : PT X a tA) (hb : PW X (.BoolOp .And (b :: rest) pos) tB') : PW X (.BoolOp .And (a :: b :: rest) pos) (mAnd tA tB') := pw_weak (pw_and (pt_c ha) hb) fun σ H Q q => ⟨_, q, fun b H1 r => r.un⟩
theorem pw_orM (ha : PT X a tA) (hb : PW X (.BoolOp .Or (b :: rest) pos) tB') : PW X (.BoolOp .Or (a :: b :: rest) pos) (mOr tA tB') := pw_weak (pw_or (pt_c ha) hb) fun σ H Q q => ⟨_, q, fun b H1 r => r.un⟩
theorem pe_andM (ha : PE X a ta) (hb : PE X (.BoolOp .And (b :: rest) pos) tb) : PE X (.BoolOp .And (a :: b :: rest) pos) (mAndV ta tb) := pe_weak (pe_and (pe_c ha) hb) fun σ H Q q => ⟨_, q, fun v H1 ⟨c, e, r⟩ => ⟨c, e, r.un⟩⟩
theorem pe_orM (ha : PE X a ta) (hb : PE X (.BoolOp .Or (b :: rest) pos) tb) : PE X (.BoolOp .Or (a :: b :: rest) pos) (mOrV ta tb) := pe_weak (pe_or (pe_c ha) hb) fun σ H Q q => ⟨_, q, fun v H1 ⟨c, e, r⟩ => ⟨c, e, r.un⟩⟩
theorem pe_chainM {op op' : CmpOp} {r r' : R2} (ho : OpR X (compareOp op) r) (ho' : OpR X (compareOp op') r') (ha : PE X a ta) (hb : PE X b tb) (hc : PE X c tc) (hm : lastMarks [op, op'] [b, c] = false := by with_unfolding_all rfl) : PE X (.Compare a [op, op'] [b, c] pos) (mChain r r' ta tb tc) :=
  pe_weak (pe_chain (opr_c ho) ho' (pe_c ha) (pe_c hb) hc hm) fun σ H Q q => ⟨_, q, fun x H1 q1 => ⟨_, q1, fun y H2 q2 => ⟨_, q2, fun z H3 ⟨k, e, r⟩ => ⟨k, e, r.un⟩⟩⟩⟩
theorem pt_chainM {op op' : CmpOp} {r r' : R2} (ho : OpR X (compareOp op) r) (ho' : OpR X (compareOp op') r') (ha : PE X a ta) (hb : PE X b tb) (hc : PE X c tc) (hm : lastMarks [op, op'] [b, c] = false := by with_unfolding_all rfl) : PT X (.Compare a [op, op'] [b, c] pos) (tTest (mChain r r' ta tb tc)) :=
  pt_weak (pt_chain (opr_c ho) ho' (pe_c ha) (pe_c hb) hc hm) fun σ H Q q => ⟨_, q, fun x H1 q1 => ⟨_, q1, fun y H2 q2 => ⟨_, q2, fun z H3 ⟨k, e, r⟩ => ⟨k, e, r.un⟩⟩⟩⟩
end
/-! ### the operators, told without a redex -/
def mAdd : R2 := fun x y H Q => ∃ i j, x = .int i ∧ y = .int j ∧ Q (.int (i + j)) H
def mSub : R2 := fun x y H Q => ∃ i j, x = .int i ∧ y = .int j ∧ Q (.int (i - j)) H
def mMul : R2 := fun x y H Q => ∃ i j, x = .int i ∧ y = .int j ∧ CMul i j ∧ Q (.int (i * j)) H
def mMulW : R2 := fun x y H Q => ∃ i j, x = .int i ∧ y = .int j ∧ CMulW i j ∧ Q (.int (i * j)) H
def mDiv : R2 := fun x y H Q => ∃ i j, x = .int i ∧ y = .int j ∧ CDiv i j ∧ Q (.int (i / j)) H
def mDivW : R2 := fun x y H Q => ∃ i j, x = .int i ∧ y = .int j ∧ CDivW i j ∧ Q (.int (i / j)) H
def mMod : R2 := fun x y H Q => ∃ i j, x = .int i ∧ y = .int j ∧ 0 < j ∧ Q (.int (i % j)) H
def mPow : R2 := fun x y H Q => ∃ i j, x = .int i ∧ y = .int j ∧ CPow i j ∧ Q (.int (i ^ j.toNat)) H
def mShl1 : R2 := fun x y H Q => ∃ j, x = .int 1 ∧ y = .int j ∧ (0 ≤ j ∧ j ≤ 1000000) ∧ Q (.int (2 ^ j.toNat)) H
def mShl : R2 := fun x y H Q => ∃ i j, x = .int i ∧ y = .int j ∧ CShl i j ∧ Q (.int (i * 2 ^ j.toNat)) H
def mShr : R2 := fun x y H Q => ∃ i j, x = .int i ∧ y = .int j ∧ 0 ≤ j ∧ Q (.int (i / 2 ^ j.toNat)) H
def mAndI : R2 := fun x y H Q => ∃ i j, x = .int i ∧ y = .int j ∧ Q (.int (Builtin.bitAnd i j)) H
def mXorI : R2 := fun x y H Q => ∃ i j, x = .int i ∧ y = .int j ∧ Q (.int (Builtin.bitXor i j)) H
def mLt : R2 := fun x y H Q => ∃ i j, x = .int i ∧ y = .int j ∧ Q (.bl (decide (i < j))) H
def mLe : R2 := fun x y H Q => ∃ i j, x = .int i ∧ y = .int j ∧ Q (.bl (decide (i ≤ j))) H
def mGt : R2 := fun x y H Q => ∃ i j, x = .int i ∧ y = .int j ∧ Q (.bl (decide (j < i))) H
def mGe : R2 := fun x y H Q => ∃ i j, x = .int i ∧ y = .int j ∧ Q (.bl (decide (j ≤ i))) H
section
variable {X : Cx}
theorem op_addM : OpR X (binaryOp .Add) mAdd := op_add
theorem op_subM : OpR X (binaryOp .Sub) mSub := op_sub
theorem op_mulM : OpR X (binaryOp .Mult) mMul := op_mul
theorem op_mulWM : OpR X (binaryOp .Mult) mMulW := op_mulW
theorem op_fdivM : OpR X (binaryOp .FloorDiv) mDiv := op_fdiv
theorem op_fdivWM : OpR X (binaryOp .FloorDiv) mDivW := op_fdivW
theorem op_modM : OpR X (binaryOp .Mod) mMod := op_mod
theorem op_powM : OpR X (binaryOp .Pow) mPow := op_pow
theorem op_shl1M : OpR X (binaryOp .LShift) mShl1 := fun pins s σ H x y v u Q I rx ry ⟨j, e1, e2, hj, q⟩ => op_shl pins s σ H x y v u Q I rx ry ⟨1, j, e1, e2, ⟨hj.1, hj.2, by decide⟩, by
  show Q (.int (1 * 2 ^ j.toNat)) H
  rw [Int.one_mul]
  exact q⟩
theorem op_shlM : OpR X (binaryOp .LShift) mShl := op_shlW
theorem op_shrM : OpR X (binaryOp .RShift) mShr := op_shr
theorem op_bandM : OpR X (binaryOp .BitAnd) mAndI := op_and
theorem op_bxorM : OpR X (binaryOp .BitXor) mXorI := op_xor
theorem op_ltM : OpR X (compareOp .Lt) mLt := op_lt
theorem op_leM : OpR X (compareOp .LtE) mLe := op_le
theorem op_gtM : OpR X (compareOp .Gt) mGt := op_gt
theorem op_geM : OpR X (compareOp .GtE) mGe := op_ge
end

theorem two_pos (k : Nat) : (0 : Int) < 2 ^ k := Int.pow_pos (by decide)

@[irreducible] def mIsi (K : PySem.W.Frag) : List V → Hp → VK → Prop := rIsi K
theorem call_isiM {X : Cx} : CallR X (.builtin "isinstance") (mIsi X.K) := fun pins s σ H xs us Q I r q => call_isi pins s σ H xs us Q I r (by
  unfold mIsi at q
  exact q)
section
variable {K : PySem.W.Frag} {H : Hp} {Q : VK}
theorem rd_isiIB {i : Int} (h : Q (.bl false) H) : mIsi K [.int i, .ty "bool"] H Q := by
  unfold mIsi
  exact ⟨_, _, _, _, false, rfl, ClsV.ty _, TyX.base (TyOf.int _), by rfl, h⟩
theorem rd_isiBB {b : Bool} (h : Q (.bl true) H) : mIsi K [.bl b, .ty "bool"] H Q := by
  unfold mIsi
  exact ⟨_, _, _, _, true, rfl, ClsV.ty _, TyX.base (TyOf.bl _), by rfl, h⟩
theorem rd_isiTT {a : Addr} {xs : List V} (e : H a = some (.tup xs)) (h : Q (.bl true) H) : mIsi K [.ref a, .ty "tuple"] H Q := by
  unfold mIsi
  exact ⟨_, _, _, _, true, rfl, ClsV.ty _, TyX.base (TyOf.tup e), by rfl, h⟩
theorem rd_isiLL {a : Addr} {xs : List V} (e : H a = some (.lst xs)) (h : Q (.bl true) H) : mIsi K [.ref a, .ty "list"] H Q := by
  unfold mIsi
  exact ⟨_, _, _, _, true, rfl, ClsV.ty _, TyX.base (TyOf.lst e), by rfl, h⟩
end

/-! ### equal data -/
def Sh (n : Nat) (d : PyData) : Prop := d.canLay0 = true ∧ d.depth ≤ n
def ShA (n : Nat) (ds : List PyData) : Prop := PyData.canLayAll0 ds = true ∧ PyData.depthAll ds ≤ n
theorem sh_int {i : Int} {n : Nat} : Sh n (.int i) := ⟨rfl, Nat.zero_le _⟩
theorem sh_bl {i : Bool} {n : Nat} : Sh n (.bool i) := ⟨rfl, Nat.zero_le _⟩
theorem sh_non {n : Nat} : Sh n .none := ⟨rfl, Nat.zero_le _⟩
theorem sh_str {x : Str} {n : Nat} (h : PyData.canLay0 (.str x) = true) : Sh n (.str x) := ⟨h, Nat.zero_le _⟩
theorem sh_nil {n : Nat} : ShA n [] := ⟨rfl, Nat.zero_le _⟩
theorem sh_cons {n : Nat} {d : PyData} {ds : List PyData} (h : Sh n d) (k : ShA n ds) : ShA n (d :: ds) := by
  refine ⟨?_, ?_⟩
  · show (d.canLay0 && PyData.canLayAll0 ds) = true
    rw [h.1, k.1]
    rfl
  · show max d.depth (PyData.depthAll ds) ≤ n
    have := h.2
    have := k.2
    omega
theorem sh_lst {n : Nat} {ds : List PyData} (h : ShA n ds) : Sh (n + 1) (.list ds) := ⟨h.1, Nat.succ_le_succ h.2⟩
theorem sh_tup {n : Nat} {ds : List PyData} (h : ShA n ds) : Sh (n + 1) (.tuple ds) := ⟨h.1, Nat.succ_le_succ h.2⟩
theorem sh_map {α : Type} {n : Nat} {f : α → PyData} (h : ∀ x, Sh n (f x)) : ∀ l : List α, ShA n (l.map f)
  | [] => sh_nil
  | x :: r => sh_cons (h x) (sh_map h r)
theorem sh_app {n : Nat} : ∀ {ds es : List PyData}, ShA n ds → ShA n es → ShA n (ds ++ es)
  | [], _, _, k => k
  | d :: r, es, h, k => by
    have h1 : (d.canLay0 && PyData.canLayAll0 r) = true := h.1
    have h2 : max d.depth (PyData.depthAll r) ≤ n := h.2
    rw [Bool.and_eq_true] at h1
    exact sh_cons ⟨h1.1, by omega⟩ (sh_app ⟨h1.2, by omega⟩ k)
theorem Sh.shaped {n : Nat} {d : PyData} (h : Sh n d) (hn : n ≤ 64 := by decide) : SeqAt.shaped d = true := by
  unfold SeqAt.shaped
  rw [h.1, decide_eq_true (Nat.le_trans h.2 hn)]
  rfl
theorem sh_ints {n : Nat} (l : List Int) : ShA n (l.map PyData.int) := sh_map (fun _ => sh_int) l
section
variable {K : PySem.W.Frag} {H : Hp} {Q : VK} {x y : V}
theorem dpa_ints : ∀ l : List Int, DpAll K H (l.map V.int) (l.map PyData.int)
  | [] => .nil
  | i :: r => .cons (.int i) (dpa_ints r)
theorem dp_ints {a : Addr} {l : List Int} (h : SqL K H a (l.map V.int)) : Dp K H (.ref a) (.list (l.map PyData.int)) := .lst h (dpa_ints l)
@[irreducible] def mEqD (K : PySem.W.Frag) : R2 := rEqD K
@[irreducible] def mNeD (K : PySem.W.Frag) : R2 := rNeD K
theorem rd_eqS {n : Nat} (d : PyData) (h1 : Dp K H x d) (h2 : Dp K H y d) (hs : Sh n d) (h : Q (.bl true) H) (hn : n ≤ 64 := by decide) : mEqD K x y H Q := by
  unfold mEqD
  exact ⟨d, d, h1, h2, hs.shaped hn, hs.shaped hn, by rw [PySem.SeqAt.eqv_refl d hs.1]; exact h⟩
theorem rd_neS {n : Nat} (d : PyData) (h1 : Dp K H x d) (h2 : Dp K H y d) (hs : Sh n d) (h : Q (.bl false) H) (hn : n ≤ 64 := by decide) : mNeD K x y H Q := by
  unfold mNeD
  exact ⟨d, d, h1, h2, hs.shaped hn, hs.shaped hn, by rw [PySem.SeqAt.eqv_refl d hs.1]; exact h⟩
/-- of any two: the answer is that of the data -/
theorem rd_eqA {n m : Nat} (d e : PyData) (h1 : Dp K H x d) (h2 : Dp K H y e) (hs : Sh n d) (hs2 : Sh m e) (h : Q (.bl (PyData.eqv d e)) H) (hn : n ≤ 64 := by decide) (hm : m ≤ 64 := by decide) : mEqD K x y H Q := by
  unfold mEqD
  exact ⟨d, e, h1, h2, hs.shaped hn, hs2.shaped hm, h⟩
theorem rd_neA {n m : Nat} (d e : PyData) (h1 : Dp K H x d) (h2 : Dp K H y e) (hs : Sh n d) (hs2 : Sh m e) (h : Q (.bl (!PyData.eqv d e)) H) (hn : n ≤ 64 := by decide) (hm : m ≤ 64 := by decide) : mNeD K x y H Q := by
  unfold mNeD
  exact ⟨d, e, h1, h2, hs.shaped hn, hs2.shaped hm, h⟩
end
section
variable {X : Cx}
theorem op_eqDM (hu : X.A.units + 64 < cLine) : OpR X (compareOp .Eq) (mEqD X.K) := fun pins s σ H x y v u Q I rx ry q => op_eqD hu pins s σ H x y v u Q I rx ry (by
  unfold mEqD at q
  exact q)
theorem op_neDM (hu : X.A.units + 64 < cLine) : OpR X (compareOp .NotEq) (mNeD X.K) := fun pins s σ H x y v u Q I rx ry q => op_neD hu pins s σ H x y v u Q I rx ry (by
  unfold mNeD at q
  exact q)
end
/-! ### one-step readings that know their heap -/
@[irreducible] def mIxL (K : PySem.W.Frag) : R2 := rIxL K
theorem ix_listM {X : Cx} : IxR X (mIxL X.K) := fun value slice pins s σ H x y v u Q I rx ry q e => ix_list value slice pins s σ H x y v u Q I rx ry (by
  unfold mIxL at q
  exact q) e
@[irreducible] def mIxT (K : PySem.W.Frag) : R2 := rIxT K
theorem ix_tupM {X : Cx} : IxR X (mIxT X.K) := fun value slice pins s σ H x y v u Q I rx ry q e => ix_tup value slice pins s σ H x y v u Q I rx ry (by
  unfold mIxT at q
  exact q) e
section
variable {K : PySem.W.Frag} {H : Hp} {Q : VK} {a : Addr} {xs : List V} {k : Int} {v : V}
theorem rd_ixL (h : SqL K H a xs) (ha : atI xs k = some v) (q : Q v H) : mIxL K (.ref a) (.int k) H Q := by
  unfold mIxL
  exact ⟨a, xs, k, v, rfl, rfl, h, ha, q⟩
theorem rd_ixT (h : SqT K H a xs) (ha : atI xs k = some v) (q : Q v H) : mIxT K (.ref a) (.int k) H Q := by
  unfold mIxT
  exact ⟨a, xs, k, v, rfl, rfl, h, ha, q⟩
theorem rd_ixI {ns : List Int} (h : SqL K H a (ns.map V.int)) (h0 : 0 ≤ k) (h1 : k < (ns.length : Int)) (q : Q (.int (ns.getD k.toNat 0)) H) : mIxL K (.ref a) (.int k) H Q := rd_ixL h (at_int h0 h1) q
end
@[irreducible] def mLen (K : PySem.W.Frag) : List V → Hp → VK → Prop := fun xs H Q => ∃ p ys, xs = [.ref p] ∧ (SqL K H p ys ∨ SqT K H p ys) ∧ Q (.int ys.length) H
theorem call_lenM {X : Cx} : CallR X (.builtin "len") (mLen X.K) := fun pins s σ H xs us Q I r q => call_len_seq pins s σ H xs us Q I r (by
  unfold mLen at q
  exact q)
theorem rd_len {K : PySem.W.Frag} {H : Hp} {Q : VK} {a : Addr} {xs : List V} (h : SqL K H a xs) (q : Q (.int xs.length) H) : mLen K [.ref a] H Q := by
  unfold mLen
  exact ⟨a, xs, rfl, .inl h, q⟩
theorem rd_lenI {K : PySem.W.Frag} {H : Hp} {Q : VK} {a : Addr} {ns : List Int} (h : SqL K H a (ns.map V.int)) (q : Q (.int ns.length) H) : mLen K [.ref a] H Q := rd_len h (by rw [List.length_map]; exact q)
theorem rd_lenT {K : PySem.W.Frag} {H : Hp} {Q : VK} {a : Addr} {xs : List V} (h : SqT K H a xs) (q : Q (.int xs.length) H) : mLen K [.ref a] H Q := by
  unfold mLen
  exact ⟨a, xs, rfl, .inr h, q⟩
/-- xs.append(e) -/
@[irreducible] def mApp (x y : V) (H : Hp) (Q : VK) : Prop := ∃ l xs, x = .ref l ∧ H l = some (.lst xs) ∧ xs.length < 1000000 ∧ Q .non (upd H l (.lst (xs ++ [y])))
def mAppE (to te : TE) : TE := fun σ H Q => to σ H fun x H1 => ∃ l xs, x = .ref l ∧ H1 l = some (.lst xs) ∧ te σ H1 fun y H2 => mApp x y H2 Q
theorem rd_app {l : Addr} {xs : List V} {y : V} {H : Hp} {Q : VK} (h : H l = some (.lst xs)) (hz : xs.length < 1000000) (q : Q .non (upd H l (.lst (xs ++ [y])))) : mApp (.ref l) y H Q := by
  unfold mApp
  exact ⟨l, xs, rfl, h, hz, q⟩
theorem pe_app {X : Cx} {o e : Expr} {to te : TE} {apos cpos : Pos} (ho : PE X o to) (he : PE X e te) (hbase : attributeBase o "append" X.env (eval o X.env) = eval o X.env := by rfl)
    (hfew : ((backTo cpos (starEach [e] X.env)).all (fun x => !x.1) && (backToKw cpos (keywordEach [] X.env)).all (fun x => x.1.isSome)
      && decide ([e].length + ([] : List Keyword).length + (if ([] : List Keyword).isEmpty then 0 else 1) < 30)) = true := by rfl)
    (hline : (apos.endLine == cpos.line) = true := by rfl) (hs : starEach [e] X.env = (false, eval e X.env) :: starEach [] X.env := by rfl) (hplain : (backTo cpos (starEach [] X.env)).any (·.1) = false := by rfl) :
    PE X (.Call (.Attribute o "append" apos) [e] [] cpos) (mAppE to te) :=
  pe_weak (pe_bm PySem.F.plainAttrs_list PySem.F.slot_list_append PySem.F.type_list_append mt_append (pe_c ho) (pa_cons (pe_c he) pa_nil hs) hbase hfew hline hs hplain) fun σ H Q q => by
    refine ⟨_, q, fun x H1 r => ?_⟩
    obtain ⟨l, xs, rfl, h, r⟩ := r
    refine ⟨Or.inl ⟨rfl, _, SqL.of h⟩, _, r, fun y H2 r2 => ?_⟩
    unfold mApp at r2
    obtain ⟨l2, ys, e2, h2, hz, q2⟩ := r2
    exact ⟨l2, ys, y, e2, rfl, h2, szl hz, q2⟩
/-- o[i] = e, o a list -/
@[irreducible] def mSetL : V → V → V → Hp → (Hp → Prop) → Prop := rSetL
theorem set_listM {X : Cx} : PSet X mSetL := fun pins s σ H o i v uo ui uv Q I ro ri rv q => set_list pins s σ H o i v uo ui uv Q I ro ri rv (by
  unfold mSetL at q
  exact q)
theorem rd_setL {l : Addr} {xs : List V} {k : Int} {y : V} {H : Hp} {Q : Hp → Prop} (h : H l = some (.lst xs)) (h0 : 0 ≤ k) (h1 : k < (xs.length : Int)) (q : Q (upd H l (.lst (xs.set k.toNat y)))) : mSetL (.ref l) (.int k) y H Q := by
  unfold mSetL
  refine ⟨l, xs, k, k.toNat, rfl, rfl, h, ?_, q⟩
  unfold ixN
  first
    | (rw [if_pos h0, if_pos (by omega)]; done)
    | (rw [if_neg (by omega), if_pos (by omega)]; done)
    | simp [show ¬ k < 0 by omega, h0, h1]
/-- what a loop keeps of its own list: all else as it was -/
def But (p : Addr) (H H' : Hp) : Prop := ∀ b o, b ≠ p → H b = some o → H' b = some o

@[irreducible] def mSum (K : PySem.W.Frag) : List V → Hp → VK → Prop := rSum K
theorem call_sumM {X : Cx} (hc : X.calm = true) : CallR X (.builtin "sum") (mSum X.K) := fun pins s σ H xs us Q I r q => cr_sum hc pins s σ H xs us Q I r (by
  unfold mSum at q
  exact q)
theorem rd_sum {K : PySem.W.Frag} {H : Hp} {Q : VK} {a : Addr} {ns : List Int} (h : SqL K H a (ns.map V.int)) (q : Q (.int ns.sum) H) : mSum K [.ref a] H Q := by
  unfold mSum
  exact ⟨a, ns, rfl, h, q⟩

/-- isinstance(e, C), e the error that the suite holds, whatever its class -/
def mIsE (K : PySem.W.Frag) (cls : Value) (d : Option Addr) (a : Addr) : List V → Hp → VK → Prop := fun xs H Q => ∃ (D C : Addr) (b : Bool), xs = [.ref a, .ref C] ∧ cls = .ref D ∧ d = none ∧ ExcC K D ∧ PySem.W.kitOne K (.ref D) (.ref C) = some b ∧ Q (.bl b) H
theorem call_isEM {X : Cx} {a : Addr} {oe : Obj} {cls : Value} {d : Option Addr} {pn : List (Addr × Obj)} (hz : Zc cls d oe) (hf : ∃ vs, oe.data = .fields vs) : CallR (X.suite a ((a, oe) :: pn)) (.builtin "isinstance") (mIsE X.K cls d a) := by
  intro pins s σ H xs us Q I r h
  obtain ⟨D, C, b, rfl, rfl, rfl, hD, hk, q⟩ := h
  exact call_isE hD hz hf pins s σ H [.ref a, .ref C] us Q I r ⟨.ref C, .ref C, b, rfl, fun u hu => hu, hk, q⟩
theorem kit_same {K : PySem.W.Frag} {D : Addr} : PySem.W.kitOne K (.ref D) (.ref D) = some true := by
  unfold PySem.W.kitOne
  rw [if_pos (by simp)]
end My

namespace My
open PySem L2
/-! ### the text by places -/
def topS (i : Nat) : Stmt := PySem.Challenge.pw_bearerwise_k01_fields.main.body.getD i (.Pass ⟨0, 0, 0, 0⟩)
abbrev S_BearerError___init : Stmt := inClass (topS 1) 0
abbrev S_field_bytes : Stmt := topS 4
abbrev S_pack : Stmt := topS 5
abbrev S_unpack : Stmt := topS 6
abbrev S_u_law_two : Stmt := topS 8
abbrev S_u_law_tape : Stmt := topS 9
abbrev S_u_law_at : Stmt := topS 10
abbrev S_u_law_bits : Stmt := topS 11
abbrev S_u_law_bytes : Stmt := topS 12
abbrev S_u_law_packed : Stmt := topS 13
abbrev S_u_law_unpacked : Stmt := topS 14
abbrev S_u_law_spoiled : Stmt := topS 15
abbrev S_law : Stmt := topS 16
theorem sc_BearerError___init : FnScope ["self"] ["self"] (defScope S_BearerError___init) := ⟨rfl, rfl, rfl, by decide +kernel, rfl, by decide +kernel, by decide +kernel⟩
theorem sc_field_bytes : FnScope ["widths", "width"] ["widths"] (defScope S_field_bytes) := ⟨rfl, rfl, rfl, by decide +kernel, rfl, by decide +kernel, by decide +kernel⟩
theorem sc_pack : FnScope ["widths", "values", "size", "row", "width", "value", "at"] ["widths", "values"] (defScope S_pack) := ⟨rfl, rfl, rfl, by decide +kernel, rfl, by decide +kernel, by decide +kernel⟩
theorem sc_unpack : FnScope ["widths", "data", "size", "row", "one", "unread", "values", "width"] ["widths", "data"] (defScope S_unpack) := ⟨rfl, rfl, rfl, by decide +kernel, rfl, by decide +kernel, by decide +kernel⟩
theorem sc_u_law_two : FnScope ["many", "value", "k"] ["many"] (defScope S_u_law_two) := ⟨rfl, rfl, rfl, by decide +kernel, rfl, by decide +kernel, by decide +kernel⟩
theorem sc_u_law_tape : FnScope ["script", "tape", "k", "value", "step"] ["script"] (defScope S_u_law_tape) := ⟨rfl, rfl, rfl, by decide +kernel, rfl, by decide +kernel, by decide +kernel⟩
theorem sc_u_law_at : FnScope ["tape", "k"] ["tape", "k"] (defScope S_u_law_at) := ⟨rfl, rfl, rfl, by decide +kernel, rfl, by decide +kernel, by decide +kernel⟩
theorem sc_u_law_bits : FnScope ["width", "value", "bits", "k"] ["width", "value"] (defScope S_u_law_bits) := ⟨rfl, rfl, rfl, by decide +kernel, rfl, by decide +kernel, by decide +kernel⟩
theorem sc_u_law_bytes : FnScope ["widths", "values", "bits", "k", "data", "byte", "n", "bit"] ["widths", "values"] (defScope S_u_law_bytes) := ⟨rfl, rfl, rfl, by decide +kernel, rfl, by decide +kernel, by decide +kernel⟩
theorem sc_u_law_packed : FnScope ["widths", "values", "e"] ["widths", "values"] (defScope S_u_law_packed) := ⟨rfl, rfl, rfl, by decide +kernel, rfl, by decide +kernel, by decide +kernel⟩
theorem sc_u_law_unpacked : FnScope ["widths", "data", "e"] ["widths", "data"] (defScope S_u_law_unpacked) := ⟨rfl, rfl, rfl, by decide +kernel, rfl, by decide +kernel, by decide +kernel⟩
theorem sc_u_law_spoiled : FnScope ["widths", "values", "kind", "at"] ["widths", "values", "kind", "at"] (defScope S_u_law_spoiled) := ⟨rfl, rfl, rfl, by decide +kernel, rfl, by decide +kernel, by decide +kernel⟩
theorem sc_law : FnScope ["script", "tape", "widths", "values", "k", "number", "due", "passed", "told", "data", "kept", "at", "kind", "wrong", "other"] ["script"] (defScope S_law) := ⟨rfl, rfl, rfl, by decide +kernel, rfl, by decide +kernel, by decide +kernel⟩
/-! ### what the top has written -/
structure Tx (P : Program) (w : World) (K : PySem.W.Frag) (mg : Str → Option Value) (base : Heap) where
  n_len : mg "len" = none
  n_range : mg "range" = none
  n_abs : mg "abs" = none
  n_int : mg "int" = none
  n_sum : mg "sum" = none
  n_zip : mg "zip" = none
  n_isinstance : mg "isinstance" = none
  n_list : mg "list" = none
  C_BearerError : Addr
  g_BearerError : mg "BearerError" = some (.ref C_BearerError)
  C_NotValid : Addr
  g_NotValid : mg "NotValid" = some (.ref C_NotValid)
  a_BearerError___init : Addr
  d_BearerError___init : FuncData
  p_BearerError___init : DefAt0 K "__init__" "BearerError.__init__" S_BearerError___init ["self"] a_BearerError___init d_BearerError___init
  a_field_bytes : Addr
  d_field_bytes : FuncData
  p_field_bytes : DefAt K mg "field_bytes" "field_bytes" S_field_bytes ["widths"] a_field_bytes d_field_bytes
  a_pack : Addr
  d_pack : FuncData
  p_pack : DefAt K mg "pack" "pack" S_pack ["widths", "values"] a_pack d_pack
  a_unpack : Addr
  d_unpack : FuncData
  p_unpack : DefAt K mg "unpack" "unpack" S_unpack ["widths", "data"] a_unpack d_unpack
  a_u_law_two : Addr
  d_u_law_two : FuncData
  p_u_law_two : DefAt K mg "_law_two" "_law_two" S_u_law_two ["many"] a_u_law_two d_u_law_two
  a_u_law_tape : Addr
  d_u_law_tape : FuncData
  p_u_law_tape : DefAt K mg "_law_tape" "_law_tape" S_u_law_tape ["script"] a_u_law_tape d_u_law_tape
  a_u_law_at : Addr
  d_u_law_at : FuncData
  p_u_law_at : DefAt K mg "_law_at" "_law_at" S_u_law_at ["tape", "k"] a_u_law_at d_u_law_at
  a_u_law_bits : Addr
  d_u_law_bits : FuncData
  p_u_law_bits : DefAt K mg "_law_bits" "_law_bits" S_u_law_bits ["width", "value"] a_u_law_bits d_u_law_bits
  a_u_law_bytes : Addr
  d_u_law_bytes : FuncData
  p_u_law_bytes : DefAt K mg "_law_bytes" "_law_bytes" S_u_law_bytes ["widths", "values"] a_u_law_bytes d_u_law_bytes
  a_u_law_packed : Addr
  d_u_law_packed : FuncData
  p_u_law_packed : DefAt K mg "_law_packed" "_law_packed" S_u_law_packed ["widths", "values"] a_u_law_packed d_u_law_packed
  a_u_law_unpacked : Addr
  d_u_law_unpacked : FuncData
  p_u_law_unpacked : DefAt K mg "_law_unpacked" "_law_unpacked" S_u_law_unpacked ["widths", "data"] a_u_law_unpacked d_u_law_unpacked
  a_u_law_spoiled : Addr
  d_u_law_spoiled : FuncData
  p_u_law_spoiled : DefAt K mg "_law_spoiled" "_law_spoiled" S_u_law_spoiled ["widths", "values", "kind", "at"] a_u_law_spoiled d_u_law_spoiled
  a_law : Addr
  d_law : FuncData
  p_law : DefAt K mg "law" "law" S_law ["script"] a_law d_law
  o_BearerError : OexC K C_BearerError
  i_BearerError : PySem.W.findIn K (.ref C_BearerError) "__init__" = some (some (.ref a_BearerError___init))
  t_BearerError : PySem.W.typeIn K (.ref a_BearerError___init) = some (.type "function")
  e_BearerError : ExcC K C_BearerError
  s_BearerError_BearerError : PySem.W.subIn K (.ref C_BearerError) (.ref C_BearerError) = some true
  s_BearerError_NotValid : PySem.W.subIn K (.ref C_BearerError) (.ref C_NotValid) = some false
  y_BearerError : PySem.W.typeIn K (.ref C_BearerError) = some (.type "type")
  l_BearerError : PySem.W.isClsIn K C_BearerError = true
  o_NotValid : OexC K C_NotValid
  i_NotValid : PySem.W.findIn K (.ref C_NotValid) "__init__" = some (some (.ref a_BearerError___init))
  t_NotValid : PySem.W.typeIn K (.ref a_BearerError___init) = some (.type "function")
  e_NotValid : ExcC K C_NotValid
  s_NotValid_BearerError : PySem.W.subIn K (.ref C_NotValid) (.ref C_BearerError) = some true
  s_NotValid_NotValid : PySem.W.subIn K (.ref C_NotValid) (.ref C_NotValid) = some true
  y_NotValid : PySem.W.typeIn K (.ref C_NotValid) = some (.type "type")
  l_NotValid : PySem.W.isClsIn K C_NotValid = true
/-! ### the walk's own steps -/
local macro_rules | `(tactic| walk_at "side") => `(tactic| first
  | exact rfl
  | assumption
  | omega
  | decide
  | exact Nat.le_of_ble_eq_true rfl
  | exact ⟨by omega, by omega⟩
  | exact ⟨by omega, by omega, by omega⟩
  | exact Or.inl ⟨by omega, by omega⟩
  | exact Or.inr ⟨by omega, by omega⟩)
local macro_rules | `(tactic| walk_at "sm") => `(tactic| first
  | assumption
  | exact Same.refl _
  | (refine Same.trans ?_ (by assumption); walk_at "sm"))
local macro_rules | `(tactic| walk_at "hp") => `(tactic| first
  | assumption
  | (refine (?_ : Same _ _) _ _ (by assumption); walk_at "sm"))
local macro_rules | `(tactic| walk_at "sq") => `(tactic| first
  | assumption
  | (refine sq_of ?_; assumption)
  | (refine st_of ?_; assumption)
  | (refine Same.seq ?_ (by assumption); walk_at "sm")
  | (refine Same.sqt ?_ (by assumption); walk_at "sm")
  | (refine sq_of ?_; walk_at "hp")
  | (refine st_of ?_; walk_at "hp"))
local macro_rules | `(tactic| walk_at "rd") => `(tactic| first
  | refine ⟨_, rfl, ?_⟩
  | refine ⟨_, _, rfl, rfl, ?_⟩
  | refine Or.inl ⟨_, rfl, ?_⟩
  | refine And.intro (by walk_at "side") ?_
  | refine rd_tup ?_
  | refine rd_lst ?_
  | with_reducible refine br_F ?_
  | with_reducible refine br_T ?_
  | with_reducible refine br_nF ?_
  | with_reducible refine br_nT ?_
  | refine ⟨_, rfl, rfl, ?_⟩
  | refine rd_isiIB ?_
  | refine rd_sum (by walk_at "sq") ?_
  | refine rd_lenI (by walk_at "sq") ?_
  | refine rd_len (by walk_at "sq") ?_
  | refine ⟨_, _, rfl, (by walk_at "hp"), ?_⟩)

section
variable {P : Program} {w : World} {K : PySem.W.Frag} {mg : Str → Option Value} {base : Heap}
theorem ok_BearerError___init (T : Tx P w K mg base) : FnOk P w K mg base CX0 1 T.a_BearerError___init T.d_BearerError___init ["self"] spInit0 := by
  refine T.p_BearerError___init.F.ok sc_BearerError___init (fun vs H Q E h => ?_) (fun cdv A outer s H vs Q E hr h => ?_)
  · obtain ⟨a, rfl, _⟩ := h
    rfl
  · obtain ⟨a, rfl, q⟩ := h
    exact ⟨_, pss_one ps_pass, q⟩
theorem Tx.x_BearerError (T : Tx P w K mg base) : PlainExc P w K mg base "BearerError" T.C_BearerError T.a_BearerError___init T.d_BearerError___init := ⟨T.o_BearerError, T.i_BearerError, T.t_BearerError, ok_BearerError___init T, T.p_BearerError___init.b, T.g_BearerError⟩
theorem Tx.m_BearerError_BearerError (T : Tx P w K mg base) : PySem.W.exmOne K (.ref T.C_BearerError) (.ref T.C_BearerError) = some true := PySem.W.exm_ref T.o_BearerError.exC T.e_BearerError.hd T.y_BearerError T.s_BearerError_BearerError
theorem Tx.m_BearerError_NotValid (T : Tx P w K mg base) : PySem.W.exmOne K (.ref T.C_BearerError) (.ref T.C_NotValid) = some false := PySem.W.exm_ref T.o_NotValid.exC T.e_NotValid.hd T.y_NotValid T.s_BearerError_NotValid
theorem Tx.x_NotValid (T : Tx P w K mg base) : PlainExc P w K mg base "NotValid" T.C_NotValid T.a_BearerError___init T.d_BearerError___init := ⟨T.o_NotValid, T.i_NotValid, T.t_NotValid, ok_BearerError___init T, T.p_BearerError___init.b, T.g_NotValid⟩
theorem Tx.m_NotValid_BearerError (T : Tx P w K mg base) : PySem.W.exmOne K (.ref T.C_NotValid) (.ref T.C_BearerError) = some true := PySem.W.exm_ref T.o_BearerError.exC T.e_BearerError.hd T.y_BearerError T.s_NotValid_BearerError
theorem Tx.m_NotValid_NotValid (T : Tx P w K mg base) : PySem.W.exmOne K (.ref T.C_NotValid) (.ref T.C_NotValid) = some true := PySem.W.exm_ref T.o_NotValid.exC T.e_NotValid.hd T.y_NotValid T.s_NotValid_NotValid
end
/-! fields: the mathematics -/
def rowP (ps : List (Int × Int)) : Int := ps.foldl (fun r p => r * 2 ^ p.1.toNat + p.2) 0
def okP (p : Int × Int) : Bool := decide (1 ≤ p.1) && decide (0 ≤ p.2) && decide (p.2 < 2 ^ p.1.toNat)
def okF (ws vs : List Int) : Bool := decide (ws.length = vs.length) && (ws.zip vs).all okP
def wok (ws : List Int) : Bool := ws.all fun w => decide (1 ≤ w)
def sizeF (ws : List Int) : Int := (ws.sum + 7) / 8
def byteAt (R : Int) (size i : Nat) : Int := R / 2 ^ (8 * ((size : Int) - 1 - (i : Int))).toNat % 256
def bytesOf (R : Int) (size : Nat) : List Int := (List.range size).map (byteAt R size)
def packF (ws vs : List Int) : List Int := bytesOf (rowP (ws.zip vs) * 2 ^ (8 * sizeF ws - ws.sum).toNat) (sizeF ws).toNat
def num256 (ds : List Int) : Int := ds.foldl (fun r d => r * 2 ^ 8 + d) 0
def fldF (N : Int) : Int → List Int → List Int
  | _, [] => []
  | u, w :: ws => N / 2 ^ (u - w).toNat % 2 ^ w.toNat :: fldF N (u - w) ws
def unpF (ws ds : List Int) : List Int := fldF (num256 (ds.take (sizeF ws).toNat)) (8 * sizeF ws) ws

theorem pow_nn (k : Nat) : (0 : Int) < 2 ^ k := Int.pow_pos (by decide)
theorem pow_add2 (a b : Nat) : (2 : Int) ^ (a + b) = 2 ^ a * 2 ^ b := Int.pow_add ..
theorem rowP_snoc (ps : List (Int × Int)) (p : Int × Int) : rowP (ps ++ [p]) = rowP ps * 2 ^ p.1.toNat + p.2 := by
  unfold rowP
  rw [List.foldl_append]
  rfl
theorem num256_snoc (ds : List Int) (d : Int) : num256 (ds ++ [d]) = num256 ds * 2 ^ 8 + d := by
  unfold num256
  rw [List.foldl_append]
  rfl
theorem okP_iff {p : Int × Int} : okP p = true ↔ 1 ≤ p.1 ∧ 0 ≤ p.2 ∧ p.2 < 2 ^ p.1.toNat := by
  unfold okP
  simp only [Bool.and_eq_true, decide_eq_true_eq, and_assoc]
theorem wok_iff {ws : List Int} : wok ws = true ↔ ∀ w ∈ ws, 1 ≤ w := by
  unfold wok
  simp only [List.all_eq_true, decide_eq_true_eq]
theorem sum_nn {ws : List Int} (h : ∀ w ∈ ws, 0 ≤ w) : 0 ≤ ws.sum := by
  induction ws with
  | nil => exact Int.le_refl 0
  | cons w r ih =>
    rw [List.sum_cons]
    have := h w List.mem_cons_self
    have := ih fun x hx => h x (List.mem_cons_of_mem _ hx)
    omega
theorem snoc_ind {α : Type} {P : List α → Prop} (h0 : P []) (hs : ∀ l x, P l → P (l ++ [x])) : ∀ l, P l := by
  intro l
  have : ∀ n, ∀ l : List α, l.length = n → P l := by
    intro n
    induction n with
    | zero =>
      intro l hl
      rw [List.eq_nil_of_length_eq_zero hl]
      exact h0
    | succ n ih =>
      intro l hl
      have hne : l ≠ [] := by
        intro e
        rw [e] at hl
        cases hl
      rw [← List.dropLast_concat_getLast hne]
      exact hs _ _ (ih _ (by rw [List.length_dropLast]; omega))
  exact this _ l rfl
theorem rowP_bound : ∀ ps : List (Int × Int), ps.all okP = true → 0 ≤ rowP ps ∧ rowP ps < 2 ^ (ps.map Prod.fst).sum.toNat := by
  refine snoc_ind ?_ ?_
  · intro _
    exact ⟨Int.le_refl 0, by decide⟩
  · intro ps p ih h
    rw [List.all_append, Bool.and_eq_true] at h
    obtain ⟨h1, h2⟩ := h
    have hp : okP p = true := by simpa using h2
    obtain ⟨a, b, c⟩ := okP_iff.mp hp
    obtain ⟨i1, i2⟩ := ih h1
    have hs : 0 ≤ (ps.map Prod.fst).sum := sum_nn fun w hw => by
      obtain ⟨q, hq, rfl⟩ := List.mem_map.mp hw
      have := okP_iff.mp (List.all_eq_true.mp h1 q hq)
      omega
    rw [rowP_snoc, List.map_append, List.sum_append]
    have e : ((ps.map Prod.fst).sum + ([p].map Prod.fst).sum).toNat = (ps.map Prod.fst).sum.toNat + p.1.toNat := by
      have : ([p].map Prod.fst).sum = p.1 := by simp
      rw [this]
      omega
    rw [e, pow_add2]
    have hw := pow_nn p.1.toNat
    refine ⟨Int.add_nonneg (Int.mul_nonneg i1 (Int.le_of_lt hw)) b, ?_⟩
    have : rowP ps * 2 ^ p.1.toNat ≤ (2 ^ (ps.map Prod.fst).sum.toNat - 1) * 2 ^ p.1.toNat := Int.mul_le_mul_of_nonneg_right (by omega) (Int.le_of_lt hw)
    rw [Int.sub_mul, Int.one_mul] at this
    omega
theorem num256_bound : ∀ ds : List Int, (∀ d ∈ ds, 0 ≤ d ∧ d < 256) → 0 ≤ num256 ds ∧ num256 ds < 2 ^ (8 * ds.length) := by
  refine snoc_ind ?_ ?_
  · intro _
    exact ⟨Int.le_refl 0, by decide⟩
  · intro ds d ih h
    obtain ⟨i1, i2⟩ := ih fun x hx => h x (List.mem_append_left _ hx)
    obtain ⟨a, b⟩ := h d (List.mem_append_right _ List.mem_cons_self)
    rw [num256_snoc, List.length_append, List.length_singleton, Nat.mul_add, pow_add2]
    have e : (2 : Int) ^ (8 * 1) = 256 := by decide
    have e2 : (2 : Int) ^ 8 = 256 := by decide
    rw [e]
    omega
/-- one number cut into bytes, read again -/
theorem bytes_split (R : Int) (n : Nat) : ∀ i, i ≤ n → num256 ((List.range i).map (byteAt R n)) = R / 2 ^ (8 * (n - i)) % 2 ^ (8 * i) := by
  intro i
  induction i with
  | zero =>
    intro _
    show (0 : Int) = _ % 2 ^ (8 * 0)
    simp
  | succ i ih =>
    intro hi
    have h1 := ih (by omega)
    rw [List.range_succ, List.map_append, List.map_singleton, num256_snoc, h1]
    unfold byteAt
    have e1 : (8 * ((n : Int) - 1 - (i : Int))).toNat = 8 * (n - (i + 1)) := by omega
    rw [e1]
    have e2 : 8 * (n - i) = 8 * (n - (i + 1)) + 8 := by omega
    rw [e2, pow_add2, ← Int.ediv_ediv_of_nonneg (Int.le_of_lt (pow_nn _))]
    generalize R / 2 ^ (8 * (n - (i + 1))) = x
    have e3 : 8 * (i + 1) = 8 * i + 8 := by omega
    rw [e3, pow_add2]
    have e4 : (2 : Int) ^ 8 = 256 := by decide
    rw [e4]
    generalize hM : (2 : Int) ^ (8 * i) = M
    have hM0 : 0 < M := by rw [← hM]; exact pow_nn _
    have k := Int.emod_nonneg x (show M * 256 ≠ 0 by omega)
    have q1 := Int.mul_ediv_add_emod x (M * 256)
    have q2 := Int.mul_ediv_add_emod (x / 256) M
    have q3 := Int.mul_ediv_add_emod x 256
    have b2 := Int.emod_nonneg (x / 256) (show M ≠ 0 by omega)
    have b2' := Int.emod_lt_of_pos (x / 256) hM0
    have b3 := Int.emod_nonneg x (show (256 : Int) ≠ 0 by omega)
    have b3' := Int.emod_lt_of_pos x (show (0 : Int) < 256 by omega)
    have ed : x / (M * 256) = x / 256 / M := by
      rw [Int.mul_comm M 256, Int.ediv_ediv_of_nonneg (by decide)]
    rw [ed] at q1
    generalize hy : x / 256 / M = y at *
    have e5 : M * 256 * y = 256 * (M * y) := by rw [Int.mul_comm M 256, Int.mul_assoc]
    rw [e5] at q1
    omega
theorem bytes_num {R : Int} {n : Nat} (h0 : 0 ≤ R) (h1 : R < 2 ^ (8 * n)) : num256 (bytesOf R n) = R := by
  have e := bytes_split R n n (Nat.le_refl n)
  unfold bytesOf
  rw [e, Nat.sub_self, Nat.mul_zero, Int.pow_zero, Int.ediv_one]
  exact Int.emod_eq_of_lt h0 h1
theorem byteAt_bound (R : Int) (n i : Nat) : 0 ≤ byteAt R n i ∧ byteAt R n i < 256 := by
  unfold byteAt
  omega
theorem bytesOf_length (R : Int) (n : Nat) : (bytesOf R n).length = n := by
  unfold bytesOf
  rw [List.length_map, List.length_range]
/-- the fields read again -/
theorem fld_back : ∀ (ps : List (Int × Int)) (A : Int) (pad : Nat), ps.all okP = true → 0 ≤ A →
    fldF ((A * 2 ^ (ps.map Prod.fst).sum.toNat + rowP ps) * 2 ^ pad) ((ps.map Prod.fst).sum + pad) (ps.map Prod.fst) = ps.map Prod.snd := by
  intro ps
  induction ps with
  | nil => intro A pad _ _; rfl
  | cons p r ih =>
    intro A pad h hA
    rw [List.all_cons, Bool.and_eq_true] at h
    obtain ⟨hp, hr⟩ := h
    obtain ⟨a, b, c⟩ := okP_iff.mp hp
    have hs : 0 ≤ (r.map Prod.fst).sum := sum_nn fun w hw => by
      obtain ⟨q, hq, rfl⟩ := List.mem_map.mp hw
      have := okP_iff.mp (List.all_eq_true.mp hr q hq)
      omega
    -- rowP (p :: r) = p.2 * 2^S + rowP r
    have hrow : ∀ (l : List (Int × Int)) (z : Int), l.all okP = true → l.foldl (fun r p => r * 2 ^ p.1.toNat + p.2) z = z * 2 ^ (l.map Prod.fst).sum.toNat + rowP l := by
      intro l
      induction l with
      | nil =>
        intro z _
        show z = z * 2 ^ (0 : Int).toNat + 0
        simp
      | cons q t ih2 =>
        intro z hl
        rw [List.all_cons, Bool.and_eq_true] at hl
        obtain ⟨hq, ht⟩ := hl
        have hq1 := okP_iff.mp hq
        have ht0 : 0 ≤ (t.map Prod.fst).sum := sum_nn fun w hw => by
          obtain ⟨q, hq, rfl⟩ := List.mem_map.mp hw
          have := okP_iff.mp (List.all_eq_true.mp ht q hq)
          omega
        rw [List.foldl_cons, ih2 _ ht]
        show _ = z * 2 ^ (q.1 + (t.map Prod.fst).sum).toNat + List.foldl _ (0 * 2 ^ q.1.toNat + q.2) t
        rw [ih2 _ ht]
        have e : (q.1 + (t.map Prod.fst).sum).toNat = q.1.toNat + (t.map Prod.fst).sum.toNat := by omega
        rw [e, pow_add2, Int.zero_mul, Int.zero_add, Int.add_mul, Int.mul_assoc]
        omega
    have e1 : rowP (p :: r) = p.2 * 2 ^ (r.map Prod.fst).sum.toNat + rowP r := by
      show List.foldl _ (0 * 2 ^ p.1.toNat + p.2) r = _
      rw [hrow r _ hr, Int.zero_mul, Int.zero_add]
    have e2 : ((p :: r).map Prod.fst).sum = p.1 + (r.map Prod.fst).sum := by simp
    rw [e1, e2]
    have e3 : (p.1 + (r.map Prod.fst).sum).toNat = p.1.toNat + (r.map Prod.fst).sum.toNat := by omega
    rw [e3, pow_add2]
    obtain ⟨r1, r2⟩ := rowP_bound r hr
    generalize hS : (r.map Prod.fst).sum = S at *
    generalize hR : rowP r = R at *
    have eN : (A * (2 ^ p.1.toNat * 2 ^ S.toNat) + (p.2 * 2 ^ S.toNat + R)) = (A * 2 ^ p.1.toNat + p.2) * 2 ^ S.toNat + R := by
      rw [Int.add_mul, Int.mul_assoc]
      omega
    rw [eN]
    show fldF _ _ (p.1 :: r.map Prod.fst) = p.2 :: r.map Prod.snd
    show _ :: _ = _
    have eu : p.1 + S + (pad : Int) - p.1 = S + pad := by omega
    rw [eu, ih (A * 2 ^ p.1.toNat + p.2) pad hr (Int.add_nonneg (Int.mul_nonneg hA (Int.le_of_lt (pow_nn _))) b)]
    congr 1
    have e4 : (S + (pad : Int)).toNat = S.toNat + pad := by omega
    rw [e4, pow_add2, Int.mul_ediv_mul_of_pos_left _ _ (pow_nn pad)]
    rw [Int.add_comm (_ * 2 ^ S.toNat) R, Int.add_mul_ediv_right _ _ (Int.ne_of_gt (pow_nn S.toNat)), Int.ediv_eq_zero_of_lt r1 r2, Int.zero_add, Int.add_comm, Int.add_mul_emod_self_right]
    exact Int.emod_eq_of_lt b c
theorem zip_fst {ws vs : List Int} (h : ws.length = vs.length) : (ws.zip vs).map Prod.fst = ws := List.map_fst_zip (by omega)
theorem zip_snd {ws vs : List Int} (h : ws.length = vs.length) : (ws.zip vs).map Prod.snd = vs := List.map_snd_zip (by omega)
theorem okF_wok {ws vs : List Int} (h : okF ws vs = true) : wok ws = true := by
  unfold okF at h
  rw [Bool.and_eq_true, decide_eq_true_eq] at h
  rw [wok_iff, ← zip_fst h.1]
  intro w hw
  obtain ⟨q, hq, rfl⟩ := List.mem_map.mp hw
  exact (okP_iff.mp (List.all_eq_true.mp h.2 q hq)).1
/-- what was packed is read again, whatever stands behind -/
theorem unp_pack {ws vs es : List Int} (h : okF ws vs = true) : unpF ws (packF ws vs ++ es) = vs := by
  have hw := okF_wok h
  unfold okF at h
  rw [Bool.and_eq_true, decide_eq_true_eq] at h
  obtain ⟨hl, hp⟩ := h
  have hs : 0 ≤ ws.sum := sum_nn fun w hw' => by
    have := wok_iff.mp hw w hw'
    omega
  obtain ⟨b1, b2⟩ := rowP_bound _ hp
  rw [zip_fst hl] at b2
  have hz : 0 ≤ sizeF ws := by unfold sizeF; omega
  unfold unpF
  have e1 : (packF ws vs ++ es).take (sizeF ws).toNat = packF ws vs := by
    have : (packF ws vs).length = (sizeF ws).toNat := bytesOf_length _ _
    rw [List.take_append_of_le_length (by omega), List.take_of_length_le (by omega)]
  rw [e1]
  have hpad : 0 ≤ 8 * sizeF ws - ws.sum := by unfold sizeF; omega
  have e2 : num256 (packF ws vs) = rowP (ws.zip vs) * 2 ^ (8 * sizeF ws - ws.sum).toNat := by
    refine bytes_num (Int.mul_nonneg b1 (Int.le_of_lt (pow_nn _))) ?_
    have e3 : 8 * (sizeF ws).toNat = ws.sum.toNat + (8 * sizeF ws - ws.sum).toNat := by omega
    rw [e3, pow_add2]
    exact Int.mul_lt_mul_of_pos_right b2 (pow_nn _)
  rw [e2]
  have k := fld_back (ws.zip vs) 0 (8 * sizeF ws - ws.sum).toNat hp (Int.le_refl 0)
  rw [zip_fst hl, zip_snd hl, Int.zero_mul, Int.zero_add] at k
  have e4 : ws.sum + ((8 * sizeF ws - ws.sum).toNat : Int) = 8 * sizeF ws := by omega
  rw [e4] at k
  exact k
theorem take_all {α : Type} {l : List α} {i : Nat} {x : α} {f : α → Bool} (h : (l.take i).all f = true) (hx : l[i]? = some x) (hf : f x = true) : (l.take (i + 1)).all f = true := by
  rw [take_snoc hx, List.all_append, h]
  simp [hf]
theorem take_all_full {α : Type} {l : List α} {f : α → Bool} {i : Nat} (hi : l.length ≤ i) (h : (l.take i).all f = true) : l.all f = true := by
  rw [List.take_of_length_le hi] at h
  exact h
theorem not_all {α : Type} {l : List α} {i : Nat} {x : α} {f : α → Bool} (hx : l[i]? = some x) (hf : f x = false) : l.all f = false := by
  cases e : l.all f with
  | false => rfl
  | true =>
    rw [List.all_eq_true.mp e x (List.mem_of_getElem? hx)] at hf
    cases hf
theorem map_get {ns : List Int} {i : Nat} {y : V} (h : (ns.map V.int)[i]? = some y) : ∃ x, ns[i]? = some x ∧ y = .int x := by
  rw [List.getElem?_map] at h
  cases e : ns[i]? with
  | none => rw [e] at h; cases h
  | some x => rw [e] at h; exact ⟨x, rfl, (Option.some.inj h).symm⟩
section
variable {P : Program} {w : World} {K : PySem.W.Frag} {mg : Str → Option Value} {base : Heap}
def sp_field_bytes (K : PySem.W.Frag) (C : Addr) : Sp := fun vs H Q E => ∃ (a : Addr) (ws : List Int), vs = [.ref a] ∧ SqL K H a (ws.map V.int) ∧ (wok ws = true → Q (.int (sizeF ws)) H) ∧ (wok ws = false → E (.ref C) none H)
@[irreducible] def ip_field_bytes (K : PySem.W.Frag) (C : Addr) : Sp := sp_field_bytes K C
theorem op_field_bytes {K : PySem.W.Frag} {C : Addr} {vs : List V} {H : Hp} {Q : VK} {E : XK} (h : sp_field_bytes K C vs H Q E) : ip_field_bytes K C vs H Q E := by
  unfold ip_field_bytes
  exact h
theorem un_field_bytes {K : PySem.W.Frag} {C : Addr} {vs : List V} {H : Hp} {Q : VK} {E : XK} (h : ip_field_bytes K C vs H Q E) : sp_field_bytes K C vs H Q E := by
  unfold ip_field_bytes at h
  exact h
theorem ok_field_bytes (T : Tx P w K mg base) : FnOk P w K mg base (L2.CX P w) 3 T.a_field_bytes T.d_field_bytes ["widths"] (ip_field_bytes K T.C_NotValid) := by
  refine T.p_field_bytes.F.okX sc_field_bytes (fun vs H Q E h => ?_) (fun cdv A outer s H vs Q E hr h => ?_)
  · obtain ⟨a, ws, rfl, hS, q, e⟩ := un_field_bytes h
    rfl
  · obtain ⟨a, ws, rfl, hS, q, e⟩ := un_field_bytes h
    refine ⟨_, (pss_cons (ps_forL (passes_of rfl) rfl (pv 0) (pg_name (i := 1) sc_field_bytes.nd rfl (Or.inl rfl)) (pss_one (ps_ifM (pt_cmpR op_ltM (pv 1) pe_int (nomark _)) (pss_one (ps_raise rfl (takes_of rfl rfl rfl rfl) (pmk_plain T.x_NotValid (hr.mono (by decide)) rfl))) pss_nil))) (pss_one (ps_ret (pe_op op_fdivM (pe_op op_addM (pe_callB (call_sumM rfl) (by rfl) T.n_sum (by decide +kernel) (pa_cons (pv 0) pa_nil)) pe_int) pe_int)))), ?_⟩
    refine rd_forL ?_
    (repeat walk_at "rd")
    refine ⟨a, _, fun i σ H' => Stop (H' = H ∧ wok (ws.take i) = true ∧ ∃ v, σ = [some (.ref a), v]), rfl, hS, .a ⟨rfl, rfl, none, rfl⟩, fun i σ' H' hi p => ?_, fun i y σ' H' hi p => ?_, fun σ' H' p => ?_⟩
    · obtain ⟨rfl, _⟩ := p.un
      exact hS
    · obtain ⟨rfl, hw, v, rfl⟩ := p.un
      obtain ⟨x, hx, rfl⟩ := map_get hi
      (repeat walk_at "rd")
      refine br_by (fun h => ?_) (fun h => ?_)
      · exact e (not_all hx (decide_eq_false (by omega)))
      · exact .a ⟨rfl, take_all hw hx (decide_eq_true (by omega)), some (.int x), rfl⟩
    · obtain ⟨rfl, hw, v, rfl⟩ := p.un
      rw [List.length_map, List.take_length] at hw
      (repeat walk_at "rd")
      exact q hw
def sp_pack (K : PySem.W.Frag) (C : Addr) : Sp := fun as H Q E => ∃ (a b : Addr) (ws vs : List Int), as = [.ref a, .ref b] ∧ SqL K H a (ws.map V.int) ∧ SqL K H b (vs.map V.int) ∧ ws.length ≤ 500 ∧ (∀ w ∈ ws, w ≤ 1000) ∧
  (okF ws vs = true → NewO (.lst ((packF ws vs).map V.int)) H Q) ∧ (okF ws vs = false → ∀ H', Same H H' → E (.ref C) none H')
theorem sum_le {ws : List Int} (h : ∀ w ∈ ws, w ≤ 1000) : ws.sum ≤ 1000 * (ws.length : Int) := by
  induction ws with
  | nil => exact Int.le_refl 0
  | cons w r ih =>
    rw [List.sum_cons, List.length_cons]
    have := h w List.mem_cons_self
    have := ih fun x hx => h x (List.mem_cons_of_mem _ hx)
    omega
theorem shl_of {i : Int} {j : Int} {n : Nat} (h0 : 0 ≤ i) (h : i < 2 ^ n) (hj : 0 ≤ j) (hn : (n : Int) + j ≤ 134217728) : CShl i j := by
  have e : j = ((j.toNat : Nat) : Int) := by omega
  rw [e]
  refine shl_ok (n := n) ?_ (by omega)
  have : ((i.natAbs : Nat) : Int) < ((2 ^ n : Nat) : Int) := by
    rw [Int.natCast_pow]
    show (i.natAbs : Int) < 2 ^ n
    omega
  exact Int.ofNat_lt.mp this
theorem okF_false {ws vs : List Int} (h : ws.length ≠ vs.length ∨ (ws.zip vs).all okP = false) : okF ws vs = false := by
  unfold okF
  rcases h with h | h
  · rw [decide_eq_false h]
    rfl
  · rw [h, Bool.and_false]
@[irreducible] def ip_pack (K : PySem.W.Frag) (C : Addr) : Sp := sp_pack K C
theorem op_pack {K : PySem.W.Frag} {C : Addr} {vs : List V} {H : Hp} {Q : VK} {E : XK} (h : sp_pack K C vs H Q E) : ip_pack K C vs H Q E := by
  unfold ip_pack
  exact h
theorem un_pack {K : PySem.W.Frag} {C : Addr} {vs : List V} {H : Hp} {Q : VK} {E : XK} (h : ip_pack K C vs H Q E) : sp_pack K C vs H Q E := by
  unfold ip_pack at h
  exact h
theorem ok_pack (T : Tx P w K mg base) : FnOk P w K mg base (L2.CX P w) 4 T.a_pack T.d_pack ["widths", "values"] (ip_pack K T.C_NotValid) := by
  have G_field_bytes := ok_field_bytes T
  refine T.p_pack.F.okX sc_pack (fun vs H Q E h => ?_) (fun cdv A outer s H vs Q E hr h => ?_)
  · obtain ⟨a, b, ws, vs, rfl, hS, hT, hn, hw, q, e⟩ := un_pack h
    rfl
  · obtain ⟨a, b, ws, vs, rfl, hS, hT, hn, hw, q, e⟩ := un_pack h
    refine ⟨_, (pss_cons (ps_ifM (pt_cmpR op_ne (pe_callB call_lenM (by rfl) T.n_len PySem.boot_len (pa_cons (pv 0) pa_nil)) (pe_callB call_lenM (by rfl) T.n_len PySem.boot_len (pa_cons (pv 1) pa_nil)) (nomark _)) (pss_one (ps_raise rfl (takes_of rfl rfl rfl rfl) (pmk_plain T.x_NotValid (hr.mono (by decide)) rfl))) pss_nil) (pss_cons (ps_set (i := 2) sc_pack.nd rfl (Or.inr rfl) (pe_call G_field_bytes (hr.mono (by decide)) rfl T.p_field_bytes.m T.p_field_bytes.F.kp T.p_field_bytes.b .nil (passes_call (takes_of rfl rfl rfl rfl) (fun _ _ _ _ h => h)) (pa_cons (pv 0) pa_nil))) (pss_cons (ps_set (i := 3) sc_pack.nd rfl (Or.inr rfl) pe_int) (pss_cons (ps_forZ (passes_of rfl) rfl rfl T.n_zip (pa_cons (pv 0) (pa_cons (pv 1) pa_nil)) (pg_tup rfl (pgs_cons (pg_name (i := 4) sc_pack.nd rfl (Or.inl rfl)) (pgs_cons (pg_name (i := 5) sc_pack.nd rfl (Or.inl rfl)) pgs_nil))) (pss_cons (ps_ifM (PW.pt (pw_orM (pt_cmpR op_ltM (pv 5) pe_int (nomark _)) (pw_or1 (pt_cmpR op_geM (pv 5) (pe_op op_shl1M pe_int (pv 4)) (nomark _))))) (pss_one (ps_raise rfl (takes_of rfl rfl rfl rfl) (pmk_plain T.x_NotValid (hr.mono (by decide)) rfl))) pss_nil) (pss_one (ps_set (i := 3) sc_pack.nd rfl (Or.inr rfl) (pe_op op_addM (pe_op op_shlM (pv 3) (pv 4)) (pv 5)))))) (pss_cons (ps_set (i := 3) sc_pack.nd rfl (Or.inr rfl) (pe_op op_shlM (pv 3) (pe_op op_subM (pe_op op_mulM pe_int (pv 2)) (pe_callB (call_sumM rfl) (by rfl) T.n_sum (by decide +kernel) (pa_cons (pv 0) pa_nil))))) (pss_one (ps_ret (pe_lcR1 rfl sc_pack.nd rfl T.n_range (pa_cons (pv 2) pa_nil) (blkOk_by (own := [("at", 6)]) (N := ["widths", "values", "size", "row", "width", "value", "at"]) (sc := defScope S_pack) (by decide +kernel)) (fun _ _ _ _ _ => (pg_name (i := 6) sc_pack.nd rfl (Or.inl rfl))) (fun _ _ _ _ _ => (pe_op op_bandM (pe_op op_shrM (pv 3) (pe_op op_mulM pe_int (pe_op op_subM (pe_op op_subM (pv 2) pe_int) (pv 6)))) pe_int)))))))))), ?_⟩
    (repeat walk_at "rd")
    refine br_enby (fun h => ?_) (fun h => ?_)
    · exact e (okF_false (.inl (by omega))) _ (Same.refl _)
    (repeat walk_at "rd")
    refine op_field_bytes ⟨a, ws, rfl, hS, fun hwk => ?_, fun hwk => ?_⟩
    rotate_left
    · refine e ?_ _ (Same.refl _)
      cases k : okF ws vs with
      | false => rfl
      | true => rw [okF_wok k] at hwk; cases hwk
    (repeat walk_at "rd")
    refine rd_forZ ?_
    (repeat walk_at "rd")
    have hl : ws.length = vs.length := by omega
    have hsum := sum_le hw
    have hs0 : 0 ≤ ws.sum := sum_nn fun w hw' => by
      have := wok_iff.mp hwk w hw'
      omega
    have hsz : 0 ≤ sizeF ws ∧ ws.sum ≤ 8 * sizeF ws ∧ 8 * sizeF ws ≤ ws.sum + 7 := by unfold sizeF; omega
    have zl : (ws.zip vs).length = ws.length := by rw [List.length_zip]; omega
    refine ⟨a, b, _, _, fun i σ H' => Stop (Same H H' ∧ ((ws.zip vs).take i).all okP = true ∧ ∃ x y z, σ = [some (.ref a), some (.ref b), some (.int (sizeF ws)), some (.int (rowP ((ws.zip vs).take i))), x, y, z]), rfl, hS, hT, by rw [List.length_map, List.length_map, hl], .a ⟨Same.refl _, rfl, _, _, _, rfl⟩, fun i σ' H' p => ?_, fun i x y σ' H' H'' hx hy p s2 => ?_, fun σ' H' p => ?_⟩
    · obtain ⟨sm, _⟩ := p.un
      exact ⟨sm.seq hS, sm.seq hT⟩
    · obtain ⟨sm, hok, x1, y1, z1, rfl⟩ := p.un
      obtain ⟨wd, hwd, rfl⟩ := map_get hx
      obtain ⟨vl, hvl, rfl⟩ := map_get hy
      have hz : (ws.zip vs)[i]? = some (wd, vl) := by rw [List.getElem?_zip_eq_some]; exact ⟨hwd, hvl⟩
      have hw1 := wok_iff.mp hwk wd (List.mem_of_getElem? hwd)
      have hw2 := hw wd (List.mem_of_getElem? hwd)
      obtain ⟨b1, b2⟩ := rowP_bound _ hok
      have hbig : (List.map Prod.fst ((ws.zip vs).take i)).sum.toNat ≤ 1000000 := by
        rw [List.map_take, zip_fst hl]
        have h1 := sum_le (ws := ws.take i) fun w h => hw w (List.mem_of_mem_take h)
        rw [List.length_take] at h1
        omega
      (repeat walk_at "rd")
      refine br_by (fun h1 => ?_) (fun h1 => ?_)
      · (repeat walk_at "rd")
        exact e (okF_false (.inr (not_all hz (by unfold okP; rw [decide_eq_false (show ¬ 0 ≤ (wd, vl).2 from by show ¬ 0 ≤ vl; omega), Bool.and_false]; rfl)))) _ (sm.trans s2)
      (repeat walk_at "rd")
      refine br_by (fun h2 => ?_) (fun h2 => ?_)
      · (repeat walk_at "rd")
        exact e (okF_false (.inr (not_all hz (by unfold okP; rw [decide_eq_false (show ¬ (wd, vl).2 < 2 ^ (wd, vl).1.toNat from by show ¬ vl < 2 ^ wd.toNat; omega), Bool.and_false])))) _ (sm.trans s2)
      (repeat walk_at "rd")
      refine ⟨shl_of b1 b2 (by omega) (by omega), ?_⟩
      (repeat walk_at "rd")
      refine .a ⟨sm.trans s2, take_all hok hz (okP_iff.mpr ⟨hw1, by show 0 ≤ vl; omega, by show vl < 2 ^ wd.toNat; omega⟩), _, _, _, by rw [take_snoc hz, rowP_snoc]; rfl⟩
    · obtain ⟨sm, hok, x1, y1, z1, rfl⟩ := p.un
      rw [List.length_map, ← zl, List.take_length] at hok ⊢
      have hokF : okF ws vs = true := by unfold okF; rw [decide_eq_true hl, hok]; rfl
      obtain ⟨b1, b2⟩ := rowP_bound _ hok
      rw [zip_fst hl] at b2
      (repeat walk_at "rd")
      refine ⟨shl_of b1 b2 (by omega) (by omega), ?_⟩
      (repeat walk_at "rd")
      refine rd_lcR1 ?_
      (repeat walk_at "rd")
      refine ⟨_, fun i => V.int (byteAt (rowP (ws.zip vs) * 2 ^ (8 * sizeF ws - ws.sum).toNat) (sizeF ws).toNat i), rfl, ⟨by omega, by omega⟩, fun i hi H1 s1 => ?_, fun p H1 hp s1 e1 => ?_⟩
      · (repeat walk_at "rd")
        refine ⟨?_, Same.refl _⟩
        have e1 : (255 : Int) = 2 ^ 8 - 1 := by decide
        rw [e1, Bits.bitAnd_mask _ (Int.ediv_nonneg (Int.mul_nonneg b1 (Int.le_of_lt (pow_nn _))) (Int.le_of_lt (pow_nn _)))]
        have e2 : ((sizeF ws).toNat : Int) = sizeF ws := by omega
        show V.int _ = V.int (byteAt _ _ _)
        unfold byteAt
        rw [e2]
        rfl
      · refine q hokF p H1 (sm.free hp) (sm.trans s1) ?_
        rw [e1]
        unfold packF bytesOf
        rw [List.map_map]
        rfl
def unpOk (ws ds : List Int) : Bool := wok ws && decide (sizeF ws ≤ (ds.length : Int))
def sp_unpack (K : PySem.W.Frag) (C : Addr) : Sp := fun as H Q E => ∃ (a b : Addr) (ws ds : List Int), as = [.ref a, .ref b] ∧ SqL K H a (ws.map V.int) ∧ SqL K H b (ds.map V.int) ∧ ws.length ≤ 500 ∧ (∀ w ∈ ws, w ≤ 1000) ∧ (∀ d ∈ ds, 0 ≤ d ∧ d < 256) ∧
  (unpOk ws ds = true → NewO (.lst ((unpF ws ds).map V.int)) H Q) ∧ (unpOk ws ds = false → ∀ H', Same H H' → E (.ref C) none H')
theorem cutV_to {ds : List Int} {k : Int} (h0 : 0 ≤ k) : cutV (ds.map V.int) none (some k) = (ds.take k.toNat).map V.int := by
  unfold cutV
  rw [HT.sIx_none]
  have e : k = ((k.toNat : Nat) : Int) := by omega
  rw [e, HT.sIx_nat, List.drop_zero, Nat.sub_zero, List.length_map, ← List.map_take]
  congr 1
  rw [Int.toNat_natCast]
  by_cases h : k.toNat ≤ ds.length
  · rw [Nat.min_eq_left h]
  · rw [Nat.min_eq_right (by omega), List.take_of_length_le (Nat.le_refl _), List.take_of_length_le (by omega)]
theorem fldF_snoc (N : Int) : ∀ (ws : List Int) (u w : Int), fldF N u (ws ++ [w]) = fldF N u ws ++ [N / 2 ^ (u - ws.sum - w).toNat % 2 ^ w.toNat]
  | [], u, w => by
    show [N / 2 ^ (u - w).toNat % 2 ^ w.toNat] = [] ++ [N / 2 ^ (u - 0 - w).toNat % 2 ^ w.toNat]
    rw [Int.sub_zero]
    rfl
  | x :: r, u, w => by
    show _ :: fldF N (u - x) (r ++ [w]) = _ :: fldF N (u - x) r ++ _
    rw [fldF_snoc N r, List.sum_cons]
    have e : u - x - r.sum - w = u - (x + r.sum) - w := by omega
    rw [e]
    rfl
theorem fldF_len (N : Int) : ∀ (ws : List Int) (u : Int), (fldF N u ws).length = ws.length
  | [], _ => rfl
  | x :: r, u => by
    show (fldF N (u - x) r).length + 1 = r.length + 1
    rw [fldF_len N r]
@[irreducible] def ip_unpack (K : PySem.W.Frag) (C : Addr) : Sp := sp_unpack K C
theorem op_unpack {K : PySem.W.Frag} {C : Addr} {vs : List V} {H : Hp} {Q : VK} {E : XK} (h : sp_unpack K C vs H Q E) : ip_unpack K C vs H Q E := by
  unfold ip_unpack
  exact h
theorem un_unpack {K : PySem.W.Frag} {C : Addr} {vs : List V} {H : Hp} {Q : VK} {E : XK} (h : ip_unpack K C vs H Q E) : sp_unpack K C vs H Q E := by
  unfold ip_unpack at h
  exact h
theorem ok_unpack (T : Tx P w K mg base) : FnOk P w K mg base (L2.CX P w) 4 T.a_unpack T.d_unpack ["widths", "data"] (ip_unpack K T.C_NotValid) := by
  have G_field_bytes := ok_field_bytes T
  refine T.p_unpack.F.okX sc_unpack (fun vs H Q E h => ?_) (fun cdv A outer s H vs Q E hr h => ?_)
  · obtain ⟨a, b, ws, ds, rfl, hS, hT, hn, hw, hd, q, e⟩ := un_unpack h
    rfl
  · obtain ⟨a, b, ws, ds, rfl, hS, hT, hn, hw, hd, q, e⟩ := un_unpack h
    refine ⟨_, (pss_cons (ps_set (i := 2) sc_unpack.nd rfl (Or.inl rfl) (pe_call G_field_bytes (hr.mono (by decide)) rfl T.p_field_bytes.m T.p_field_bytes.F.kp T.p_field_bytes.b .nil (passes_call (takes_of rfl rfl rfl rfl) (fun _ _ _ _ h => h)) (pa_cons (pv 0) pa_nil))) (pss_cons (ps_ifM (pt_cmpR op_ltM (pe_callB call_lenM (by rfl) T.n_len PySem.boot_len (pa_cons (pv 1) pa_nil)) (pv 2) (nomark _)) (pss_one (ps_raise rfl (takes_of rfl rfl rfl rfl) (pmk_plain T.x_NotValid (hr.mono (by decide)) rfl))) pss_nil) (pss_cons (ps_set (i := 3) sc_unpack.nd rfl (Or.inl rfl) pe_int) (pss_cons (ps_forL (passes_of rfl) rfl (pe_slice sl_listM (pv 1) po_none (po_some (pv 2))) (pg_name (i := 4) sc_unpack.nd rfl (Or.inl rfl)) (pss_one (ps_set (i := 3) sc_unpack.nd rfl (Or.inl rfl) (pe_op op_addM (pe_op op_shlM (pv 3) pe_int) (pv 4))))) (pss_cons (ps_set (i := 5) sc_unpack.nd rfl (Or.inl rfl) (pe_op op_mulM pe_int (pv 2))) (pss_cons (ps_set (i := 6) sc_unpack.nd rfl (Or.inl rfl) (pe_lstM pa_nil)) (pss_cons (ps_forL (passes_of rfl) rfl (pv 0) (pg_name (i := 7) sc_unpack.nd rfl (Or.inl rfl)) (pss_cons (ps_set (i := 5) sc_unpack.nd rfl (Or.inl rfl) (pe_op op_subM (pv 5) (pv 7))) (pss_one (ps_expr (pe_app (pv 6) (pe_op op_bandM (pe_op op_shrM (pv 3) (pv 5)) (pe_op op_subM (pe_op op_shl1M pe_int (pv 7)) pe_int))))))) (pss_one (ps_ret (pv 6)))))))))), ?_⟩
    (repeat walk_at "rd")
    refine op_field_bytes ⟨a, ws, rfl, hS, fun hwk => ?_, fun hwk => ?_⟩
    rotate_left
    · refine e ?_ _ (Same.refl _)
      unfold unpOk
      rw [hwk]
      rfl
    (repeat walk_at "rd")
    refine br_by (fun h => ?_) (fun h => ?_)
    · (repeat walk_at "rd")
      refine e ?_ _ (Same.refl _)
      unfold unpOk
      rw [decide_eq_false (by omega), Bool.and_false]
    have hsum := sum_le hw
    have hs0 : 0 ≤ ws.sum := sum_nn fun w hw' => by
      have := wok_iff.mp hwk w hw'
      omega
    have hsz : 0 ≤ sizeF ws ∧ ws.sum ≤ 8 * sizeF ws ∧ 8 * sizeF ws ≤ ws.sum + 7 := by unfold sizeF; omega
    (repeat walk_at "rd")
    refine rd_forL ?_
    (repeat walk_at "rd")
    refine rd_sl hT ?_
    rw [cutV_to hsz.1]
    intro p H1 np s1 e1
    generalize hpre : ds.take (sizeF ws).toNat = pre at e1
    have hb : ∀ d ∈ pre, 0 ≤ d ∧ d < 256 := fun d h => hd d (by rw [← hpre] at h; exact List.mem_of_mem_take h)
    have hlen : (pre.length : Int) = sizeF ws := by
      rw [← hpre, List.length_take]
      omega
    refine ⟨p, _, fun i σ H' => Stop (H' = H1 ∧ ∃ x y z u, σ = [some (.ref a), some (.ref b), some (.int (sizeF ws)), some (.int (num256 (pre.take i))), x, y, z, u]), rfl, sq_of e1, .a ⟨rfl, _, _, _, _, rfl⟩, fun i σ' H' hi p => ?_, fun i y σ' H' hi p => ?_, fun σ' H' p => ?_⟩
    · obtain ⟨rfl, _⟩ := p.un
      exact sq_of e1
    · obtain ⟨rfl, x1, y1, z1, u1, rfl⟩ := p.un
      obtain ⟨d, hx, rfl⟩ := map_get hi
      have hi2 := (List.getElem?_eq_some_iff.mp hx).1
      obtain ⟨b1, b2⟩ := num256_bound (pre.take i) fun d h => hb d (List.mem_of_mem_take h)
      rw [List.length_take] at b2
      (repeat walk_at "rd")
      refine ⟨shl_of b1 b2 (by decide) (by omega), ?_⟩
      (repeat walk_at "rd")
      exact .a ⟨rfl, _, _, _, _, by rw [take_snoc hx, num256_snoc]; rfl⟩
    · obtain ⟨rfl, x1, y1, z1, u1, rfl⟩ := p.un
      rw [List.length_map, List.take_length]
      obtain ⟨b1, b2⟩ := num256_bound pre hb
      generalize hN : num256 pre = N at b1 b2
      (repeat walk_at "rd")
      intro l H2 nl s2 e2
      (repeat walk_at "rd")
      refine rd_forL ?_
      (repeat walk_at "rd")
      have hSS : Same H H2 := s1.trans s2
      refine ⟨a, _, fun i σ H' => Stop (Same H' H' ∧ Same H H' ∧ H' l = some (.lst ((fldF N (8 * sizeF ws) (ws.take i)).map V.int)) ∧ ∃ x y, σ = [some (.ref a), some (.ref b), some (.int (sizeF ws)), some (.int N), x, some (.int (8 * sizeF ws - (ws.take i).sum)), some (.ref l), y]), rfl, hSS.seq hS, .a ⟨Same.refl _, hSS, e2, _, _, by show _ = [_, _, _, _, _, some (V.int (8 * sizeF ws - 0)), _, _]; rw [Int.sub_zero]; rfl⟩, fun i σ' H' hi p => ?_, fun i y σ' H' hi p => ?_, fun σ' H' p => ?_⟩
      · obtain ⟨_, sm, _⟩ := p.un
        exact sm.seq hS
      · obtain ⟨_, sm, el, x2, y2, rfl⟩ := p.un
        obtain ⟨wd, hx, rfl⟩ := map_get hi
        have hi2 := (List.getElem?_eq_some_iff.mp hx).1
        have hw1 := wok_iff.mp hwk wd (List.mem_of_getElem? hx)
        have hw2 := hw wd (List.mem_of_getElem? hx)
        have hsumi : 0 ≤ 8 * sizeF ws - (ws.take i).sum - wd := by
          have h1 : (ws.take (i + 1)).sum = (ws.take i).sum + wd := by
            rw [take_snoc hx, List.sum_append]
            simp
          have h2 : ws.sum = (ws.take (i + 1)).sum + (ws.drop (i + 1)).sum := by
            rw [← List.sum_append, List.take_append_drop]
          have h3 : 0 ≤ (ws.drop (i + 1)).sum := sum_nn fun w h => by
            have := wok_iff.mp hwk w (List.mem_of_mem_drop h)
            omega
          omega
        (repeat walk_at "rd")
        refine rd_app el (by rw [List.length_map, fldF_len, List.length_take]; omega) ?_
        have e5 : Builtin.bitAnd (N / 2 ^ (8 * sizeF ws - (ws.take i).sum - wd).toNat) (2 ^ wd.toNat - 1) = N / 2 ^ (8 * sizeF ws - (ws.take i).sum - wd).toNat % 2 ^ wd.toNat := Bits.bitAnd_mask _ (Int.ediv_nonneg b1 (Int.le_of_lt (pow_nn _)))
        rw [e5]
        have nl0 : H l = none := s1.free nl
        refine .a ⟨Same.refl _, same_mut sm nl0, ?_, _, _, by rw [take_snoc hx, List.sum_append]; show _ = [_, _, _, _, _, some (V.int (8 * sizeF ws - ((ws.take i).sum + ([wd] : List Int).sum))), _, _]; rw [show 8 * sizeF ws - ((ws.take i).sum + ([wd] : List Int).sum) = 8 * sizeF ws - (ws.take i).sum - wd by simp; omega]; rfl⟩
        rw [upd_same, take_snoc hx, fldF_snoc, List.map_append]
        rfl
      · obtain ⟨_, sm, el, x2, y2, rfl⟩ := p.un
        rw [List.length_map, List.take_length] at el
        (repeat walk_at "rd")
        refine q ?_ l H' (s1.free nl) sm ?_
        · unfold unpOk
          rw [hwk, decide_eq_true (by omega)]
          rfl
        · rw [el]
          unfold unpF
          rw [hpre, hN]
def sp_u_law_two (K : PySem.W.Frag) : Sp := fun vs H Q _ => ∃ n : Int, vs = [.int n] ∧ n ≤ 100000 ∧ -100000 ≤ n ∧ Q (.int (2 ^ n.toNat)) H
@[irreducible] def ip_u_law_two (K : PySem.W.Frag) : Sp := sp_u_law_two K
theorem op_u_law_two {K : PySem.W.Frag} {vs : List V} {H : Hp} {Q : VK} {E : XK} (h : sp_u_law_two K vs H Q E) : ip_u_law_two K vs H Q E := by
  unfold ip_u_law_two
  exact h
theorem un_u_law_two {K : PySem.W.Frag} {vs : List V} {H : Hp} {Q : VK} {E : XK} (h : ip_u_law_two K vs H Q E) : sp_u_law_two K vs H Q E := by
  unfold ip_u_law_two at h
  exact h
theorem ok_u_law_two (T : Tx P w K mg base) : FnOk P w K mg base CX0 1 T.a_u_law_two T.d_u_law_two ["many"] (ip_u_law_two K) := by
  refine T.p_u_law_two.F.ok sc_u_law_two (fun vs H Q E h => ?_) (fun cdv A outer s H vs Q E hr h => ?_)
  · obtain ⟨n, rfl, h1, q⟩ := un_u_law_two h
    rfl
  · obtain ⟨n, rfl, h1, q⟩ := un_u_law_two h
    refine ⟨_, (pss_cons (ps_set (i := 1) sc_u_law_two.nd rfl (Or.inl rfl) pe_int) (pss_cons (ps_forR1 PassesOwn.never rfl rfl T.n_range (pa_cons (pv 0) pa_nil) (pg_name (i := 2) sc_u_law_two.nd rfl (Or.inl rfl)) (pss_one (ps_set (i := 1) sc_u_law_two.nd rfl (Or.inl rfl) (pe_op op_mulM pe_int (pv 1))))) (pss_one (ps_ret (pv 1))))), ?_⟩
    obtain ⟨h2, q⟩ := q
    (repeat walk_at "rd")
    refine rd_forR1 ?_
    (repeat walk_at "rd")
    refine ⟨n, fun i σ H' => Stop (H' = H ∧ ∃ v, σ = [some (.int n), some (.int (2 ^ i)), v]), rfl, ⟨h2, h1⟩, .a ⟨rfl, none, rfl⟩, fun i σ' H' hi p => ?_, fun σ' H' p => ?_⟩
    · obtain ⟨rfl, v, rfl⟩ := p.un
      (repeat walk_at "rd")
      refine .a ⟨rfl, some (.int (i : Nat)), ?_⟩
      rw [Int.pow_succ, Int.mul_comm]
      rfl
    · obtain ⟨rfl, v, rfl⟩ := p.un
      (repeat walk_at "rd")
      exact q
/-- all the tape's cells -/
def TapeOk (ns : List Int) : Prop := ∀ x ∈ ns, 0 ≤ x ∧ x < 1000
theorem tape_get {ns : List Int} (h : TapeOk ns) (k : Nat) : 0 ≤ ns.getD k 0 ∧ ns.getD k 0 < 1000 := by
  rw [List.getD_eq_getElem?_getD]
  cases e : ns[k]? with
  | none => exact ⟨Int.le_refl 0, by decide⟩
  | some x => exact h x (List.mem_of_getElem? e)
def sp_u_law_at (K : PySem.W.Frag) : Sp := fun vs H Q _ => ∃ (a : Addr) (ns : List Int) (k : Int), vs = [.ref a, .int k] ∧ SqL K H a (ns.map V.int) ∧ TapeOk ns ∧ 0 ≤ k ∧ (∀ x : Int, 0 ≤ x → x < 1000 → x = ns.getD k.toNat 0 → Q (.int x) H)
@[irreducible] def ip_u_law_at (K : PySem.W.Frag) : Sp := sp_u_law_at K
theorem op_u_law_at {K : PySem.W.Frag} {vs : List V} {H : Hp} {Q : VK} {E : XK} (h : sp_u_law_at K vs H Q E) : ip_u_law_at K vs H Q E := by
  unfold ip_u_law_at
  exact h
theorem un_u_law_at {K : PySem.W.Frag} {vs : List V} {H : Hp} {Q : VK} {E : XK} (h : ip_u_law_at K vs H Q E) : sp_u_law_at K vs H Q E := by
  unfold ip_u_law_at at h
  exact h
theorem ok_u_law_at (T : Tx P w K mg base) : FnOk P w K mg base CX0 1 T.a_u_law_at T.d_u_law_at ["tape", "k"] (ip_u_law_at K) := by
  refine T.p_u_law_at.F.ok sc_u_law_at (fun vs H Q E h => ?_) (fun cdv A outer s H vs Q E hr h => ?_)
  · obtain ⟨a, ns, k, rfl, hS, hn, hk, q⟩ := un_u_law_at h
    rfl
  · obtain ⟨a, ns, k, rfl, hS, hn, hk, q⟩ := un_u_law_at h
    refine ⟨_, (pss_cons (ps_ifM (pt_cmpR op_ltM (pv 1) (pe_callB call_lenM (by rfl) T.n_len PySem.boot_len (pa_cons (pv 0) pa_nil)) (nomark _)) (pss_one (ps_ret (pe_ix ix_listM (pv 0) (pv 1) (fun _ _ => rfl)))) pss_nil) (pss_one (ps_ret pe_int))), ?_⟩
    (repeat walk_at "rd")
    refine br_by (fun h => ?_) (fun h => ?_)
    · (repeat walk_at "rd")
      refine rd_ixI hS hk h ?_
      have hb := tape_get hn k.toNat
      exact q _ hb.1 hb.2 rfl
    · have e : ns.getD k.toNat 0 = 0 := by
        rw [List.getD_eq_getElem?_getD, List.getElem?_eq_none (by omega)]
        rfl
      (repeat walk_at "rd")
      exact q 0 (by decide) (by decide) e.symm
def sp_u_law_tape (K : PySem.W.Frag) : Sp := fun vs H Q _ => ∃ (a : Addr) (ns : List Int), vs = [.ref a] ∧ SqL K H a (ns.map V.int) ∧ ns.length ≤ 63 ∧ (∀ ts : List Int, TapeOk ts → NewO (.lst (ts.map V.int)) H Q)
/-- between two turns: the tape so far -/
structure TapeW (H : Hp) (a p : Addr) (m : Nat) (σ : L2.St) (H' : Hp) : Prop where
  sm : Same H H'
  np : H p = none
  tp : ∃ ts : List Int, H' p = some (.lst (ts.map V.int)) ∧ ts.length ≤ m ∧ TapeOk ts
  fr : ∃ x y z, σ = [some (.ref a), some (.ref p), x, y, z]
theorem tape_more {ts : List Int} (h : TapeOk ts) {x : Int} (h0 : 0 ≤ x) (h1 : x < 1000) : TapeOk (ts ++ [x]) := fun y hy => by
  rcases List.mem_append.mp hy with hy | hy
  · exact h y hy
  · rw [List.mem_singleton.mp hy]
    exact ⟨h0, h1⟩
@[irreducible] def ip_u_law_tape (K : PySem.W.Frag) : Sp := sp_u_law_tape K
theorem op_u_law_tape {K : PySem.W.Frag} {vs : List V} {H : Hp} {Q : VK} {E : XK} (h : sp_u_law_tape K vs H Q E) : ip_u_law_tape K vs H Q E := by
  unfold ip_u_law_tape
  exact h
theorem un_u_law_tape {K : PySem.W.Frag} {vs : List V} {H : Hp} {Q : VK} {E : XK} (h : ip_u_law_tape K vs H Q E) : sp_u_law_tape K vs H Q E := by
  unfold ip_u_law_tape at h
  exact h
theorem ok_u_law_tape (T : Tx P w K mg base) : FnOk P w K mg base CX0 1 T.a_u_law_tape T.d_u_law_tape ["script"] (ip_u_law_tape K) := by
  refine T.p_u_law_tape.F.ok sc_u_law_tape (fun vs H Q E h => ?_) (fun cdv A outer s H vs Q E hr h => ?_)
  · obtain ⟨a, ns, rfl, hS, hn, q⟩ := un_u_law_tape h
    rfl
  · obtain ⟨a, ns, rfl, hS, hn, q⟩ := un_u_law_tape h
    refine ⟨_, (pss_cons (ps_set (i := 1) sc_u_law_tape.nd rfl (Or.inl rfl) (pe_lstM pa_nil)) (pss_cons (ps_forR1 PassesOwn.never rfl rfl T.n_range (pa_cons (pe_callB call_lenM (by rfl) T.n_len PySem.boot_len (pa_cons (pv 0) pa_nil)) pa_nil) (pg_name (i := 2) sc_u_law_tape.nd rfl (Or.inl rfl)) (pss_cons (ps_set (i := 3) sc_u_law_tape.nd rfl (Or.inl rfl) (pe_callB call_abs (by rfl) T.n_abs (by decide +kernel) (pa_cons (pe_callTy call_int1 (by rfl) T.n_int (by decide +kernel) (pa_cons (pe_ix ix_listM (pv 0) (pv 2) (fun _ _ => rfl)) pa_nil)) pa_nil))) (pss_one (ps_ifM (pt_cmpR op_geM (pv 3) (pe_op op_powM pe_int pe_int) (nomark _)) (pss_one (ps_forR1 PassesOwn.never rfl rfl T.n_range (pa_cons pe_int pa_nil) (pg_name (i := 4) sc_u_law_tape.nd rfl (Or.inl rfl)) (pss_one (ps_ifM (pt_cmpR op_gtM (pv 3) pe_int (nomark _)) (pss_cons (ps_expr (pe_app (pv 1) (pe_op op_modM (pv 3) pe_int))) (pss_one (ps_set (i := 3) sc_u_law_tape.nd rfl (Or.inl rfl) (pe_op op_fdivM (pv 3) pe_int)))) pss_nil)))) (pss_one (ps_forR1 PassesOwn.never rfl rfl T.n_range (pa_cons pe_int pa_nil) (pg_name (i := 4) sc_u_law_tape.nd rfl (Or.inl rfl)) (pss_cons (ps_set (i := 3) sc_u_law_tape.nd rfl (Or.inl rfl) (pe_op op_modM (pe_op op_addM (pe_op op_addM (pe_op op_mulM (pv 3) pe_int) (pe_op op_mulM pe_int (pe_op op_addM (pv 2) pe_int))) (pe_op op_mulM pe_int (pv 4))) pe_int)) (pss_cons (ps_set (i := 3) sc_u_law_tape.nd rfl (Or.inl rfl) (pe_op op_modM (pe_op op_mulM (pv 3) pe_int) pe_int)) (pss_one (ps_expr (pe_app (pv 1) (pe_op op_modM (pe_op op_fdivM (pv 3) pe_int) pe_int)))))))))))) (pss_one (ps_ret (pv 1))))), ?_⟩
    refine rd_lst ?_
    (repeat walk_at "rd")
    intro p H1 np s1 e1
    refine rd_forR1 ?_
    (repeat walk_at "rd")
    refine ⟨_, fun i σ H' => Stop (TapeW H a p (60 * i) σ H'), rfl, ⟨by omega, by omega⟩, .a ⟨s1, np, ⟨[], e1, Nat.zero_le _, fun x hx => by cases hx⟩, ⟨_, _, _, rfl⟩⟩, fun i σ' H' hi w => ?_, fun σ' H' w => ?_⟩
    · obtain ⟨sm, _, ⟨ts, etp, hts, htok⟩, x, y, z, rfl⟩ := w.un
      (repeat walk_at "rd")
      refine rd_ixI (by walk_at "sq") (by omega) (by omega) ?_
      (repeat walk_at "rd")
      generalize hv : ns.getD _ 0 = v
      have hneg : ∃ u : Int, (if v < 0 then -v else v) = u ∧ 0 ≤ u := by
        refine ⟨_, rfl, ?_⟩
        split <;> omega
      obtain ⟨u, eu, hu⟩ := hneg
      rw [eu]
      refine br_by (fun h => ?_) (fun h => ?_)
      · refine rd_forR1 ?_
        (repeat walk_at "rd")
        refine ⟨_, fun j σ H'' => Stop (TapeW H a p (60 * i + j) σ H'' ∧ ∃ u z, 0 ≤ u ∧ σ = [some (.ref a), some (.ref p), some (.int (i : Nat)), some (.int u), z]), rfl, ⟨by decide, by decide⟩, .a ⟨⟨sm, np, ⟨ts, etp, hts, htok⟩, ⟨_, _, _, rfl⟩⟩, u, z, hu, rfl⟩, fun j σ2 H2 hj w2 => ?_, fun σ2 H2 w2 => ?_⟩
        · obtain ⟨⟨sm2, _, ⟨ts2, etp2, hts2, htok2⟩, _⟩, u2, z2, hu2, rfl⟩ := w2.un
          (repeat walk_at "rd")
          refine br_by (fun h3 => ?_) (fun h3 => ?_)
          · (repeat walk_at "rd")
            refine rd_app etp2 (by rw [List.length_map]; omega) ?_
            (repeat walk_at "rd")
            refine .a ⟨⟨same_mut sm2 np, np, ⟨ts2 ++ [u2 % 1000], ?_, by rw [List.length_append, List.length_singleton]; omega, tape_more htok2 (by omega) (by omega)⟩, ⟨_, _, _, rfl⟩⟩, u2 / 1000, _, by omega, rfl⟩
            rw [upd_same, List.map_append]
            rfl
          · exact .a ⟨⟨sm2, np, ⟨ts2, etp2, by omega, htok2⟩, ⟨_, _, _, rfl⟩⟩, u2, _, hu2, rfl⟩
        · obtain ⟨⟨sm2, _, ⟨ts2, etp2, hts2, htok2⟩, _⟩, u2, z2, hu2, rfl⟩ := w2.un
          exact .a ⟨sm2, np, ⟨ts2, etp2, by omega, htok2⟩, ⟨_, _, _, rfl⟩⟩
      · refine rd_forR1 ?_
        (repeat walk_at "rd")
        refine ⟨_, fun j σ H'' => Stop (TapeW H a p (60 * i + j) σ H'' ∧ ∃ u z, 0 ≤ u ∧ σ = [some (.ref a), some (.ref p), some (.int (i : Nat)), some (.int u), z]), rfl, ⟨by decide, by decide⟩, .a ⟨⟨sm, np, ⟨ts, etp, hts, htok⟩, ⟨_, _, _, rfl⟩⟩, u, z, hu, rfl⟩, fun j σ2 H2 hj w2 => ?_, fun σ2 H2 w2 => ?_⟩
        · obtain ⟨⟨sm2, _, ⟨ts2, etp2, hts2, htok2⟩, _⟩, u2, z2, hu2, rfl⟩ := w2.un
          (repeat walk_at "rd")
          refine rd_app etp2 (by rw [List.length_map]; omega) ?_
          refine .a ⟨⟨same_mut sm2 np, np, ⟨ts2 ++ [?w], ?h1, ?h2, tape_more htok2 ?h3 ?h4⟩, ⟨_, _, _, rfl⟩⟩, ?u, ?z, ?h5, ?h6⟩
          case h1 =>
            rw [upd_same, List.map_append]
            rfl
          case h6 => rfl
          case h2 =>
            rw [List.length_append, List.length_singleton]
            omega
          all_goals omega
        · obtain ⟨⟨sm2, _, ⟨ts2, etp2, hts2, htok2⟩, _⟩, u2, z2, hu2, rfl⟩ := w2.un
          exact .a ⟨sm2, np, ⟨ts2, etp2, by omega, htok2⟩, ⟨_, _, _, rfl⟩⟩
    · obtain ⟨sm, _, ⟨ts, etp, hts, htok⟩, x, y, z, rfl⟩ := w.un
      (repeat walk_at "rd")
      exact q ts htok p _ np sm etp
end
/-! the law's own bytes, bit by bit -/
def bitsOf (w v : Int) : List Int := (List.range w.toNat).map fun (k : Nat) => v / 2 ^ (w - 1 - (k : Int)).toNat % 2
def allBits (ps : List (Int × Int)) : List Int := ps.flatMap fun p => bitsOf p.1 p.2
def valB (bs : List Int) : Int := bs.foldl (fun r b => 2 * r + b) 0
def byteB (bs : List Int) (k : Nat) : Int := valB ((List.range 8).map fun n => bs.getD (8 * k + n) 0)
def lawBytes (ps : List (Int × Int)) : List Int := (List.range (((allBits ps).length + 7) / 8)).map (byteB (allBits ps))

theorem valB_app (xs ys : List Int) : valB (xs ++ ys) = valB xs * 2 ^ ys.length + valB ys := by
  have key : ∀ (ys : List Int) (z : Int), ys.foldl (fun r b => 2 * r + b) z = z * 2 ^ ys.length + valB ys := by
    intro ys
    induction ys with
    | nil => intro z; show z = z * 2 ^ 0 + 0; simp
    | cons y r ih =>
      intro z
      rw [List.foldl_cons, ih]
      show _ = z * 2 ^ (r.length + 1) + List.foldl _ (2 * 0 + y) r
      rw [ih, Int.pow_succ, Int.mul_zero, Int.zero_add, Int.add_mul]
      have : 2 * z * 2 ^ r.length = z * (2 ^ r.length * 2) := by
        rw [Int.mul_comm 2 z, Int.mul_assoc, Int.mul_comm 2]
      omega
  unfold valB
  rw [List.foldl_append]
  exact key ys _
theorem valB_snoc (xs : List Int) (y : Int) : valB (xs ++ [y]) = 2 * valB xs + y := by
  rw [valB_app]
  show valB xs * 2 ^ 1 + (2 * 0 + y) = _
  omega
theorem bits_split (w v : Int) (hw : 0 ≤ w) : ∀ i : Nat, (i : Int) ≤ w → valB ((List.range i).map fun (k : Nat) => v / 2 ^ (w - 1 - (k : Int)).toNat % 2) = v / 2 ^ (w - i).toNat % 2 ^ i := by
  intro i
  induction i with
  | zero =>
    intro _
    show (0 : Int) = _ % 2 ^ 0
    simp
  | succ i ih =>
    intro hi
    rw [List.range_succ, List.map_append, List.map_singleton, valB_snoc, ih (by omega)]
    have e1 : (w - (i : Int)).toNat = (w - ((i + 1 : Nat) : Int)).toNat + 1 := by omega
    have e2 : (w - 1 - (i : Int)).toNat = (w - ((i + 1 : Nat) : Int)).toNat := by omega
    rw [e1, e2, Int.pow_succ, ← Int.ediv_ediv_of_nonneg (Int.le_of_lt (pow_nn _)), Int.pow_succ]
    generalize v / 2 ^ (w - ((i + 1 : Nat) : Int)).toNat = x
    generalize hM : (2 : Int) ^ i = M
    have hM0 : 0 < M := by rw [← hM]; exact pow_nn _
    have q1 := Int.mul_ediv_add_emod x (M * 2)
    have q2 := Int.mul_ediv_add_emod (x / 2) M
    have ed : x / (M * 2) = x / 2 / M := by
      rw [Int.mul_comm M 2, Int.ediv_ediv_of_nonneg (by decide)]
    rw [ed] at q1
    generalize hy : x / 2 / M = y at *
    have e5 : M * 2 * y = 2 * (M * y) := by rw [Int.mul_comm M 2, Int.mul_assoc]
    rw [e5] at q1
    omega
theorem valB_bits {w v : Int} (hw : 0 ≤ w) (h0 : 0 ≤ v) (h1 : v < 2 ^ w.toNat) : valB (bitsOf w v) = v := by
  have e := bits_split w v hw w.toNat (by omega)
  unfold bitsOf
  rw [e]
  have e1 : (w - (w.toNat : Int)).toNat = 0 := by omega
  rw [e1, Int.pow_zero, Int.ediv_one]
  exact Int.emod_eq_of_lt h0 h1
theorem bitsOf_length (w v : Int) : (bitsOf w v).length = w.toNat := by
  unfold bitsOf
  rw [List.length_map, List.length_range]
theorem bitsOf_bit {w v b : Int} (h : b ∈ bitsOf w v) : 0 ≤ b ∧ b < 2 := by
  unfold bitsOf at h
  obtain ⟨k, _, rfl⟩ := List.mem_map.mp h
  omega
theorem allBits_bit {ps : List (Int × Int)} {b : Int} (h : b ∈ allBits ps) : 0 ≤ b ∧ b < 2 := by
  unfold allBits at h
  obtain ⟨p, _, hp⟩ := List.mem_flatMap.mp h
  exact bitsOf_bit hp
theorem allBits_snoc (ps : List (Int × Int)) (p : Int × Int) : allBits (ps ++ [p]) = allBits ps ++ bitsOf p.1 p.2 := by
  unfold allBits
  rw [List.flatMap_append]
  simp
theorem allBits_ok : ∀ ps : List (Int × Int), ps.all okP = true → ((allBits ps).length : Int) = (ps.map Prod.fst).sum ∧ valB (allBits ps) = rowP ps := by
  refine snoc_ind ?_ ?_
  · intro _
    exact ⟨rfl, rfl⟩
  · intro ps p ih h
    rw [List.all_append, Bool.and_eq_true] at h
    obtain ⟨h1, h2⟩ := h
    have hp : okP p = true := by simpa using h2
    obtain ⟨a, b, c⟩ := okP_iff.mp hp
    obtain ⟨i1, i2⟩ := ih h1
    rw [allBits_snoc, valB_app, bitsOf_length, valB_bits (by omega) b c, i2, rowP_snoc]
    refine ⟨?_, rfl⟩
    rw [List.length_append, bitsOf_length, List.map_append, List.sum_append]
    have : ([p].map Prod.fst).sum = p.1 := by simp
    omega
theorem valB_bound : ∀ bs : List Int, (∀ b ∈ bs, 0 ≤ b ∧ b < 2) → 0 ≤ valB bs ∧ valB bs < 2 ^ bs.length := by
  refine snoc_ind ?_ ?_
  · intro _
    exact ⟨Int.le_refl 0, by decide⟩
  · intro bs b ih h
    obtain ⟨i1, i2⟩ := ih fun x hx => h x (List.mem_append_left _ hx)
    have hb := h b (List.mem_append_right _ List.mem_cons_self)
    rw [valB_snoc, List.length_append, List.length_singleton, Int.pow_succ]
    omega
/-- the eight bits from 8 k on of a row of bits -/
theorem valB_mid (xs ys zs : List Int) (hy : ∀ b ∈ ys, 0 ≤ b ∧ b < 2) (hz : ∀ b ∈ zs, 0 ≤ b ∧ b < 2) : valB (xs ++ ys ++ zs) / 2 ^ zs.length % 2 ^ ys.length = valB ys := by
  obtain ⟨z1, z2⟩ := valB_bound zs hz
  obtain ⟨y1, y2⟩ := valB_bound ys hy
  rw [valB_app, Int.add_comm, Int.add_mul_ediv_right _ _ (Int.ne_of_gt (pow_nn _)), Int.ediv_eq_zero_of_lt z1 z2, Int.zero_add, valB_app, Int.add_comm, Int.add_mul_emod_self_right]
  exact Int.emod_eq_of_lt y1 y2
theorem valB_zeros : ∀ n : Nat, valB (List.replicate n 0) = 0 := by
  intro n
  induction n with
  | zero => rfl
  | succ n ih =>
    rw [List.replicate_succ']
    rw [valB_snoc, ih]
    rfl
theorem getD_slice (bs : List Int) (n k : Nat) (h : 8 * k + 8 ≤ bs.length + n) : ((List.range 8).map fun m => bs.getD (8 * k + m) 0) = ((bs ++ List.replicate n 0).drop (8 * k)).take 8 := by
  apply List.ext_getElem?
  intro i
  rw [List.getElem?_map, List.getElem?_take]
  by_cases hi : i < 8
  · rw [List.getElem?_range hi, if_pos hi, List.getElem?_drop]
    show some (bs.getD (8 * k + i) 0) = _
    rw [List.getElem?_append, List.getD_eq_getElem?_getD]
    by_cases hb : 8 * k + i < bs.length
    · rw [if_pos hb, List.getElem?_eq_getElem hb]
      rfl
    · rw [if_neg hb, List.getElem?_eq_none (by omega), List.getElem?_replicate, if_pos (by omega)]
      rfl
  · rw [List.getElem?_eq_none (by rw [List.length_range]; omega), if_neg hi]
    rfl
theorem law_is_pack {ws vs : List Int} (h : okF ws vs = true) : lawBytes (ws.zip vs) = packF ws vs := by
  have hw := okF_wok h
  unfold okF at h
  rw [Bool.and_eq_true, decide_eq_true_eq] at h
  obtain ⟨hl, hp⟩ := h
  obtain ⟨l1, l2⟩ := allBits_ok _ hp
  rw [zip_fst hl] at l1
  have hs : 0 ≤ ws.sum := sum_nn fun w hw' => by
    have := wok_iff.mp hw w hw'
    omega
  unfold lawBytes packF bytesOf
  have e1 : ((allBits (ws.zip vs)).length + 7) / 8 = (sizeF ws).toNat := by unfold sizeF; omega
  rw [e1]
  refine List.map_congr_left fun k hk => ?_
  have hk2 : k < (sizeF ws).toNat := List.mem_range.mp hk
  unfold byteB byteAt
  generalize hB : allBits (ws.zip vs) = B at *
  have hBb : ∀ b ∈ B, 0 ≤ b ∧ b < 2 := fun b hb => by rw [← hB] at hb; exact allBits_bit hb
  have hpad : 0 ≤ 8 * sizeF ws - ws.sum := by unfold sizeF; omega
  generalize hn : (8 * sizeF ws - ws.sum).toNat = n at *
  have hlen : B.length + n = 8 * (sizeF ws).toNat := by unfold sizeF at *; omega
  rw [getD_slice B n k (by omega)]
  generalize hC : B ++ List.replicate n 0 = C
  have hCl : C.length = 8 * (sizeF ws).toNat := by rw [← hC, List.length_append, List.length_replicate, hlen]
  have hCb : ∀ b ∈ C, 0 ≤ b ∧ b < 2 := fun b hb => by
    rw [← hC] at hb
    rcases List.mem_append.mp hb with hb | hb
    · exact hBb b hb
    · rw [(List.mem_replicate.mp hb).2]
      decide
  have hv : valB C = rowP (ws.zip vs) * 2 ^ n := by
    rw [← hC, valB_app, List.length_replicate, valB_zeros, l2, Int.add_zero]
  rw [← hv]
  have split : C = C.take (8 * k) ++ (C.drop (8 * k)).take 8 ++ (C.drop (8 * k)).drop 8 := by
    rw [List.append_assoc, List.take_append_drop, List.take_append_drop]
  have m := valB_mid (C.take (8 * k)) ((C.drop (8 * k)).take 8) ((C.drop (8 * k)).drop 8) (fun b hb => hCb b (List.mem_of_mem_drop (List.mem_of_mem_take hb))) (fun b hb => hCb b (List.mem_of_mem_drop (List.mem_of_mem_drop hb)))
  rw [← split, List.length_take, List.length_drop, List.length_drop, hCl] at m
  have e3 : min 8 (8 * (sizeF ws).toNat - 8 * k) = 8 := by omega
  have e4 : (8 * (((sizeF ws).toNat : Int) - 1 - (k : Int))).toNat = 8 * (sizeF ws).toNat - 8 * k - 8 := by omega
  rw [e3] at m
  rw [e4, ← m]
  rfl
theorem cutV_last {ns : List Int} : cutV (ns.map V.int) none (some (-1)) = (ns.dropLast).map V.int := by
  unfold cutV
  rw [HT.sIx_none]
  have e : HT.sIx (ns.map V.int).length (ns.map V.int).length (some (-1)) = ns.length - 1 := by
    show (if (-1 : Int) < 0 then ((-1 : Int) + ((ns.map V.int).length : Int)).toNat else min (-1 : Int).toNat (ns.map V.int).length) = ns.length - 1
    rw [if_pos (by decide), List.length_map]
    omega
  rw [e, List.drop_zero, Nat.sub_zero, ← List.map_take, List.dropLast_eq_take]
section
variable {P : Program} {w : World} {K : PySem.W.Frag} {mg : Str → Option Value} {base : Heap}
def sp_u_law_bits (K : PySem.W.Frag) : Sp := fun vs H Q _ => ∃ w v : Int, vs = [.int w, .int v] ∧ 0 ≤ w ∧ w ≤ 29 ∧ NewO (.lst ((bitsOf w v).map V.int)) H Q
theorem two_small {k : Int} (h0 : 0 ≤ k) (h : k ≤ 29) : CDiv (0 : Int) (2 ^ k.toNat) := by
  have e : ∃ n : Nat, k.toNat = n ∧ n ≤ 29 := ⟨_, rfl, by omega⟩
  obtain ⟨n, en, hn⟩ := e
  rw [en]
  refine ⟨pow_nn n, ?_⟩
  have e2 : (2 : Int) ^ n = ((2 ^ n : Nat) : Int) := by rw [Int.natCast_pow]; rfl
  rw [e2]
  have h2 : 2 ^ n ≤ 2 ^ 29 := Nat.pow_le_pow_right (by decide) hn
  have e3 : (2 : Nat) ^ 29 = 536870912 := by decide
  omega
@[irreducible] def ip_u_law_bits (K : PySem.W.Frag) : Sp := sp_u_law_bits K
theorem op_u_law_bits {K : PySem.W.Frag} {vs : List V} {H : Hp} {Q : VK} {E : XK} (h : sp_u_law_bits K vs H Q E) : ip_u_law_bits K vs H Q E := by
  unfold ip_u_law_bits
  exact h
theorem un_u_law_bits {K : PySem.W.Frag} {vs : List V} {H : Hp} {Q : VK} {E : XK} (h : ip_u_law_bits K vs H Q E) : sp_u_law_bits K vs H Q E := by
  unfold ip_u_law_bits at h
  exact h
theorem ok_u_law_bits (T : Tx P w K mg base) : FnOk P w K mg base CX0 2 T.a_u_law_bits T.d_u_law_bits ["width", "value"] (ip_u_law_bits K) := by
  have G_u_law_two := ok_u_law_two T
  refine T.p_u_law_bits.F.ok sc_u_law_bits (fun vs H Q E h => ?_) (fun cdv A outer s H vs Q E hr h => ?_)
  · obtain ⟨w, v, rfl, h0, h1, q⟩ := un_u_law_bits h
    rfl
  · obtain ⟨w, v, rfl, h0, h1, q⟩ := un_u_law_bits h
    refine ⟨_, (pss_cons (ps_set (i := 2) sc_u_law_bits.nd rfl (Or.inl rfl) (pe_lstM pa_nil)) (pss_cons (ps_forR1 PassesOwn.never rfl rfl T.n_range (pa_cons (pv 0) pa_nil) (pg_name (i := 3) sc_u_law_bits.nd rfl (Or.inl rfl)) (pss_one (ps_expr (pe_app (pv 2) (pe_op op_modM (pe_op op_fdivM (pv 1) (pe_call G_u_law_two (hr.mono (by decide)) rfl T.p_u_law_two.m T.p_u_law_two.F.kp T.p_u_law_two.b .nil pass0 (pa_cons (pe_op op_subM (pe_op op_subM (pv 0) pe_int) (pv 3)) pa_nil))) pe_int))))) (pss_one (ps_ret (pv 2))))), ?_⟩
    (repeat walk_at "rd")
    intro p H1 np s1 e1
    (repeat walk_at "rd")
    refine rd_forR1 ?_
    (repeat walk_at "rd")
    refine ⟨w, fun i σ H' => Stop (Same H H' ∧ H' p = some (.lst (((List.range i).map fun (k : Nat) => v / 2 ^ (w - 1 - (k : Int)).toNat % 2).map V.int)) ∧ ∃ x, σ = [some (.int w), some (.int v), some (.ref p), x]), rfl, ⟨by omega, by omega⟩, .a ⟨s1, e1, none, rfl⟩, fun i σ' H' hi w1 => ?_, fun σ' H' w1 => ?_⟩
    · obtain ⟨sm, ep, x, rfl⟩ := w1.un
      (repeat walk_at "rd")
      refine op_u_law_two ⟨_, rfl, by omega, by omega, ?_⟩
      (repeat walk_at "rd")
      refine ⟨two_small (by omega) (by omega), ?_⟩
      (repeat walk_at "rd")
      refine rd_app ep (by rw [List.length_map, List.length_map, List.length_range]; omega) ?_
      refine .a ⟨same_mut sm np, ?_, _, rfl⟩
      rw [upd_same, List.range_succ, List.map_append, List.map_append]
      rfl
    · obtain ⟨sm, ep, x, rfl⟩ := w1.un
      (repeat walk_at "rd")
      exact q p H' np sm ep
def sp_u_law_bytes (K : PySem.W.Frag) : Sp := fun as H Q _ => ∃ (a b : Addr) (ws vs : List Int), as = [.ref a, .ref b] ∧ SqL K H a (ws.map V.int) ∧ SqL K H b (vs.map V.int) ∧ ws.length = vs.length ∧ ws.length ≤ 100 ∧ (∀ w ∈ ws, 0 ≤ w ∧ w ≤ 29) ∧ NewO (.lst ((lawBytes (ws.zip vs)).map V.int)) H Q
theorem bits_len : ∀ ps : List (Int × Int), (∀ p ∈ ps, 0 ≤ p.1 ∧ p.1 ≤ 29) → (allBits ps).length ≤ 29 * ps.length := by
  refine snoc_ind ?_ ?_
  · intro _
    exact Nat.le_refl 0
  · intro ps p ih h
    have h1 := ih fun x hx => h x (List.mem_append_left _ hx)
    have h2 := h p (List.mem_append_right _ List.mem_cons_self)
    rw [allBits_snoc, List.length_append, bitsOf_length, List.length_append, List.length_singleton]
    omega
theorem range_take {α : Type} [Inhabited α] (f : Nat → α) (n i : Nat) : i ≤ n → ((List.range n).map f).take i = (List.range i).map f := fun h => by
  rw [← List.map_take, List.take_range, Nat.min_eq_left h]
@[irreducible] def ip_u_law_bytes (K : PySem.W.Frag) : Sp := sp_u_law_bytes K
theorem op_u_law_bytes {K : PySem.W.Frag} {vs : List V} {H : Hp} {Q : VK} {E : XK} (h : sp_u_law_bytes K vs H Q E) : ip_u_law_bytes K vs H Q E := by
  unfold ip_u_law_bytes
  exact h
theorem un_u_law_bytes {K : PySem.W.Frag} {vs : List V} {H : Hp} {Q : VK} {E : XK} (h : ip_u_law_bytes K vs H Q E) : sp_u_law_bytes K vs H Q E := by
  unfold ip_u_law_bytes at h
  exact h
theorem ok_u_law_bytes (T : Tx P w K mg base) : FnOk P w K mg base CX0 3 T.a_u_law_bytes T.d_u_law_bytes ["widths", "values"] (ip_u_law_bytes K) := by
  have G_u_law_bits := ok_u_law_bits T
  refine T.p_u_law_bytes.F.ok sc_u_law_bytes (fun vs H Q E h => ?_) (fun cdv A outer s H vs Q E hr h => ?_)
  · obtain ⟨a, b, ws, vs, rfl, hS, hT, hl, hn, hw, q⟩ := un_u_law_bytes h
    rfl
  · obtain ⟨a, b, ws, vs, rfl, hS, hT, hl, hn, hw, q⟩ := un_u_law_bytes h
    refine ⟨_, (pss_cons (ps_set (i := 2) sc_u_law_bytes.nd rfl (Or.inl rfl) (pe_lstM pa_nil)) (pss_cons (ps_forR1 PassesOwn.never rfl rfl T.n_range (pa_cons (pe_callB call_lenM (by rfl) T.n_len PySem.boot_len (pa_cons (pv 0) pa_nil)) pa_nil) (pg_name (i := 3) sc_u_law_bytes.nd rfl (Or.inl rfl)) (pss_one (ps_set (i := 2) sc_u_law_bytes.nd rfl (Or.inl rfl) (pe_op op_catM (pv 2) (pe_call G_u_law_bits (hr.mono (by decide)) rfl T.p_u_law_bits.m T.p_u_law_bits.F.kp T.p_u_law_bits.b .nil pass0 (pa_cons (pe_ix ix_listM (pv 0) (pv 3) (fun _ _ => rfl)) (pa_cons (pe_ix ix_listM (pv 1) (pv 3) (fun _ _ => rfl)) pa_nil))))))) (pss_cons (ps_set (i := 4) sc_u_law_bytes.nd rfl (Or.inl rfl) (pe_lstM pa_nil)) (pss_cons (ps_forR1 PassesOwn.never rfl rfl T.n_range (pa_cons (pe_op op_fdivM (pe_op op_addM (pe_callB call_lenM (by rfl) T.n_len PySem.boot_len (pa_cons (pv 2) pa_nil)) pe_int) pe_int) pa_nil) (pg_name (i := 3) sc_u_law_bytes.nd rfl (Or.inl rfl)) (pss_cons (ps_set (i := 5) sc_u_law_bytes.nd rfl (Or.inl rfl) pe_int) (pss_cons (ps_forR1 PassesOwn.never rfl rfl T.n_range (pa_cons pe_int pa_nil) (pg_name (i := 6) sc_u_law_bytes.nd rfl (Or.inl rfl)) (pss_cons (ps_set (i := 7) sc_u_law_bytes.nd rfl (Or.inl rfl) pe_int) (pss_cons (ps_ifM (pt_cmpR op_ltM (pe_op op_addM (pe_op op_mulM pe_int (pv 3)) (pv 6)) (pe_callB call_lenM (by rfl) T.n_len PySem.boot_len (pa_cons (pv 2) pa_nil)) (nomark _)) (pss_one (ps_set (i := 7) sc_u_law_bytes.nd rfl (Or.inl rfl) (pe_ix ix_listM (pv 2) (pe_op op_addM (pe_op op_mulM pe_int (pv 3)) (pv 6)) (fun _ _ => rfl)))) pss_nil) (pss_one (ps_set (i := 5) sc_u_law_bytes.nd rfl (Or.inl rfl) (pe_op op_addM (pe_op op_mulM pe_int (pv 5)) (pv 7))))))) (pss_one (ps_expr (pe_app (pv 4) (pv 5))))))) (pss_one (ps_ret (pv 4))))))), ?_⟩
    (repeat walk_at "rd")
    intro p H1 np s1 e1
    refine rd_forR1 ?_
    (repeat walk_at "rd")
    have hz : ∀ pr ∈ ws.zip vs, 0 ≤ pr.1 ∧ pr.1 ≤ 29 := fun pr h => hw pr.1 (List.of_mem_zip h).1
    have zl : (ws.zip vs).length = ws.length := by rw [List.length_zip]; omega
    refine ⟨_, fun i σ H' => Stop (Same H H' ∧ ∃ p, H' p = some (.lst ((allBits ((ws.zip vs).take i)).map V.int)) ∧ ∃ x1 x2 x3 x4 x5, σ = [some (.ref a), some (.ref b), some (.ref p), x1, x2, x3, x4, x5]), rfl, ⟨by omega, by omega⟩, .a ⟨s1, p, e1, _, _, _, _, _, rfl⟩, fun i σ' H' hi w1 => ?_, fun σ' H' w1 => ?_⟩
    · obtain ⟨sm, p, ep, x1, x2, x3, x4, x5, rfl⟩ := w1.un
      have hi1 : i < ws.length := by omega
      have hi2 : i < vs.length := by omega
      have hwi := hw ws[i] (List.getElem_mem hi1)
      (repeat walk_at "rd")
      refine rd_ixI (sm.seq hS) (by omega) (by omega) ?_
      (repeat walk_at "rd")
      refine rd_ixI (sm.seq hT) (by omega) (by omega) ?_
      (repeat walk_at "rd")
      have g1 : ws.getD ((i : Nat) : Int).toNat 0 = ws[i] := by rw [Int.toNat_natCast, List.getD_eq_getElem?_getD, List.getElem?_eq_getElem hi1]; rfl
      have g2 : vs.getD ((i : Nat) : Int).toNat 0 = vs[i] := by rw [Int.toNat_natCast, List.getD_eq_getElem?_getD, List.getElem?_eq_getElem hi2]; rfl
      have hzi : (ws.zip vs)[i]? = some (ws[i], vs[i]) := by rw [List.getElem?_zip_eq_some]; exact ⟨List.getElem?_eq_getElem hi1, List.getElem?_eq_getElem hi2⟩
      rw [g1, g2]
      refine op_u_law_bits ⟨_, _, rfl, hwi.1, hwi.2, fun p2 H2 np2 s2 e2 => ?_⟩
      have bl := bits_len ((ws.zip vs).take i) fun pr h => hz pr (List.mem_of_mem_take h)
      rw [List.length_take] at bl
      refine rd_cat (s2 _ _ ep) e2 (by rw [List.length_map, List.length_map, bitsOf_length]; omega) fun p3 H3 np3 s3 e3 => ?_
      refine .a ⟨(sm.trans s2).trans s3, p3, ?_, _, _, _, _, _, rfl⟩
      rw [e3, take_snoc hzi, allBits_snoc, List.map_append]
    · obtain ⟨sm, p, ep, x1, x2, x3, x4, x5, rfl⟩ := w1.un
      rw [Int.toNat_natCast, ← zl, List.take_length] at ep
      have bl := bits_len (ws.zip vs) hz
      generalize hB : allBits (ws.zip vs) = B at *
      (repeat walk_at "rd")
      intro d H1 nd s1 e1
      have nd0 : H d = none := sm.free nd
      refine rd_forR1 ?_
      (repeat walk_at "rd")
      refine ⟨_, fun i σ H2 => Stop (Same H H2 ∧ H2 p = some (.lst (B.map V.int)) ∧ H2 d = some (.lst (((List.range i).map (byteB B)).map V.int)) ∧ ∃ x1 x3 x4 x5, σ = [some (.ref a), some (.ref b), some (.ref p), x1, some (.ref d), x3, x4, x5]), rfl, ⟨by omega, by omega⟩, .a ⟨sm.trans s1, s1 _ _ ep, e1, _, _, _, _, rfl⟩, fun i σ2 H2 hi w2 => ?_, fun σ2 H2 w2 => ?_⟩
      · obtain ⟨sm2, ep2, ed2, x1, x3, x4, x5, rfl⟩ := w2.un
        (repeat walk_at "rd")
        refine rd_forR1 ?_
        (repeat walk_at "rd")
        refine ⟨_, fun j σ H3 => Stop (H3 = H2 ∧ ∃ x4 x5, σ = [some (.ref a), some (.ref b), some (.ref p), some (.int (i : Nat)), some (.ref d), some (.int (valB ((List.range j).map fun n => B.getD (8 * i + n) 0))), x4, x5]), rfl, ⟨by decide, by decide⟩, .a ⟨rfl, _, _, rfl⟩, fun j σ3 H3 hj w3 => ?_, fun σ3 H3 w3 => ?_⟩
        · obtain ⟨rfl, x4, x5, rfl⟩ := w3.un
          (repeat walk_at "rd")
          have step : ∀ y : Int, y = B.getD (8 * i + j) 0 → 2 * valB ((List.range j).map fun n => B.getD (8 * i + n) 0) + y = valB ((List.range (j + 1)).map fun n => B.getD (8 * i + n) 0) := fun y hy => by
            rw [List.range_succ, List.map_append, List.map_singleton, valB_snoc, hy]
          refine br_by (fun h => ?_) (fun h => ?_)
          · (repeat walk_at "rd")
            refine rd_ixI (sq_of ep2) (by omega) h ?_
            have e8 : (8 * (i : Int) + (j : Int)).toNat = 8 * i + j := by omega
            rw [e8]
            (repeat walk_at "rd")
            exact .a ⟨rfl, _, _, by rw [← step _ rfl]; rfl⟩
          · (repeat walk_at "rd")
            exact .a ⟨rfl, _, _, by rw [← step 0 (by rw [List.getD_eq_getElem?_getD, List.getElem?_eq_none (by omega)]; rfl)]; rfl⟩
        · obtain ⟨rfl, x4, x5, rfl⟩ := w3.un
          (repeat walk_at "rd")
          refine rd_app ed2 (by rw [List.length_map, List.length_map, List.length_range]; omega) ?_
          have npd : p ≠ d := ne_of_none (s1 _ _ ep |> fun _ => ep) nd
          refine .a ⟨same_mut sm2 nd0, by rw [upd_ne npd]; exact ep2, ?_, _, _, _, _, rfl⟩
          rw [upd_same, List.range_succ, List.map_append, List.map_append]
          rfl
      · obtain ⟨sm2, ep2, ed2, x1, x3, x4, x5, rfl⟩ := w2.un
        (repeat walk_at "rd")
        refine q d H2 nd0 sm2 ?_
        rw [ed2]
        unfold lawBytes
        rw [hB]
        congr 4
def refused : List V := [.str "refused", .bl true]
def sp_u_law_packed (K : PySem.W.Frag) : Sp := fun as H Q _ => ∃ (a b : Addr) (ws vs : List Int), as = [.ref a, .ref b] ∧ SqL K H a (ws.map V.int) ∧ SqL K H b (vs.map V.int) ∧ ws.length ≤ 500 ∧ (∀ w ∈ ws, w ≤ 1000) ∧
  (okF ws vs = true → NewO (.lst ((packF ws vs).map V.int)) H Q) ∧ (okF ws vs = false → NewO (.lst refused) H Q)
@[irreducible] def ip_u_law_packed (K : PySem.W.Frag) : Sp := sp_u_law_packed K
theorem op_u_law_packed {K : PySem.W.Frag} {vs : List V} {H : Hp} {Q : VK} {E : XK} (h : sp_u_law_packed K vs H Q E) : ip_u_law_packed K vs H Q E := by
  unfold ip_u_law_packed
  exact h
theorem un_u_law_packed {K : PySem.W.Frag} {vs : List V} {H : Hp} {Q : VK} {E : XK} (h : ip_u_law_packed K vs H Q E) : sp_u_law_packed K vs H Q E := by
  unfold ip_u_law_packed at h
  exact h
theorem ok_u_law_packed (T : Tx P w K mg base) : FnOk P w K mg base CX0 5 T.a_u_law_packed T.d_u_law_packed ["widths", "values"] (ip_u_law_packed K) := by
  have G_pack := ok_pack T
  refine T.p_u_law_packed.F.ok sc_u_law_packed (fun vs H Q E h => ?_) (fun cdv A outer s H vs Q E hr h => ?_)
  · obtain ⟨a, b, ws, vs, rfl, hS, hT, hn, hw, q, e⟩ := un_u_law_packed h
    rfl
  · obtain ⟨a, b, ws, vs, rfl, hS, hT, hn, hw, q, e⟩ := un_u_law_packed h
    refine ⟨_, (pss_one (ps_try_as (i := 2) rfl rfl sc_u_law_packed.nd rfl rfl ⟨rfl, by decide, .inl T.g_BearerError⟩ takes0 (fun W pn xe tk po => (pss_one (ps_ret (pe_callS G_pack (hr.mono (by decide)) rfl T.p_pack.m T.p_pack.F.kp T.p_pack.b (fun σ => passAt tk σ) (pa_cons (pv 0) (pa_cons (pv 1) pa_nil)))))) (fun a oe cls d pn hz hf => (pss_one (ps_ret (pe_lstM (pa_cons pe_str (pa_cons (pe_callB (call_isEM hz hf) (by rfl) T.n_isinstance (by decide +kernel) (pa_cons (pv 2) (pa_cons (pe_glob (v := .ref T.C_NotValid) rfl T.g_NotValid rfl) pa_nil))) pa_nil)))))))), ?_⟩
    (repeat walk_at "rd")
    refine op_pack ⟨a, b, ws, vs, rfl, hS, hT, hn, hw, fun h => q h, fun h H1 s1 => ⟨true, T.m_NotValid_BearerError, fun _ x hx => ?_, fun z => Bool.noConfusion z⟩⟩
    (repeat walk_at "rd")
    refine ⟨_, _, _, rfl, rfl, rfl, T.e_NotValid, kit_same, ?_⟩
    (repeat walk_at "rd")
    exact fun p H2 np s2 e2 => e h p H2 (s1.free np) (s1.trans s2) e2
def sp_u_law_unpacked (K : PySem.W.Frag) : Sp := fun as H Q _ => ∃ (a b : Addr) (ws ds : List Int), as = [.ref a, .ref b] ∧ SqL K H a (ws.map V.int) ∧ SqL K H b (ds.map V.int) ∧ ws.length ≤ 500 ∧ (∀ w ∈ ws, w ≤ 1000) ∧ (∀ d ∈ ds, 0 ≤ d ∧ d < 256) ∧
  (unpOk ws ds = true → NewO (.lst ((unpF ws ds).map V.int)) H Q) ∧ (unpOk ws ds = false → NewO (.lst refused) H Q)
@[irreducible] def ip_u_law_unpacked (K : PySem.W.Frag) : Sp := sp_u_law_unpacked K
theorem op_u_law_unpacked {K : PySem.W.Frag} {vs : List V} {H : Hp} {Q : VK} {E : XK} (h : sp_u_law_unpacked K vs H Q E) : ip_u_law_unpacked K vs H Q E := by
  unfold ip_u_law_unpacked
  exact h
theorem un_u_law_unpacked {K : PySem.W.Frag} {vs : List V} {H : Hp} {Q : VK} {E : XK} (h : ip_u_law_unpacked K vs H Q E) : sp_u_law_unpacked K vs H Q E := by
  unfold ip_u_law_unpacked at h
  exact h
theorem ok_u_law_unpacked (T : Tx P w K mg base) : FnOk P w K mg base CX0 5 T.a_u_law_unpacked T.d_u_law_unpacked ["widths", "data"] (ip_u_law_unpacked K) := by
  have G_unpack := ok_unpack T
  refine T.p_u_law_unpacked.F.ok sc_u_law_unpacked (fun vs H Q E h => ?_) (fun cdv A outer s H vs Q E hr h => ?_)
  · obtain ⟨a, b, ws, ds, rfl, hS, hT, hn, hw, hd, q, e⟩ := un_u_law_unpacked h
    rfl
  · obtain ⟨a, b, ws, ds, rfl, hS, hT, hn, hw, hd, q, e⟩ := un_u_law_unpacked h
    refine ⟨_, (pss_one (ps_try_as (i := 2) rfl rfl sc_u_law_unpacked.nd rfl rfl ⟨rfl, by decide, .inl T.g_BearerError⟩ takes0 (fun W pn xe tk po => (pss_one (ps_ret (pe_callS G_unpack (hr.mono (by decide)) rfl T.p_unpack.m T.p_unpack.F.kp T.p_unpack.b (fun σ => passAt tk σ) (pa_cons (pv 0) (pa_cons (pv 1) pa_nil)))))) (fun a oe cls d pn hz hf => (pss_one (ps_ret (pe_lstM (pa_cons pe_str (pa_cons (pe_callB (call_isEM hz hf) (by rfl) T.n_isinstance (by decide +kernel) (pa_cons (pv 2) (pa_cons (pe_glob (v := .ref T.C_NotValid) rfl T.g_NotValid rfl) pa_nil))) pa_nil)))))))), ?_⟩
    (repeat walk_at "rd")
    refine op_unpack ⟨a, b, ws, ds, rfl, hS, hT, hn, hw, hd, fun h => q h, fun h H1 s1 => ⟨true, T.m_NotValid_BearerError, fun _ x hx => ?_, fun z => Bool.noConfusion z⟩⟩
    (repeat walk_at "rd")
    refine ⟨_, _, _, rfl, rfl, rfl, T.e_NotValid, kit_same, ?_⟩
    (repeat walk_at "rd")
    exact fun p H2 np s2 e2 => e h p H2 (s1.free np) (s1.trans s2) e2
def sp_u_law_spoiled (K : PySem.W.Frag) : Sp := fun as H Q _ => ∃ (a b : Addr) (ws vs : List Int) (kind at' : Int), as = [.ref a, .ref b, .int kind, .int at'] ∧ SqL K H a (ws.map V.int) ∧ SqL K H b (vs.map V.int) ∧ okF ws vs = true ∧ ws.length ≤ 100 ∧ (∀ w ∈ ws, 1 ≤ w ∧ w ≤ 29) ∧ (0 ≤ kind ∧ kind < 5) ∧ (0 ≤ at' ∧ at' < (ws.length : Int)) ∧
  (∀ (p a' b' : Addr) (H' : Hp) (us xs : List Int), Same H H' → H' p = some (.tup [.ref a', .ref b']) → H' a' = some (.lst (us.map V.int)) → H' b' = some (.lst (xs.map V.int)) → okF us xs = false → (kind = 2 → wok us = false) → us.length ≤ 500 → (∀ w ∈ us, w ≤ 1000) → Q (.ref p) H')
theorem zip_bad {ws vs : List Int} {i : Nat} {w v : Int} (h1 : ws[i]? = some w) (h2 : vs[i]? = some v) (h : ¬ (1 ≤ w ∧ 0 ≤ v ∧ v < 2 ^ w.toNat)) : okF ws vs = false := by
  refine okF_false (.inr (not_all (i := i) (x := (w, v)) (by rw [List.getElem?_zip_eq_some]; exact ⟨h1, h2⟩) ?_))
  cases e : okP (w, v) with
  | false => rfl
  | true => exact absurd (okP_iff.mp e) h
theorem set_int (ns : List Int) (k : Nat) (x : Int) : (ns.map V.int).set k (.int x) = (ns.set k x).map V.int := by
  rw [List.map_set]
@[irreducible] def ip_u_law_spoiled (K : PySem.W.Frag) : Sp := sp_u_law_spoiled K
theorem op_u_law_spoiled {K : PySem.W.Frag} {vs : List V} {H : Hp} {Q : VK} {E : XK} (h : sp_u_law_spoiled K vs H Q E) : ip_u_law_spoiled K vs H Q E := by
  unfold ip_u_law_spoiled
  exact h
theorem un_u_law_spoiled {K : PySem.W.Frag} {vs : List V} {H : Hp} {Q : VK} {E : XK} (h : ip_u_law_spoiled K vs H Q E) : sp_u_law_spoiled K vs H Q E := by
  unfold ip_u_law_spoiled at h
  exact h
theorem ok_u_law_spoiled (T : Tx P w K mg base) : FnOk P w K mg base CX0 2 T.a_u_law_spoiled T.d_u_law_spoiled ["widths", "values", "kind", "at"] (ip_u_law_spoiled K) := by
  have G_u_law_two := ok_u_law_two T
  refine T.p_u_law_spoiled.F.ok sc_u_law_spoiled (fun vs H Q E h => ?_) (fun cdv A outer s H vs Q E hr h => ?_)
  · obtain ⟨a, b, ws, vs, kind, at', rfl, hS, hT, hok, hn, hw, hk, hat, q⟩ := un_u_law_spoiled h
    rfl
  · obtain ⟨a, b, ws, vs, kind, at', rfl, hS, hT, hok, hn, hw, hk, hat, q⟩ := un_u_law_spoiled h
    refine ⟨_, (pss_cons (ps_set (i := 0) sc_u_law_spoiled.nd rfl (Or.inl rfl) (pe_callTy call_listM (by rfl) T.n_list (by decide +kernel) (pa_cons (pv 0) pa_nil))) (pss_cons (ps_set (i := 1) sc_u_law_spoiled.nd rfl (Or.inl rfl) (pe_callTy call_listM (by rfl) T.n_list (by decide +kernel) (pa_cons (pv 1) pa_nil))) (pss_cons (ps_ifM (pt_cmpR op_eq (pv 2) pe_int (nomark _)) (pss_one (ps_asg (pe_call G_u_law_two (hr.mono (by decide)) rfl T.p_u_law_two.m T.p_u_law_two.F.kp T.p_u_law_two.b .nil pass0 (pa_cons (pe_ix ix_listM (pv 0) (pv 3) (fun _ _ => rfl)) pa_nil)) (pg_sub (pv 1) (pv 3) set_listM))) (pss_one (ps_ifM (pt_cmpR op_eq (pv 2) pe_int (nomark _)) (pss_one (ps_asg (pe_un un_neg pe_int) (pg_sub (pv 1) (pv 3) set_listM))) (pss_one (ps_ifM (pt_cmpR op_eq (pv 2) pe_int (nomark _)) (pss_cons (ps_asg pe_int (pg_sub (pv 0) (pv 3) set_listM)) (pss_one (ps_asg pe_int (pg_sub (pv 1) (pv 3) set_listM)))) (pss_one (ps_ifM (pt_cmpR op_eq (pv 2) pe_int (nomark _)) (pss_one (ps_set (i := 1) sc_u_law_spoiled.nd rfl (Or.inl rfl) (pe_slice sl_listM (pv 1) po_none (po_some (pe_un un_neg pe_int))))) (pss_one (ps_set (i := 1) sc_u_law_spoiled.nd rfl (Or.inl rfl) (pe_op op_catM (pv 1) (pe_lstM (pa_cons pe_int pa_nil)))))))))))) (pss_one (ps_ret (pe_tupM (pa_cons (pv 0) (pa_cons (pv 1) pa_nil)))))))), ?_⟩
    have hl : ws.length = vs.length := by
      unfold okF at hok
      rw [Bool.and_eq_true, decide_eq_true_eq] at hok
      exact hok.1
    (repeat walk_at "rd")
    refine rd_list hS fun a1 H1 n1 s1 e1 => ?_
    (repeat walk_at "rd")
    refine rd_list (s1.seq hT) fun b1 H2 n2 s2 e2 => ?_
    have e1' := s2 _ _ e1
    have sm : Same H H2 := s1.trans s2
    have hi : at'.toNat < ws.length := by omega
    have hi2 : at'.toNat < vs.length := by omega
    have g1 : ws.getD at'.toNat 0 = ws[at'.toNat] := by rw [List.getD_eq_getElem?_getD, List.getElem?_eq_getElem hi]; rfl
    have hwi := hw ws[at'.toNat] (List.getElem_mem hi)
    have hws : ∀ w ∈ ws, w ≤ 1000 := fun w h => by have := hw w h; omega
    have nb : H b1 = none := s1.free n2
    have ne : a1 ≠ b1 := ne_of_none e1 n2
    (repeat walk_at "rd")
    refine br_eby (fun hk0 => ?_) (fun hk0 => ?_)
    · (repeat walk_at "rd")
      refine rd_ixI (sq_of e1') (by omega) (by omega) ?_
      rw [g1]
      refine op_u_law_two ⟨_, rfl, by omega, by omega, ?_⟩
      (repeat walk_at "rd")
      refine rd_setL e2 hat.1 (by rw [List.length_map]; omega) ?_
      (repeat walk_at "rd")
      intro p H3 n3 s3 e3
      refine q p a1 b1 H3 ws (vs.set at'.toNat (2 ^ (ws[at'.toNat]).toNat)) ((same_mut sm nb).trans s3) e3 (s3 _ _ (by rw [upd_ne ne]; exact e1')) (by rw [s3 _ _ upd_same, set_int]) (zip_bad (i := at'.toNat) (List.getElem?_eq_getElem hi) (List.getElem?_set_self hi2) (by omega)) (by omega) (by omega) hws
    (repeat walk_at "rd")
    refine br_eby (fun hk1 => ?_) (fun hk1 => ?_)
    · (repeat walk_at "rd")
      refine rd_setL e2 hat.1 (by rw [List.length_map]; omega) ?_
      (repeat walk_at "rd")
      intro p H3 n3 s3 e3
      refine q p a1 b1 H3 ws (vs.set at'.toNat (-1)) ((same_mut sm nb).trans s3) e3 (s3 _ _ (by rw [upd_ne ne]; exact e1')) (by rw [s3 _ _ upd_same, set_int]) (zip_bad (i := at'.toNat) (List.getElem?_eq_getElem hi) (List.getElem?_set_self hi2) (by omega)) (by omega) (by omega) hws
    (repeat walk_at "rd")
    refine br_eby (fun hk2 => ?_) (fun hk2 => ?_)
    · (repeat walk_at "rd")
      refine rd_setL e1' hat.1 (by rw [List.length_map]; omega) ?_
      (repeat walk_at "rd")
      refine rd_setL (by rw [upd_ne ne.symm]; exact e2) hat.1 (by rw [List.length_map]; omega) ?_
      (repeat walk_at "rd")
      intro p H3 n3 s3 e3
      have hz : (ws.set at'.toNat 0)[at'.toNat]? = some 0 := List.getElem?_set_self hi
      refine q p a1 b1 H3 (ws.set at'.toNat 0) (vs.set at'.toNat 0) ((same_mut (same_mut sm n1) nb).trans s3) e3 (s3 _ _ (by rw [upd_ne ne, upd_same, set_int])) (by rw [s3 _ _ upd_same, set_int]) (zip_bad (i := at'.toNat) hz (List.getElem?_set_self hi2) (by omega)) (fun _ => not_all hz rfl) (by rw [List.length_set]; omega) (fun w h => ?_)
      rcases List.mem_or_eq_of_mem_set h with h | h
      · exact hws w h
      · omega
    (repeat walk_at "rd")
    refine br_eby (fun hk3 => ?_) (fun hk3 => ?_)
    · (repeat walk_at "rd")
      refine rd_sl (sq_of e2) fun b2 H3 n3 s3 e3 => ?_
      rw [cutV_last] at e3
      (repeat walk_at "rd")
      intro p H4 n4 s4 e4
      refine q p a1 b2 H4 ws vs.dropLast ((sm.trans s3).trans s4) e4 (s4 _ _ (s3 _ _ e1')) (s4 _ _ e3) (okF_false (.inl (by rw [List.length_dropLast]; omega))) (by omega) (by omega) hws
    · (repeat walk_at "rd")
      intro t H3 n3 s3 e3
      (repeat walk_at "rd")
      refine rd_cat (s3 _ _ e2) e3 (by rw [List.length_map]; show vs.length + 1 ≤ _; omega) fun b2 H4 n4 s4 e4 => ?_
      (repeat walk_at "rd")
      intro p H5 n5 s5 e5
      refine q p a1 b2 H5 ws (vs ++ [0]) (((sm.trans s3).trans s4).trans s5) e5 (s5 _ _ (s4 _ _ (s3 _ _ e1'))) (by rw [s5 _ _ e4, List.map_append]; rfl) (okF_false (.inl (by rw [List.length_append, List.length_singleton]; omega))) (by omega) (by omega) hws
def sp_law (K : PySem.W.Frag) : Sp := fun vs H Q _ => ∃ (a : Addr) (ns : List Int), vs = [.ref a] ∧ SqL K H a (ns.map V.int) ∧ ns.length ≤ 63 ∧ ∀ H', Q (.bl true) H'
theorem dp_refused {K : PySem.W.Frag} {H : Hp} {p : Addr} (h : H p = some (.lst refused)) : Dp K H (.ref p) (.list [.str "refused", .bool true]) := .lst (sq_of h) (.cons (.str _) (.cons (.bl _) .nil))
theorem sh_refused : Sh 1 (.list [.str "refused", .bool true]) := sh_lst (sh_cons (sh_str (by decide +kernel)) (sh_cons sh_bl sh_nil))
theorem dp_pair {K : PySem.W.Frag} {H : Hp} {p x y : Addr} {us vs : List Int} (h : H p = some (.tup [.ref x, .ref y])) (hx : SqL K H x (us.map V.int)) (hy : SqL K H y (vs.map V.int)) : Dp K H (.ref p) (.tuple [.list (us.map PyData.int), .list (vs.map PyData.int)]) := .tup (st_of h) (.cons (dp_ints hx) (.cons (dp_ints hy) .nil))
theorem okF_snoc {ws vs : List Int} {i : Nat} {w v : Int} (h : ((ws.take i).zip vs).all okP = true) (hl : vs.length = i) (hw : ws[i]? = some w) (hp : 1 ≤ w ∧ 0 ≤ v ∧ v < 2 ^ w.toNat) : ((ws.take (i + 1)).zip (vs ++ [v])).all okP = true := by
  have hi := (List.getElem?_eq_some_iff.mp hw).1
  rw [take_snoc hw, List.zip_append (by rw [List.length_take]; omega), List.all_append, h]
  show (okP (w, v) && true) = true
  rw [okP_iff.mpr hp]
  rfl
@[irreducible] def ip_law (K : PySem.W.Frag) : Sp := sp_law K
theorem op_law {K : PySem.W.Frag} {vs : List V} {H : Hp} {Q : VK} {E : XK} (h : sp_law K vs H Q E) : ip_law K vs H Q E := by
  unfold ip_law
  exact h
theorem un_law {K : PySem.W.Frag} {vs : List V} {H : Hp} {Q : VK} {E : XK} (h : ip_law K vs H Q E) : sp_law K vs H Q E := by
  unfold ip_law at h
  exact h
theorem ok_law (T : Tx P w K mg base) : FnOk P w K mg base CX0 6 T.a_law T.d_law ["script"] (ip_law K) := by
  have G_u_law_tape := ok_u_law_tape T
  have G_u_law_bytes := ok_u_law_bytes T
  have G_u_law_packed := ok_u_law_packed T
  have G_u_law_spoiled := ok_u_law_spoiled T
  have G_u_law_at := ok_u_law_at T
  have G_field_bytes := ok_field_bytes T
  have G_u_law_unpacked := ok_u_law_unpacked T
  have G_u_law_two := ok_u_law_two T
  refine T.p_law.F.ok sc_law (fun vs H Q E h => ?_) (fun cdv A outer s H vs Q E hr h => ?_)
  · obtain ⟨a, ns, rfl, hS, hlen, q⟩ := un_law h
    rfl
  · obtain ⟨a, ns, rfl, hS, hlen, q⟩ := un_law h
    refine ⟨_, (pss_cons (ps_set (i := 1) sc_law.nd rfl (Or.inr rfl) (pe_call G_u_law_tape (hr.mono (by decide)) rfl T.p_u_law_tape.m T.p_u_law_tape.F.kp T.p_u_law_tape.b .nil pass0 (pa_cons (pv 0) pa_nil))) (pss_cons (ps_setLcR1 (i := 2) rfl sc_law.nd rfl rfl (sw_true rfl rfl rfl (by decide +kernel)) rfl T.n_range (pa_cons (pe_op op_modM (pe_call G_u_law_at (hr.mono (by decide)) rfl T.p_u_law_at.m T.p_u_law_at.F.kp T.p_u_law_at.b .nil pass0 (pa_cons (pv 1) (pa_cons pe_int pa_nil))) pe_int) pa_nil) (blkOk_by (own := [("k", 4)]) (N := ["script", "tape", "widths", "values", "k", "number", "due", "passed", "told", "data", "kept", "at", "kind", "wrong", "other"]) (sc := defScope S_law) (by decide +kernel)) (fun _ _ _ _ _ => (pg_name (i := 4) sc_law.nd rfl (Or.inl rfl))) (fun _ _ _ _ _ => (pe_op op_addM pe_int (pe_op op_modM (pe_call G_u_law_at (hr.mono (by decide)) rfl T.p_u_law_at.m T.p_u_law_at.F.kp T.p_u_law_at.b .nil pass0 (pa_cons (pv 1) (pa_cons (pe_op op_addM (pe_op op_mulM pe_int (pv 4)) pe_int) pa_nil))) pe_int)))) (pss_cons (ps_set (i := 3) sc_law.nd rfl (Or.inl rfl) (pe_lstM pa_nil)) (pss_cons (ps_forR1 PassesOwn.never rfl rfl T.n_range (pa_cons (pe_callB call_lenM (by rfl) T.n_len PySem.boot_len (pa_cons (pv 2) pa_nil)) pa_nil) (pg_name (i := 4) sc_law.nd rfl (Or.inl rfl)) (pss_cons (ps_set (i := 5) sc_law.nd rfl (Or.inl rfl) (pe_op op_addM (pe_op op_mulM (pe_call G_u_law_at (hr.mono (by decide)) rfl T.p_u_law_at.m T.p_u_law_at.F.kp T.p_u_law_at.b .nil pass0 (pa_cons (pv 1) (pa_cons (pe_op op_addM (pe_op op_mulM pe_int (pv 4)) pe_int) pa_nil))) pe_int) (pe_call G_u_law_at (hr.mono (by decide)) rfl T.p_u_law_at.m T.p_u_law_at.F.kp T.p_u_law_at.b .nil pass0 (pa_cons (pv 1) (pa_cons (pe_op op_addM (pe_op op_mulM pe_int (pv 4)) pe_int) pa_nil))))) (pss_cons (ps_ifM (pt_cmpR op_eq (pe_op op_modM (pe_call G_u_law_at (hr.mono (by decide)) rfl T.p_u_law_at.m T.p_u_law_at.F.kp T.p_u_law_at.b .nil pass0 (pa_cons (pv 1) (pa_cons pe_int pa_nil))) pe_int) pe_int (nomark _)) (pss_one (ps_set (i := 5) sc_law.nd rfl (Or.inl rfl) (pe_ix ix_listM (pe_lstM (pa_cons pe_int (pa_cons (pe_op op_subM (pe_call G_u_law_two (hr.mono (by decide)) rfl T.p_u_law_two.m T.p_u_law_two.F.kp T.p_u_law_two.b .nil pass0 (pa_cons (pe_ix ix_listM (pv 2) (pv 4) (fun _ _ => rfl)) pa_nil)) pe_int) (pa_cons (pe_call G_u_law_two (hr.mono (by decide)) rfl T.p_u_law_two.m T.p_u_law_two.F.kp T.p_u_law_two.b .nil pass0 (pa_cons (pe_op op_subM (pe_ix ix_listM (pv 2) (pv 4) (fun _ _ => rfl)) pe_int) pa_nil)) pa_nil)))) (pe_op op_modM (pv 5) pe_int) (fun _ _ => rfl)))) pss_nil) (pss_one (ps_expr (pe_app (pv 3) (pe_op op_modM (pe_callTy call_int1 (by rfl) T.n_int (by decide +kernel) (pa_cons (pv 5) pa_nil)) (pe_call G_u_law_two (hr.mono (by decide)) rfl T.p_u_law_two.m T.p_u_law_two.F.kp T.p_u_law_two.b .nil pass0 (pa_cons (pe_ix ix_listM (pv 2) (pv 4) (fun _ _ => rfl)) pa_nil))))))))) (pss_cons (ps_set (i := 6) sc_law.nd rfl (Or.inl rfl) (pe_call G_u_law_bytes (hr.mono (by decide)) rfl T.p_u_law_bytes.m T.p_u_law_bytes.F.kp T.p_u_law_bytes.b .nil pass0 (pa_cons (pv 2) (pa_cons (pv 3) pa_nil)))) (pss_cons (ps_set (i := 7) sc_law.nd rfl (Or.inl rfl) (pe_tupM (pa_cons (pe_callTy call_listM (by rfl) T.n_list (by decide +kernel) (pa_cons (pv 2) pa_nil)) (pa_cons (pe_callTy call_listM (by rfl) T.n_list (by decide +kernel) (pa_cons (pv 3) pa_nil)) pa_nil)))) (pss_cons (ps_set (i := 8) sc_law.nd rfl (Or.inl rfl) (pe_call G_u_law_packed (hr.mono (by decide)) rfl T.p_u_law_packed.m T.p_u_law_packed.F.kp T.p_u_law_packed.b .nil pass0 (pa_cons (pv 2) (pa_cons (pv 3) pa_nil)))) (pss_cons (ps_ifM (PW.pt (pw_orM (pt_cmpR (op_neDM hr.units) (pv 8) (pv 6) (nomark _)) (pw_orM (pt_cmpR (op_neDM hr.units) (pe_tupM (pa_cons (pv 2) (pa_cons (pv 3) pa_nil))) (pv 7) (nomark _)) (pw_or1 (pt_cmpR op_ne (pe_call G_field_bytes (hr.mono (by decide)) rfl T.p_field_bytes.m T.p_field_bytes.F.kp T.p_field_bytes.b .nil passL (pa_cons (pv 2) pa_nil)) (pe_callB call_lenM (by rfl) T.n_len PySem.boot_len (pa_cons (pv 6) pa_nil)) (nomark _)))))) (pss_one (ps_ret pe_bl)) pss_nil) (pss_cons (ps_set (i := 9) sc_law.nd rfl (Or.inl rfl) (pe_op op_catM (pv 6) (pe_lcR1 rfl sc_law.nd rfl T.n_range (pa_cons (pe_op op_modM (pe_call G_u_law_at (hr.mono (by decide)) rfl T.p_u_law_at.m T.p_u_law_at.F.kp T.p_u_law_at.b .nil pass0 (pa_cons (pv 1) (pa_cons pe_int pa_nil))) pe_int) pa_nil) (blkOk_by (own := [("k", 4)]) (N := ["script", "tape", "widths", "values", "k", "number", "due", "passed", "told", "data", "kept", "at", "kind", "wrong", "other"]) (sc := defScope S_law) (by decide +kernel)) (fun _ _ _ _ _ => (pg_name (i := 4) sc_law.nd rfl (Or.inl rfl))) (fun _ _ _ _ _ => (pe_op op_modM (pe_call G_u_law_at (hr.mono (by decide)) rfl T.p_u_law_at.m T.p_u_law_at.F.kp T.p_u_law_at.b .nil pass0 (pa_cons (pv 1) (pa_cons (pe_op op_addM pe_int (pv 4)) pa_nil))) pe_int))))) (pss_cons (ps_set (i := 10) sc_law.nd rfl (Or.inl rfl) (pe_callTy call_listM (by rfl) T.n_list (by decide +kernel) (pa_cons (pv 9) pa_nil))) (pss_cons (ps_ifM (PW.pt (pw_orM (pt_cmpR (op_neDM hr.units) (pe_call G_u_law_unpacked (hr.mono (by decide)) rfl T.p_u_law_unpacked.m T.p_u_law_unpacked.F.kp T.p_u_law_unpacked.b .nil pass0 (pa_cons (pv 2) (pa_cons (pv 9) pa_nil))) (pv 3) (nomark _)) (pw_or1 (pt_cmpR (op_neDM hr.units) (pv 9) (pv 10) (nomark _))))) (pss_one (ps_ret pe_bl)) pss_nil) (pss_cons (ps_ifM (PW.pt (pw_andM (pt_cmpR op_gtM (pe_callB call_lenM (by rfl) T.n_len PySem.boot_len (pa_cons (pv 2) pa_nil)) pe_int (nomark _)) (pw_and1 (pt_cmpR op_eq (pe_op op_modM (pe_call G_u_law_at (hr.mono (by decide)) rfl T.p_u_law_at.m T.p_u_law_at.F.kp T.p_u_law_at.b .nil pass0 (pa_cons (pv 1) (pa_cons pe_int pa_nil))) pe_int) pe_int (nomark _))))) (pss_cons (ps_set (i := 11) sc_law.nd rfl (Or.inl rfl) (pe_op op_modM (pe_call G_u_law_at (hr.mono (by decide)) rfl T.p_u_law_at.m T.p_u_law_at.F.kp T.p_u_law_at.b .nil pass0 (pa_cons (pv 1) (pa_cons pe_int pa_nil))) (pe_callB call_lenM (by rfl) T.n_len PySem.boot_len (pa_cons (pv 2) pa_nil)))) (pss_cons (ps_set (i := 12) sc_law.nd rfl (Or.inl rfl) (pe_op op_modM (pe_call G_u_law_at (hr.mono (by decide)) rfl T.p_u_law_at.m T.p_u_law_at.F.kp T.p_u_law_at.b .nil pass0 (pa_cons (pv 1) (pa_cons pe_int pa_nil))) pe_int)) (pss_cons (ps_ifM (pt_cmpR op_eq (pv 12) pe_int (nomark _)) (pss_one (ps_ret (pe_cmpR (op_eqDM hr.units) (pe_call G_u_law_unpacked (hr.mono (by decide)) rfl T.p_u_law_unpacked.m T.p_u_law_unpacked.F.kp T.p_u_law_unpacked.b .nil pass0 (pa_cons (pv 2) (pa_cons (pe_slice sl_listM (pv 6) po_none (po_some (pe_un un_neg pe_int))) pa_nil))) (pe_lstM (pa_cons pe_str (pa_cons pe_bl pa_nil))) (nomark _)))) pss_nil) (pss_cons (ps_asg (pe_call G_u_law_spoiled (hr.mono (by decide)) rfl T.p_u_law_spoiled.m T.p_u_law_spoiled.F.kp T.p_u_law_spoiled.b .nil pass0 (pa_cons (pv 2) (pa_cons (pv 3) (pa_cons (pv 12) (pa_cons (pv 11) pa_nil))))) (pg_tup rfl (pgs_cons (pg_name (i := 13) sc_law.nd rfl (Or.inl rfl)) (pgs_cons (pg_name (i := 14) sc_law.nd rfl (Or.inl rfl)) pgs_nil)))) (pss_cons (ps_ifM (pt_cmpR (op_neDM hr.units) (pe_call G_u_law_packed (hr.mono (by decide)) rfl T.p_u_law_packed.m T.p_u_law_packed.F.kp T.p_u_law_packed.b .nil pass0 (pa_cons (pv 13) (pa_cons (pv 14) pa_nil))) (pe_lstM (pa_cons pe_str (pa_cons pe_bl pa_nil))) (nomark _)) (pss_one (ps_ret pe_bl)) pss_nil) (pss_one (ps_ifM (PW.pt (pw_andM (pt_cmpR op_eq (pv 12) pe_int (nomark _)) (pw_and1 (pt_cmpR (op_neDM hr.units) (pe_call G_u_law_unpacked (hr.mono (by decide)) rfl T.p_u_law_unpacked.m T.p_u_law_unpacked.F.kp T.p_u_law_unpacked.b .nil pass0 (pa_cons (pv 13) (pa_cons (pv 9) pa_nil))) (pe_lstM (pa_cons pe_str (pa_cons pe_bl pa_nil))) (nomark _))))) (pss_one (ps_ret pe_bl)) pss_nil))))))) pss_nil) (pss_one (ps_ret pe_bl)))))))))))))), ?_⟩
    (repeat walk_at "rd")
    refine op_u_law_tape ⟨a, ns, rfl, hS, hlen, fun ts hts tp H1 n1 s1 e1 => ?_⟩
    (repeat walk_at "rd")
    refine rd_lcR1 ?_
    (repeat walk_at "rd")
    refine op_u_law_at ⟨tp, ts, _, rfl, (by walk_at "sq"), hts, by decide, fun x0 a0 b0 _ => ?_⟩
    (repeat walk_at "rd")
    refine ⟨x0 % 13, fun i => .int (1 + ts.getD (3 * i + 4) 0 % 20), rfl, ⟨by omega, by omega⟩, fun i hi H' s' => ?_, fun wp H2 n2 s2 e2 => ?_⟩
    · (repeat walk_at "rd")
      refine op_u_law_at ⟨tp, ts, _, rfl, (s'.seq (sq_of e1)), hts, by omega, fun x a1 b1 ex => ?_⟩
      (repeat walk_at "rd")
      refine ⟨?_, Same.refl _⟩
      rw [ex]
      have e : (3 * (i : Int) + 4).toNat = 3 * i + 4 := by omega
      rw [e]
    have hws : ∃ ws : List Int, (List.range (x0 % 13).toNat).map (fun i => V.int (1 + ts.getD (3 * i + 4) 0 % 20)) = ws.map V.int ∧ ws.length ≤ 12 ∧ ∀ w ∈ ws, 1 ≤ w ∧ w ≤ 20 := by
      refine ⟨(List.range (x0 % 13).toNat).map (fun i => 1 + ts.getD (3 * i + 4) 0 % 20), by rw [List.map_map]; rfl, by rw [List.length_map, List.length_range]; omega, fun w hw => ?_⟩
      obtain ⟨k, _, rfl⟩ := List.mem_map.mp hw
      have := tape_get hts (3 * k + 4)
      omega
    obtain ⟨ws, ews, hwl, hw⟩ := hws
    rw [ews] at e2
    (repeat walk_at "rd")
    intro vp H3 n3 s3 e3
    refine rd_forR1 ?_
    (repeat walk_at "rd")
    have hT3 : SqL K H3 tp (ts.map V.int) := sq_of (s3 _ _ (s2 _ _ e1))
    have hW3 : SqL K H3 wp (ws.map V.int) := sq_of (s3 _ _ e2)
    refine ⟨_, fun i σ H' => Stop (Same H2 H' ∧ (∃ xs : List Int, xs.length = i ∧ H' vp = some (.lst (xs.map V.int)) ∧ ((ws.take i).zip xs).all okP = true) ∧ ∃ y0 y1 y2 y3 y4 y5 y6 y7 y8 y9 y10, σ = [some (.ref a), some (.ref tp), some (.ref wp), some (.ref vp), y0, y1, y2, y3, y4, y5, y6, y7, y8, y9, y10]), rfl, ⟨by omega, by omega⟩, .a ⟨s3, ⟨[], rfl, e3, rfl⟩, _, _, _, _, _, _, _, _, _, _, _, rfl⟩, fun i σ' H' hi p => ?_, fun σ' H' p => ?_⟩
    · obtain ⟨sm, ⟨xs, hxl, ex, hxs⟩, y0, y1, y2, y3, y4, y5, y6, y7, y8, y9, y10, rfl⟩ := p.un
      have hT : SqL K H' tp (ts.map V.int) := sq_of (sm _ _ (s2 _ _ e1))
      have hW : SqL K H' wp (ws.map V.int) := sq_of (sm _ _ e2)
      have hi1 : i < ws.length := by omega
      have hwi : ws[i]? = some ws[i] := List.getElem?_eq_getElem hi1
      have g1 : ws.getD ((i : Nat) : Int).toNat 0 = ws[i] := by rw [Int.toNat_natCast, List.getD_eq_getElem?_getD, hwi]; rfl
      have hb := hw ws[i] (List.getElem_mem hi1)
      have fin : ∀ (H4 : Hp) (z : Int), Same H' H4 → H4 vp = some (.lst (xs.map V.int)) → ∀ σ : L2.St, (∃ y0 y1 y2 y3 y4 y5 y6 y7 y8 y9 y10, σ = [some (.ref a), some (.ref tp), some (.ref wp), some (.ref vp), y0, y1, y2, y3, y4, y5, y6, y7, y8, y9, y10]) →
          Stop (Same H2 (upd H4 vp (.lst (xs.map V.int ++ [.int (z % 2 ^ (ws[i]).toNat)]))) ∧ (∃ us : List Int, us.length = i + 1 ∧ upd H4 vp (.lst (xs.map V.int ++ [.int (z % 2 ^ (ws[i]).toNat)])) vp = some (.lst (us.map V.int)) ∧ ((ws.take (i + 1)).zip us).all okP = true) ∧ ∃ y0 y1 y2 y3 y4 y5 y6 y7 y8 y9 y10, σ = [some (.ref a), some (.ref tp), some (.ref wp), some (.ref vp), y0, y1, y2, y3, y4, y5, y6, y7, y8, y9, y10]) := fun H4 z s4 e4 σ hσ => by
        refine .a ⟨same_mut (sm.trans s4) n3, ⟨xs ++ [z % 2 ^ (ws[i]).toNat], by rw [List.length_append, List.length_singleton, hxl], by rw [upd_same, List.map_append]; rfl, okF_snoc hxs hxl hwi ⟨by omega, Int.emod_nonneg _ (Int.ne_of_gt (pow_nn _)), Int.emod_lt_of_pos _ (pow_nn _)⟩⟩, hσ⟩
      (repeat walk_at "rd")
      refine op_u_law_at ⟨tp, ts, _, rfl, hT, hts, by omega, fun z1 a1 b1 _ => ?_⟩
      (repeat walk_at "rd")
      refine op_u_law_at ⟨tp, ts, _, rfl, hT, hts, by omega, fun z2 a2 b2 _ => ?_⟩
      (repeat walk_at "rd")
      refine op_u_law_at ⟨tp, ts, _, rfl, hT, hts, by omega, fun z3 a3 b3 _ => ?_⟩
      (repeat walk_at "rd")
      refine br_eby (fun h => ?_) (fun h => ?_)
      · (repeat walk_at "rd")
        refine rd_ixI hW (by omega) (by omega) ?_
        rw [g1]
        (repeat walk_at "rd")
        refine op_u_law_two ⟨_, rfl, by omega, by omega, ?_⟩
        (repeat walk_at "rd")
        refine rd_ixI hW (by omega) (by omega) ?_
        rw [g1]
        (repeat walk_at "rd")
        refine op_u_law_two ⟨_, rfl, by omega, by omega, ?_⟩
        (repeat walk_at "rd")
        intro q1 H5 n5 s5 e5
        (repeat walk_at "rd")
        have ht : ∃ z : Int, atI [V.int 0, V.int (2 ^ (ws[i]).toNat - 1), V.int (2 ^ (ws[i] - 1).toNat)] ((z1 * 1000 + z2) % 3) = some (.int z) := by
          have h3 : (z1 * 1000 + z2) % 3 = 0 ∨ (z1 * 1000 + z2) % 3 = 1 ∨ (z1 * 1000 + z2) % 3 = 2 := by omega
          rcases h3 with e | e | e <;> rw [e]
          · exact ⟨_, rfl⟩
          · exact ⟨_, rfl⟩
          · exact ⟨_, rfl⟩
        obtain ⟨z, hz⟩ := ht
        refine rd_ixL (sq_of e5) hz ?_
        (repeat walk_at "rd")
        refine rd_ixI (s5.seq hW) (by omega) (by omega) ?_
        rw [g1]
        (repeat walk_at "rd")
        refine op_u_law_two ⟨_, rfl, by omega, by omega, ?_⟩
        (repeat walk_at "rd")
        refine ⟨pow_nn _, ?_⟩
        (repeat walk_at "rd")
        refine rd_app (s5 _ _ ex) (by rw [List.length_map]; omega) ?_
        exact fin H5 z s5 (s5 _ _ ex) _ ⟨_, _, _, _, _, _, _, _, _, _, _, rfl⟩
      · (repeat walk_at "rd")
        refine rd_ixI hW (by omega) (by omega) ?_
        rw [g1]
        (repeat walk_at "rd")
        refine op_u_law_two ⟨_, rfl, by omega, by omega, ?_⟩
        (repeat walk_at "rd")
        refine ⟨pow_nn _, ?_⟩
        (repeat walk_at "rd")
        refine rd_app ex (by rw [List.length_map]; omega) ?_
        exact fin H' _ (Same.refl _) ex _ ⟨_, _, _, _, _, _, _, _, _, _, _, rfl⟩
    · obtain ⟨sm, ⟨xs, hxl, ex, hxs⟩, y0, y1, y2, y3, y4, y5, y6, y7, y8, y9, y10, rfl⟩ := p.un
      have hxl2 : xs.length = ws.length := by omega
      rw [show ((ws.length : Nat) : Int).toNat = ws.length by omega, List.take_length] at hxs
      have hok : okF ws xs = true := by
        unfold okF
        rw [decide_eq_true hxl2.symm, hxs]
        rfl
      have hT : SqL K H' tp (ts.map V.int) := sq_of (sm _ _ (s2 _ _ e1))
      have hW : SqL K H' wp (ws.map V.int) := sq_of (sm _ _ e2)
      have hX : SqL K H' vp (xs.map V.int) := sq_of ex
      have hw29 : ∀ w ∈ ws, 0 ≤ w ∧ w ≤ 29 := fun w h => by have := hw w h; omega
      have hw1000 : ∀ w ∈ ws, w ≤ 1000 := fun w h => by have := hw w h; omega
      have hpb : ∀ d ∈ packF ws xs, 0 ≤ d ∧ d < 256 := fun d h => by
        unfold packF bytesOf at h
        obtain ⟨k, _, rfl⟩ := List.mem_map.mp h
        exact byteAt_bound _ _ _
      have hsum := sum_le hw1000
      have hpl : ((packF ws xs).length : Int) = sizeF ws := by
        have e : (packF ws xs).length = (sizeF ws).toNat := bytesOf_length _ _
        have h0 : 0 ≤ ws.sum := sum_nn fun w h => by have := hw w h; omega
        rw [e]
        unfold sizeF
        omega
      (repeat walk_at "rd")
      refine op_u_law_bytes ⟨wp, vp, ws, xs, rfl, hW, hX, hxl2.symm, by omega, hw29, fun dp H4 n4 s4 e4 => ?_⟩
      rw [law_is_pack hok] at e4
      (repeat walk_at "rd")
      refine rd_list (s4.seq hW) fun c1 H5 n5 s5 e5 => ?_
      (repeat walk_at "rd")
      refine rd_list (s5.seq (s4.seq hX)) fun c2 H6 n6 s6 e6 => ?_
      (repeat walk_at "rd")
      intro c3 H7 n7 s7 e7
      have s57 : Same H4 H7 := (s5.trans s6).trans s7
      (repeat walk_at "rd")
      refine op_u_law_packed ⟨wp, vp, ws, xs, rfl, s57.seq (s4.seq hW), s57.seq (s4.seq hX), by omega, hw1000, fun _ p8 H8 n8 s8 e8 => ?_, fun h => by rw [hok] at h; cases h⟩
      (repeat walk_at "rd")
      refine rd_neS _ (dp_ints (sq_of e8)) (dp_ints (sq_of (s8 _ _ (s57 _ _ e4)))) (sh_lst (sh_ints (n := 0) _)) ?_
      (repeat walk_at "rd")
      intro c9 H9 n9 s9 e9
      have s89 : Same H7 H9 := s8.trans s9
      have s49 : Same H4 H9 := s57.trans s89
      (repeat walk_at "rd")
      refine rd_neS _ (dp_pair e9 (s49.seq (s4.seq hW)) (s49.seq (s4.seq hX))) (dp_pair (s89 _ _ e7) (sq_of (s89 _ _ (s7 _ _ (s6 _ _ e5)))) (sq_of (s89 _ _ (s7 _ _ e6)))) (sh_tup (sh_cons (sh_lst (sh_ints (n := 0) _)) (sh_cons (sh_lst (sh_ints (n := 0) _)) sh_nil))) ?_
      (repeat walk_at "rd")
      refine op_field_bytes ⟨wp, ws, rfl, s49.seq (s4.seq hW), fun _ => ?_, fun h => by rw [okF_wok hok] at h; cases h⟩
      (repeat walk_at "rd")
      refine br_ni (by omega) ?_
      (repeat walk_at "rd")
      refine rd_lcR1 ?_
      (repeat walk_at "rd")
      refine op_u_law_at ⟨tp, ts, _, rfl, s49.seq (s4.seq hT), hts, by decide, fun y2 a2 b2 _ => ?_⟩
      (repeat walk_at "rd")
      refine ⟨y2 % 4, fun i => .int (ts.getD (50 + i) 0 % 256), rfl, ⟨by omega, by omega⟩, fun i hi H' s' => ?_, fun gp H10 n10 s10 e10 => ?_⟩
      · (repeat walk_at "rd")
        refine op_u_law_at ⟨tp, ts, _, rfl, s'.seq (s49.seq (s4.seq hT)), hts, by omega, fun x a1 b1 ex => ?_⟩
        (repeat walk_at "rd")
        refine ⟨?_, Same.refl _⟩
        rw [ex]
        have e : (50 + (i : Int)).toNat = 50 + i := by omega
        rw [e]
      have hgs : ∃ gs : List Int, (List.range (y2 % 4).toNat).map (fun i => V.int (ts.getD (50 + i) 0 % 256)) = gs.map V.int ∧ gs.length ≤ 3 ∧ ∀ g ∈ gs, 0 ≤ g ∧ g < 256 := by
        refine ⟨(List.range (y2 % 4).toNat).map (fun i => ts.getD (50 + i) 0 % 256), by rw [List.map_map]; rfl, by rw [List.length_map, List.length_range]; omega, fun w hw => ?_⟩
        obtain ⟨k, _, rfl⟩ := List.mem_map.mp hw
        omega
      obtain ⟨gs, egs, hgl, hg⟩ := hgs
      rw [egs] at e10
      have hszb : sizeF ws ≤ 1501 := by unfold sizeF; omega
      refine rd_cat (s10 _ _ (s49 _ _ e4)) e10 (by rw [List.length_map, List.length_map]; omega) fun ap H11 n11 s11 e11 => ?_
      rw [← List.map_append] at e11
      have hdat : ∀ d ∈ packF ws xs ++ gs, 0 ≤ d ∧ d < 256 := fun d h => by
        rcases List.mem_append.mp h with h | h
        · exact hpb d h
        · exact hg d h
      (repeat walk_at "rd")
      refine rd_list (sq_of e11) fun kp H12 n12 s12 e12 => ?_
      (repeat walk_at "rd")
      have s412 : Same H4 H12 := ((s49.trans s10).trans s11).trans s12
      have hW12 : SqL K H12 wp (ws.map V.int) := s412.seq (s4.seq hW)
      have hX12 : SqL K H12 vp (xs.map V.int) := s412.seq (s4.seq hX)
      have hD12 : SqL K H12 ap ((packF ws xs ++ gs).map V.int) := sq_of (s12 _ _ e11)
      have huo : unpOk ws (packF ws xs ++ gs) = true := by
        unfold unpOk
        rw [okF_wok hok, List.length_append, decide_eq_true (by omega)]
        rfl
      refine op_u_law_unpacked ⟨wp, ap, ws, _, rfl, hW12, hD12, by omega, hw1000, hdat, fun _ rp H13 n13 s13 e13 => ?_, fun h => by rw [huo] at h; cases h⟩
      rw [unp_pack hok] at e13
      (repeat walk_at "rd")
      refine rd_neS _ (dp_ints (sq_of e13)) (dp_ints (s13.seq hX12)) (sh_lst (sh_ints (n := 0) _)) ?_
      (repeat walk_at "rd")
      refine rd_neS _ (dp_ints (s13.seq hD12)) (dp_ints (sq_of (s13 _ _ e12))) (sh_lst (sh_ints (n := 0) _)) ?_
      (repeat walk_at "rd")
      have hW13 := s13.seq hW12
      have hX13 := s13.seq hX12
      have hD13 := s13.seq hD12
      have hT13 : SqL K H13 tp (ts.map V.int) := s13.seq (s412.seq (s4.seq hT))
      have e413 : H13 dp = some (.lst ((packF ws xs).map V.int)) := s13 _ _ (s412 _ _ e4)
      refine br_by (fun hpos => ?_) (fun hpos => ?_)
      rotate_left
      · (repeat walk_at "rd")
        exact q _
      (repeat walk_at "rd")
      refine op_u_law_at ⟨tp, ts, _, rfl, hT13, hts, by decide, fun z1 a1 b1 _ => ?_⟩
      (repeat walk_at "rd")
      refine br_eby (fun h => ?_) (fun h => ?_)
      rotate_left
      · (repeat walk_at "rd")
        exact q _
      (repeat walk_at "rd")
      refine op_u_law_at ⟨tp, ts, _, rfl, hT13, hts, by decide, fun z3 a3 b3 _ => ?_⟩
      (repeat walk_at "rd")
      refine op_u_law_at ⟨tp, ts, _, rfl, hT13, hts, by decide, fun z2 a2 b2 _ => ?_⟩
      have hat : 0 ≤ z3 % (ws.length : Int) ∧ z3 % (ws.length : Int) < (ws.length : Int) := ⟨Int.emod_nonneg _ (by omega), Int.emod_lt_of_pos _ hpos⟩
      (repeat walk_at "rd")
      refine br_eby (fun hk => ?_) (fun hk => ?_)
      · (repeat walk_at "rd")
        refine rd_sl (sq_of e413) fun lp H14 n14 s14 e14 => ?_
        rw [cutV_last] at e14
        (repeat walk_at "rd")
        have hbad : unpOk ws (packF ws xs).dropLast = false := by
          unfold unpOk
          rw [List.length_dropLast, decide_eq_false (by
            have h1 : 1 ≤ sizeF ws := by
              have h2 : 0 < ws.length := by omega
              cases ws with
              | nil => cases h2
              | cons w r =>
                unfold sizeF
                rw [List.sum_cons]
                have := hw w List.mem_cons_self
                have : 0 ≤ r.sum := sum_nn fun x hx => by have := hw x (List.mem_cons_of_mem _ hx); omega
                omega
            omega), Bool.and_false]
        refine op_u_law_unpacked ⟨wp, lp, ws, _, rfl, s14.seq hW13, sq_of e14, by omega, hw1000, fun d h => hpb d (by rw [List.dropLast_eq_take] at h; exact List.mem_of_mem_take h), (fun h => by rw [hbad] at h; cases h), fun _ rp2 H15 n15 s15 e15 => ?_⟩
        (repeat walk_at "rd")
        intro cp H16 n16 s16 e16
        refine rd_eqS _ (dp_refused (s16 _ _ e15)) (dp_refused e16) sh_refused ?_
        exact q _
      (repeat walk_at "rd")
      refine op_u_law_spoiled ⟨wp, vp, ws, xs, _, _, rfl, hW13, hX13, hok, by omega, fun w h => by have := hw w h; omega, ⟨by omega, by omega⟩, hat, fun pp wp2 xp2 H14 us zs s14 e14 eu ez hbad hbad2 hul huw => ?_⟩
      (repeat walk_at "rd")
      refine ⟨pp, _, rfl, st_of e14, rfl, ?_⟩
      (repeat walk_at "rd")
      refine ⟨_, _, rfl, ?_⟩
      refine ⟨_, _, rfl, ?_⟩
      (repeat walk_at "rd")
      refine op_u_law_packed ⟨wp2, xp2, us, zs, rfl, sq_of eu, sq_of ez, hul, huw, (fun h => by rw [hbad] at h; cases h), fun _ p15 H15 n15 s15 e15 => ?_⟩
      (repeat walk_at "rd")
      intro c16 H16 n16 s16 e16
      refine rd_neS _ (dp_refused (s16 _ _ e15)) (dp_refused e16) sh_refused ?_
      (repeat walk_at "rd")
      refine br_eby (fun hk2 => ?_) (fun hk2 => ?_)
      rotate_left
      · (repeat walk_at "rd")
        exact q _
      (repeat walk_at "rd")
      have s1416 : Same H14 H16 := s15.trans s16
      have hbu : unpOk us (packF ws xs ++ gs) = false := by
        unfold unpOk
        rw [hbad2 hk2]
        rfl
      refine op_u_law_unpacked ⟨wp2, ap, us, _, rfl, s1416.seq (sq_of eu), s1416.seq (s14.seq hD13), hul, huw, hdat, (fun h => by rw [hbu] at h; cases h), fun _ p17 H17 n17 s17 e17 => ?_⟩
      (repeat walk_at "rd")
      intro c18 H18 n18 s18 e18
      refine rd_neS _ (dp_refused (s18 _ _ e17)) (dp_refused e18) sh_refused ?_
      (repeat walk_at "rd")
      exact q _
end
end My
namespace My
open PySem L2
theorem all_mk {P : Program} {w : World} {K : PySem.W.Frag} {h : Heap} {mg : Str → Option Value} {fa : Addr} (X : K.In h) (G : h.Ns mainGlobals mg) (hfa : mg "law" = some (.ref fa))
    {C_BearerError : Addr}
    {C_NotValid : Addr}
    {f_BearerError___init : Addr} {od_BearerError___init an_BearerError___init : Option Addr} {sl_BearerError___init : Array (Option Value)} {oc_BearerError___init kV_BearerError___init dc_BearerError___init pm_BearerError___init cd_BearerError___init ct_BearerError___init : Value}
    {f_field_bytes : Addr} {od_field_bytes an_field_bytes : Option Addr} {sl_field_bytes : Array (Option Value)} {oc_field_bytes kV_field_bytes dc_field_bytes pm_field_bytes cd_field_bytes ct_field_bytes : Value}
    {f_pack : Addr} {od_pack an_pack : Option Addr} {sl_pack : Array (Option Value)} {oc_pack kV_pack dc_pack pm_pack cd_pack ct_pack : Value}
    {f_unpack : Addr} {od_unpack an_unpack : Option Addr} {sl_unpack : Array (Option Value)} {oc_unpack kV_unpack dc_unpack pm_unpack cd_unpack ct_unpack : Value}
    {f_u_law_two : Addr} {od_u_law_two an_u_law_two : Option Addr} {sl_u_law_two : Array (Option Value)} {oc_u_law_two kV_u_law_two dc_u_law_two pm_u_law_two cd_u_law_two ct_u_law_two : Value}
    {f_u_law_tape : Addr} {od_u_law_tape an_u_law_tape : Option Addr} {sl_u_law_tape : Array (Option Value)} {oc_u_law_tape kV_u_law_tape dc_u_law_tape pm_u_law_tape cd_u_law_tape ct_u_law_tape : Value}
    {f_u_law_at : Addr} {od_u_law_at an_u_law_at : Option Addr} {sl_u_law_at : Array (Option Value)} {oc_u_law_at kV_u_law_at dc_u_law_at pm_u_law_at cd_u_law_at ct_u_law_at : Value}
    {f_u_law_bits : Addr} {od_u_law_bits an_u_law_bits : Option Addr} {sl_u_law_bits : Array (Option Value)} {oc_u_law_bits kV_u_law_bits dc_u_law_bits pm_u_law_bits cd_u_law_bits ct_u_law_bits : Value}
    {f_u_law_bytes : Addr} {od_u_law_bytes an_u_law_bytes : Option Addr} {sl_u_law_bytes : Array (Option Value)} {oc_u_law_bytes kV_u_law_bytes dc_u_law_bytes pm_u_law_bytes cd_u_law_bytes ct_u_law_bytes : Value}
    {f_u_law_packed : Addr} {od_u_law_packed an_u_law_packed : Option Addr} {sl_u_law_packed : Array (Option Value)} {oc_u_law_packed kV_u_law_packed dc_u_law_packed pm_u_law_packed cd_u_law_packed ct_u_law_packed : Value}
    {f_u_law_unpacked : Addr} {od_u_law_unpacked an_u_law_unpacked : Option Addr} {sl_u_law_unpacked : Array (Option Value)} {oc_u_law_unpacked kV_u_law_unpacked dc_u_law_unpacked pm_u_law_unpacked cd_u_law_unpacked ct_u_law_unpacked : Value}
    {f_u_law_spoiled : Addr} {od_u_law_spoiled an_u_law_spoiled : Option Addr} {sl_u_law_spoiled : Array (Option Value)} {oc_u_law_spoiled kV_u_law_spoiled dc_u_law_spoiled pm_u_law_spoiled cd_u_law_spoiled ct_u_law_spoiled : Value}
    {f_law : Addr} {od_law an_law : Option Addr} {sl_law : Array (Option Value)} {oc_law kV_law dc_law pm_law cd_law ct_law : Value}
    {nm_BearerError q_BearerError : Str} {N_BearerError : Addr} {bs_BearerError bm_BearerError : List Value} {sn_BearerError : List Str} {sub_BearerError : List Value} {ab_BearerError : Bool} {col_BearerError : Option Bool} {dd_BearerError : Option Addr} {m0_BearerError m1_BearerError m2_BearerError m3_BearerError m5_BearerError : Option Value}
    {nm_NotValid q_NotValid : Str} {N_NotValid : Addr} {bs_NotValid bm_NotValid : List Value} {sn_NotValid : List Str} {sub_NotValid : List Value} {ab_NotValid : Bool} {col_NotValid : Option Bool} {dd_NotValid : Option Addr} {m0_NotValid m1_NotValid m2_NotValid m3_NotValid m5_NotValid : Option Value}
    (z_len : PySem.W.nsIn K mainGlobals "len" = some none)
    (z_range : PySem.W.nsIn K mainGlobals "range" = some none)
    (z_abs : PySem.W.nsIn K mainGlobals "abs" = some none)
    (z_int : PySem.W.nsIn K mainGlobals "int" = some none)
    (z_sum : PySem.W.nsIn K mainGlobals "sum" = some none)
    (z_zip : PySem.W.nsIn K mainGlobals "zip" = some none)
    (z_isinstance : PySem.W.nsIn K mainGlobals "isinstance" = some none)
    (z_list : PySem.W.nsIn K mainGlobals "list" = some none)
    (z_BearerError : PySem.W.nsIn K mainGlobals "BearerError" = some (some (.ref C_BearerError)))
    (z_NotValid : PySem.W.nsIn K mainGlobals "NotValid" = some (some (.ref C_NotValid)))
    (a_BearerError___init : PySem.W.findIn K (.ref C_BearerError) "__init__" = some (some (.ref f_BearerError___init)))
    (i_BearerError___init : PySem.W.isFn K (.ref f_BearerError___init) = true)
    (l_BearerError___init : K.lookup f_BearerError___init = some ⟨oc_BearerError___init, od_BearerError___init, .func (PySem.W.fnOf "__init__" "BearerError.__init__" (defArgs S_BearerError___init) (defBody S_BearerError___init) (defScope S_BearerError___init) .none kV_BearerError___init dc_BearerError___init pm_BearerError___init an_BearerError___init cd_BearerError___init ct_BearerError___init), sl_BearerError___init⟩)
    (c_BearerError___init : PySem.W.codeIn K cd_BearerError___init "BearerError.__init__" = true)
    (k_BearerError___init : PySem.W.keepIn K (.ref f_BearerError___init) = true)
    (a_field_bytes : PySem.W.nsIn K mainGlobals "field_bytes" = some (some (.ref f_field_bytes)))
    (l_field_bytes : K.lookup f_field_bytes = some ⟨oc_field_bytes, od_field_bytes, .func (PySem.W.fnOf "field_bytes" "field_bytes" (defArgs S_field_bytes) (defBody S_field_bytes) (defScope S_field_bytes) .none kV_field_bytes dc_field_bytes pm_field_bytes an_field_bytes cd_field_bytes ct_field_bytes), sl_field_bytes⟩)
    (c_field_bytes : PySem.W.codeIn K cd_field_bytes "field_bytes" = true)
    (k_field_bytes : PySem.W.keepIn K (.ref f_field_bytes) = true)
    (a_pack : PySem.W.nsIn K mainGlobals "pack" = some (some (.ref f_pack)))
    (l_pack : K.lookup f_pack = some ⟨oc_pack, od_pack, .func (PySem.W.fnOf "pack" "pack" (defArgs S_pack) (defBody S_pack) (defScope S_pack) .none kV_pack dc_pack pm_pack an_pack cd_pack ct_pack), sl_pack⟩)
    (c_pack : PySem.W.codeIn K cd_pack "pack" = true)
    (k_pack : PySem.W.keepIn K (.ref f_pack) = true)
    (a_unpack : PySem.W.nsIn K mainGlobals "unpack" = some (some (.ref f_unpack)))
    (l_unpack : K.lookup f_unpack = some ⟨oc_unpack, od_unpack, .func (PySem.W.fnOf "unpack" "unpack" (defArgs S_unpack) (defBody S_unpack) (defScope S_unpack) .none kV_unpack dc_unpack pm_unpack an_unpack cd_unpack ct_unpack), sl_unpack⟩)
    (c_unpack : PySem.W.codeIn K cd_unpack "unpack" = true)
    (k_unpack : PySem.W.keepIn K (.ref f_unpack) = true)
    (a_u_law_two : PySem.W.nsIn K mainGlobals "_law_two" = some (some (.ref f_u_law_two)))
    (l_u_law_two : K.lookup f_u_law_two = some ⟨oc_u_law_two, od_u_law_two, .func (PySem.W.fnOf "_law_two" "_law_two" (defArgs S_u_law_two) (defBody S_u_law_two) (defScope S_u_law_two) .none kV_u_law_two dc_u_law_two pm_u_law_two an_u_law_two cd_u_law_two ct_u_law_two), sl_u_law_two⟩)
    (c_u_law_two : PySem.W.codeIn K cd_u_law_two "_law_two" = true)
    (k_u_law_two : PySem.W.keepIn K (.ref f_u_law_two) = true)
    (a_u_law_tape : PySem.W.nsIn K mainGlobals "_law_tape" = some (some (.ref f_u_law_tape)))
    (l_u_law_tape : K.lookup f_u_law_tape = some ⟨oc_u_law_tape, od_u_law_tape, .func (PySem.W.fnOf "_law_tape" "_law_tape" (defArgs S_u_law_tape) (defBody S_u_law_tape) (defScope S_u_law_tape) .none kV_u_law_tape dc_u_law_tape pm_u_law_tape an_u_law_tape cd_u_law_tape ct_u_law_tape), sl_u_law_tape⟩)
    (c_u_law_tape : PySem.W.codeIn K cd_u_law_tape "_law_tape" = true)
    (k_u_law_tape : PySem.W.keepIn K (.ref f_u_law_tape) = true)
    (a_u_law_at : PySem.W.nsIn K mainGlobals "_law_at" = some (some (.ref f_u_law_at)))
    (l_u_law_at : K.lookup f_u_law_at = some ⟨oc_u_law_at, od_u_law_at, .func (PySem.W.fnOf "_law_at" "_law_at" (defArgs S_u_law_at) (defBody S_u_law_at) (defScope S_u_law_at) .none kV_u_law_at dc_u_law_at pm_u_law_at an_u_law_at cd_u_law_at ct_u_law_at), sl_u_law_at⟩)
    (c_u_law_at : PySem.W.codeIn K cd_u_law_at "_law_at" = true)
    (k_u_law_at : PySem.W.keepIn K (.ref f_u_law_at) = true)
    (a_u_law_bits : PySem.W.nsIn K mainGlobals "_law_bits" = some (some (.ref f_u_law_bits)))
    (l_u_law_bits : K.lookup f_u_law_bits = some ⟨oc_u_law_bits, od_u_law_bits, .func (PySem.W.fnOf "_law_bits" "_law_bits" (defArgs S_u_law_bits) (defBody S_u_law_bits) (defScope S_u_law_bits) .none kV_u_law_bits dc_u_law_bits pm_u_law_bits an_u_law_bits cd_u_law_bits ct_u_law_bits), sl_u_law_bits⟩)
    (c_u_law_bits : PySem.W.codeIn K cd_u_law_bits "_law_bits" = true)
    (k_u_law_bits : PySem.W.keepIn K (.ref f_u_law_bits) = true)
    (a_u_law_bytes : PySem.W.nsIn K mainGlobals "_law_bytes" = some (some (.ref f_u_law_bytes)))
    (l_u_law_bytes : K.lookup f_u_law_bytes = some ⟨oc_u_law_bytes, od_u_law_bytes, .func (PySem.W.fnOf "_law_bytes" "_law_bytes" (defArgs S_u_law_bytes) (defBody S_u_law_bytes) (defScope S_u_law_bytes) .none kV_u_law_bytes dc_u_law_bytes pm_u_law_bytes an_u_law_bytes cd_u_law_bytes ct_u_law_bytes), sl_u_law_bytes⟩)
    (c_u_law_bytes : PySem.W.codeIn K cd_u_law_bytes "_law_bytes" = true)
    (k_u_law_bytes : PySem.W.keepIn K (.ref f_u_law_bytes) = true)
    (a_u_law_packed : PySem.W.nsIn K mainGlobals "_law_packed" = some (some (.ref f_u_law_packed)))
    (l_u_law_packed : K.lookup f_u_law_packed = some ⟨oc_u_law_packed, od_u_law_packed, .func (PySem.W.fnOf "_law_packed" "_law_packed" (defArgs S_u_law_packed) (defBody S_u_law_packed) (defScope S_u_law_packed) .none kV_u_law_packed dc_u_law_packed pm_u_law_packed an_u_law_packed cd_u_law_packed ct_u_law_packed), sl_u_law_packed⟩)
    (c_u_law_packed : PySem.W.codeIn K cd_u_law_packed "_law_packed" = true)
    (k_u_law_packed : PySem.W.keepIn K (.ref f_u_law_packed) = true)
    (a_u_law_unpacked : PySem.W.nsIn K mainGlobals "_law_unpacked" = some (some (.ref f_u_law_unpacked)))
    (l_u_law_unpacked : K.lookup f_u_law_unpacked = some ⟨oc_u_law_unpacked, od_u_law_unpacked, .func (PySem.W.fnOf "_law_unpacked" "_law_unpacked" (defArgs S_u_law_unpacked) (defBody S_u_law_unpacked) (defScope S_u_law_unpacked) .none kV_u_law_unpacked dc_u_law_unpacked pm_u_law_unpacked an_u_law_unpacked cd_u_law_unpacked ct_u_law_unpacked), sl_u_law_unpacked⟩)
    (c_u_law_unpacked : PySem.W.codeIn K cd_u_law_unpacked "_law_unpacked" = true)
    (k_u_law_unpacked : PySem.W.keepIn K (.ref f_u_law_unpacked) = true)
    (a_u_law_spoiled : PySem.W.nsIn K mainGlobals "_law_spoiled" = some (some (.ref f_u_law_spoiled)))
    (l_u_law_spoiled : K.lookup f_u_law_spoiled = some ⟨oc_u_law_spoiled, od_u_law_spoiled, .func (PySem.W.fnOf "_law_spoiled" "_law_spoiled" (defArgs S_u_law_spoiled) (defBody S_u_law_spoiled) (defScope S_u_law_spoiled) .none kV_u_law_spoiled dc_u_law_spoiled pm_u_law_spoiled an_u_law_spoiled cd_u_law_spoiled ct_u_law_spoiled), sl_u_law_spoiled⟩)
    (c_u_law_spoiled : PySem.W.codeIn K cd_u_law_spoiled "_law_spoiled" = true)
    (k_u_law_spoiled : PySem.W.keepIn K (.ref f_u_law_spoiled) = true)
    (a_law : PySem.W.nsIn K mainGlobals "law" = some (some (.ref f_law)))
    (l_law : K.lookup f_law = some ⟨oc_law, od_law, .func (PySem.W.fnOf "law" "law" (defArgs S_law) (defBody S_law) (defScope S_law) .none kV_law dc_law pm_law an_law cd_law ct_law), sl_law⟩)
    (c_law : PySem.W.codeIn K cd_law "law" = true)
    (k_law : PySem.W.keepIn K (.ref f_law) = true)
    (xL_BearerError : K.lookup C_BearerError = some (excClassObj nm_BearerError q_BearerError C_BearerError N_BearerError bs_BearerError bm_BearerError true sn_BearerError sub_BearerError ab_BearerError col_BearerError dd_BearerError m0_BearerError m1_BearerError m2_BearerError m3_BearerError m5_BearerError "ValueError.__new__"))
    (xB_BearerError : PySem.HandSPX.refsVE bm_BearerError = true)
    (sa_BearerError : PySem.W.findIn K (.ref C_BearerError) "__setattr__" = some (some (.builtin "object.__setattr__")))
    (ex_BearerError : PySem.W.subIn K (.ref C_BearerError) (.type "BaseException") = some true)
    (ty_BearerError : PySem.W.typeIn K (.ref C_BearerError) = some (.type "type"))
    (kC_BearerError : PySem.W.keepIn K (.ref C_BearerError) = true)
    (ii_BearerError : PySem.W.findIn K (.ref C_BearerError) "__init__" = some (some (.ref f_BearerError___init)))
    (ti_BearerError : PySem.W.typeIn K (.ref f_BearerError___init) = some (.type "function"))
    (ga_BearerError : PySem.W.findIn K (.ref C_BearerError) "__getattribute__" = some (some (.builtin "BaseException.__getattribute__")))
    (gg_BearerError : PySem.W.findIn K (.ref C_BearerError) "__getattr__" = some none)
    (hd_BearerError : PySem.W.hasDictIn K C_BearerError = true)
    (hc_BearerError : PySem.W.findIn K (.ref C_BearerError) "__class__" = some (some (.builtin "object.__class__")))
    (mo_BearerError : PySem.W.mroIn K C_BearerError (.type "object") = some true)
    (ic_BearerError : PySem.W.isClsIn K C_BearerError = true)
    (sb_BearerError_BearerError : PySem.W.subIn K (.ref C_BearerError) (.ref C_BearerError) = some true)
    (sb_BearerError_NotValid : PySem.W.subIn K (.ref C_BearerError) (.ref C_NotValid) = some false)
    (xL_NotValid : K.lookup C_NotValid = some (excClassObj nm_NotValid q_NotValid C_NotValid N_NotValid bs_NotValid bm_NotValid true sn_NotValid sub_NotValid ab_NotValid col_NotValid dd_NotValid m0_NotValid m1_NotValid m2_NotValid m3_NotValid m5_NotValid "ValueError.__new__"))
    (xB_NotValid : PySem.HandSPX.refsVE bm_NotValid = true)
    (sa_NotValid : PySem.W.findIn K (.ref C_NotValid) "__setattr__" = some (some (.builtin "object.__setattr__")))
    (ex_NotValid : PySem.W.subIn K (.ref C_NotValid) (.type "BaseException") = some true)
    (ty_NotValid : PySem.W.typeIn K (.ref C_NotValid) = some (.type "type"))
    (kC_NotValid : PySem.W.keepIn K (.ref C_NotValid) = true)
    (ii_NotValid : PySem.W.findIn K (.ref C_NotValid) "__init__" = some (some (.ref f_BearerError___init)))
    (ti_NotValid : PySem.W.typeIn K (.ref f_BearerError___init) = some (.type "function"))
    (ga_NotValid : PySem.W.findIn K (.ref C_NotValid) "__getattribute__" = some (some (.builtin "BaseException.__getattribute__")))
    (gg_NotValid : PySem.W.findIn K (.ref C_NotValid) "__getattr__" = some none)
    (hd_NotValid : PySem.W.hasDictIn K C_NotValid = true)
    (hc_NotValid : PySem.W.findIn K (.ref C_NotValid) "__class__" = some (some (.builtin "object.__class__")))
    (mo_NotValid : PySem.W.mroIn K C_NotValid (.type "object") = some true)
    (ic_NotValid : PySem.W.isClsIn K C_NotValid = true)
    (sb_NotValid_BearerError : PySem.W.subIn K (.ref C_NotValid) (.ref C_BearerError) = some true)
    (sb_NotValid_NotValid : PySem.W.subIn K (.ref C_NotValid) (.ref C_NotValid) = some true)
    (sn_get : PySem.W.specialIn K (.builtin "object.__class__") "__get__" = some (some (.builtin "getset_descriptor.__get__")))
    (tk_get : PySem.W.takesIn K (.builtin "object.__class__") = some true)
    : ∃ fd : FuncData, (∀ (s : Shared) (v : Value), BindsTo s fd ⟨[v], []⟩ [("script", v)]) ∧ ∀ base : Heap, K.In base → base.Ns mainGlobals mg → FnOk P w K mg base CX0 6 fa fd ["script"] (ip_law K) := by
  have e := hfa.symm.trans (PySem.W.mg_of X G a_law)
  cases e
  have F_BearerError___init := fun_mk (st := S_BearerError___init) l_BearerError___init c_BearerError___init k_BearerError___init
  have b_BearerError___init := F_BearerError___init.binds (ps := ["self"]) fun _ _ _ _ _ _ us hl => match us, hl with | [_], _ => rfl
  have F_field_bytes := fun_mk (st := S_field_bytes) l_field_bytes c_field_bytes k_field_bytes
  have b_field_bytes := F_field_bytes.binds (ps := ["widths"]) fun _ _ _ _ _ _ us hl => match us, hl with | [_], _ => rfl
  have F_pack := fun_mk (st := S_pack) l_pack c_pack k_pack
  have b_pack := F_pack.binds (ps := ["widths", "values"]) fun _ _ _ _ _ _ us hl => match us, hl with | [_, _], _ => rfl
  have F_unpack := fun_mk (st := S_unpack) l_unpack c_unpack k_unpack
  have b_unpack := F_unpack.binds (ps := ["widths", "data"]) fun _ _ _ _ _ _ us hl => match us, hl with | [_, _], _ => rfl
  have F_u_law_two := fun_mk (st := S_u_law_two) l_u_law_two c_u_law_two k_u_law_two
  have b_u_law_two := F_u_law_two.binds (ps := ["many"]) fun _ _ _ _ _ _ us hl => match us, hl with | [_], _ => rfl
  have F_u_law_tape := fun_mk (st := S_u_law_tape) l_u_law_tape c_u_law_tape k_u_law_tape
  have b_u_law_tape := F_u_law_tape.binds (ps := ["script"]) fun _ _ _ _ _ _ us hl => match us, hl with | [_], _ => rfl
  have F_u_law_at := fun_mk (st := S_u_law_at) l_u_law_at c_u_law_at k_u_law_at
  have b_u_law_at := F_u_law_at.binds (ps := ["tape", "k"]) fun _ _ _ _ _ _ us hl => match us, hl with | [_, _], _ => rfl
  have F_u_law_bits := fun_mk (st := S_u_law_bits) l_u_law_bits c_u_law_bits k_u_law_bits
  have b_u_law_bits := F_u_law_bits.binds (ps := ["width", "value"]) fun _ _ _ _ _ _ us hl => match us, hl with | [_, _], _ => rfl
  have F_u_law_bytes := fun_mk (st := S_u_law_bytes) l_u_law_bytes c_u_law_bytes k_u_law_bytes
  have b_u_law_bytes := F_u_law_bytes.binds (ps := ["widths", "values"]) fun _ _ _ _ _ _ us hl => match us, hl with | [_, _], _ => rfl
  have F_u_law_packed := fun_mk (st := S_u_law_packed) l_u_law_packed c_u_law_packed k_u_law_packed
  have b_u_law_packed := F_u_law_packed.binds (ps := ["widths", "values"]) fun _ _ _ _ _ _ us hl => match us, hl with | [_, _], _ => rfl
  have F_u_law_unpacked := fun_mk (st := S_u_law_unpacked) l_u_law_unpacked c_u_law_unpacked k_u_law_unpacked
  have b_u_law_unpacked := F_u_law_unpacked.binds (ps := ["widths", "data"]) fun _ _ _ _ _ _ us hl => match us, hl with | [_, _], _ => rfl
  have F_u_law_spoiled := fun_mk (st := S_u_law_spoiled) l_u_law_spoiled c_u_law_spoiled k_u_law_spoiled
  have b_u_law_spoiled := F_u_law_spoiled.binds (ps := ["widths", "values", "kind", "at"]) fun _ _ _ _ _ _ us hl => match us, hl with | [_, _, _, _], _ => rfl
  have F_law := fun_mk (st := S_law) l_law c_law k_law
  have b_law := F_law.binds (ps := ["script"]) fun _ _ _ _ _ _ us hl => match us, hl with | [_], _ => rfl
  refine ⟨PySem.W.fnOf "law" "law" (defArgs S_law) (defBody S_law) (defScope S_law) .none kV_law dc_law pm_law an_law cd_law ct_law, fun s v => .of_eq rfl, fun base _ _ => ?_⟩
  exact ok_law (T := ({
      n_len := PySem.W.mg_none_of X G z_len,
      n_range := PySem.W.mg_none_of X G z_range,
      n_abs := PySem.W.mg_none_of X G z_abs,
      n_int := PySem.W.mg_none_of X G z_int,
      n_sum := PySem.W.mg_none_of X G z_sum,
      n_zip := PySem.W.mg_none_of X G z_zip,
      n_isinstance := PySem.W.mg_none_of X G z_isinstance,
      n_list := PySem.W.mg_none_of X G z_list,
      C_BearerError := C_BearerError,
      g_BearerError := PySem.W.mg_of X G z_BearerError,
      C_NotValid := C_NotValid,
      g_NotValid := PySem.W.mg_of X G z_NotValid,
      a_BearerError___init := _,
      d_BearerError___init := _,
      p_BearerError___init := ⟨F_BearerError___init, b_BearerError___init⟩,
      a_field_bytes := _,
      d_field_bytes := _,
      p_field_bytes := ⟨F_field_bytes, b_field_bytes, PySem.W.mg_of X G a_field_bytes⟩,
      a_pack := _,
      d_pack := _,
      p_pack := ⟨F_pack, b_pack, PySem.W.mg_of X G a_pack⟩,
      a_unpack := _,
      d_unpack := _,
      p_unpack := ⟨F_unpack, b_unpack, PySem.W.mg_of X G a_unpack⟩,
      a_u_law_two := _,
      d_u_law_two := _,
      p_u_law_two := ⟨F_u_law_two, b_u_law_two, PySem.W.mg_of X G a_u_law_two⟩,
      a_u_law_tape := _,
      d_u_law_tape := _,
      p_u_law_tape := ⟨F_u_law_tape, b_u_law_tape, PySem.W.mg_of X G a_u_law_tape⟩,
      a_u_law_at := _,
      d_u_law_at := _,
      p_u_law_at := ⟨F_u_law_at, b_u_law_at, PySem.W.mg_of X G a_u_law_at⟩,
      a_u_law_bits := _,
      d_u_law_bits := _,
      p_u_law_bits := ⟨F_u_law_bits, b_u_law_bits, PySem.W.mg_of X G a_u_law_bits⟩,
      a_u_law_bytes := _,
      d_u_law_bytes := _,
      p_u_law_bytes := ⟨F_u_law_bytes, b_u_law_bytes, PySem.W.mg_of X G a_u_law_bytes⟩,
      a_u_law_packed := _,
      d_u_law_packed := _,
      p_u_law_packed := ⟨F_u_law_packed, b_u_law_packed, PySem.W.mg_of X G a_u_law_packed⟩,
      a_u_law_unpacked := _,
      d_u_law_unpacked := _,
      p_u_law_unpacked := ⟨F_u_law_unpacked, b_u_law_unpacked, PySem.W.mg_of X G a_u_law_unpacked⟩,
      a_u_law_spoiled := _,
      d_u_law_spoiled := _,
      p_u_law_spoiled := ⟨F_u_law_spoiled, b_u_law_spoiled, PySem.W.mg_of X G a_u_law_spoiled⟩,
      a_law := _,
      d_law := _,
      p_law := ⟨F_law, b_law, PySem.W.mg_of X G a_law⟩,
      o_BearerError := ⟨⟨nm_BearerError, q_BearerError, N_BearerError, bs_BearerError, bm_BearerError, sn_BearerError, sub_BearerError, ab_BearerError, col_BearerError, dd_BearerError, m0_BearerError, m1_BearerError, m2_BearerError, m3_BearerError, m5_BearerError, xL_BearerError, xB_BearerError⟩, sa_BearerError, ex_BearerError, ty_BearerError, kC_BearerError⟩,
      i_BearerError := ii_BearerError,
      t_BearerError := ti_BearerError,
      e_BearerError := ⟨ga_BearerError, gg_BearerError, ex_BearerError, hd_BearerError, hc_BearerError, sn_get, tk_get, mo_BearerError⟩,
      s_BearerError_BearerError := sb_BearerError_BearerError,
      s_BearerError_NotValid := sb_BearerError_NotValid,
      y_BearerError := ty_BearerError,
      l_BearerError := ic_BearerError,
      o_NotValid := ⟨⟨nm_NotValid, q_NotValid, N_NotValid, bs_NotValid, bm_NotValid, sn_NotValid, sub_NotValid, ab_NotValid, col_NotValid, dd_NotValid, m0_NotValid, m1_NotValid, m2_NotValid, m3_NotValid, m5_NotValid, xL_NotValid, xB_NotValid⟩, sa_NotValid, ex_NotValid, ty_NotValid, kC_NotValid⟩,
      i_NotValid := ii_NotValid,
      t_NotValid := ti_NotValid,
      e_NotValid := ⟨ga_NotValid, gg_NotValid, ex_NotValid, hd_NotValid, hc_NotValid, sn_get, tk_get, mo_NotValid⟩,
      s_NotValid_BearerError := sb_NotValid_BearerError,
      s_NotValid_NotValid := sb_NotValid_NotValid,
      y_NotValid := ty_NotValid,
      l_NotValid := ic_NotValid
    } : Tx P w K mg base))
theorem walk {l : PySem.W.OpenLaw} {q : Program} {loose : List Str} {XP : (Str → Option Value) → Heap → Prop} {YP : World → Heap → Prop} {d : DefRec} {K : Params → PySem.W.Frag} (hn : l.most = some 63) (hdf : d.params.defaults = [])
    (hY : ∀ (w : World) (h : Heap), YP w h → (K w.params).In h)
    (F : ∀ (w : World) (mg : Str → Option Value) (fa : Addr) (h : Heap), (K w.params).In h → h.Ns mainGlobals mg → mg d.name = some (.ref fa) →
      ∃ fd : FuncData, (∀ (s : Shared) (u : Value), BindsTo s fd ⟨[u], []⟩ [("script", u)]) ∧ ∀ base : Heap, (K w.params).In base → base.Ns mainGlobals mg → FnOk l.prog w (K w.params) mg base CX0 6 fa fd ["script"] (ip_law (K w.params))) :
    PySem.W.WalkO q loose XP YP l.row.toRowW d [] (fun f vs => PySem.call f vs) :=
  L2.walk_of (n := 63) (k := 6) (x := "script") (CX := fun _ => CX0) (sp := fun w => ip_law (K w.params)) hn (by decide) hdf ⟨rfl, by decide, by decide⟩ hY F (fun _ _ a ns hl _ hS => op_law ⟨a, ns, rfl, hS, hl, fun _ => rfl⟩) fun _ _ _ _ _ z => z
end My
open PySem PySem.W PyProof.Rows
set_option maxRecDepth 100000 in
set_option maxHeartbeats 0 in
theorem PySem.Challenge.cw_bearerwise_k01_fields_holds : PySem.Challenge.rw_bearerwise_k01_fields.Holds := by
  w_on; o_law; k_head; (case hw => w_witness2)
  k_fill
  refine My.walk (l := PySem.Challenge.rw_bearerwise_k01_fields) rfl rfl (fun w h Y => PySem.W.kIn_of Y) ?F
  case F =>
    intro w mg fa h KX G hmg
    refine' My.all_mk KX G hmg ?z_len ?z_range ?z_abs ?z_int ?z_sum ?z_zip ?z_isinstance ?z_list ?z_BearerError ?z_NotValid ?a_BearerError___init ?i_BearerError___init ?l_BearerError___init ?c_BearerError___init ?k_BearerError___init ?a_field_bytes ?l_field_bytes ?c_field_bytes ?k_field_bytes ?a_pack ?l_pack ?c_pack ?k_pack ?a_unpack ?l_unpack ?c_unpack ?k_unpack ?a_u_law_two ?l_u_law_two ?c_u_law_two ?k_u_law_two ?a_u_law_tape ?l_u_law_tape ?c_u_law_tape ?k_u_law_tape ?a_u_law_at ?l_u_law_at ?c_u_law_at ?k_u_law_at ?a_u_law_bits ?l_u_law_bits ?c_u_law_bits ?k_u_law_bits ?a_u_law_bytes ?l_u_law_bytes ?c_u_law_bytes ?k_u_law_bytes ?a_u_law_packed ?l_u_law_packed ?c_u_law_packed ?k_u_law_packed ?a_u_law_unpacked ?l_u_law_unpacked ?c_u_law_unpacked ?k_u_law_unpacked ?a_u_law_spoiled ?l_u_law_spoiled ?c_u_law_spoiled ?k_u_law_spoiled ?a_law ?l_law ?c_law ?k_law ?xL_BearerError ?xB_BearerError ?sa_BearerError ?ex_BearerError ?ty_BearerError ?kC_BearerError ?ii_BearerError ?ti_BearerError ?ga_BearerError ?gg_BearerError ?hd_BearerError ?hc_BearerError ?mo_BearerError ?ic_BearerError ?sb_BearerError_BearerError ?sb_BearerError_NotValid ?xL_NotValid ?xB_NotValid ?sa_NotValid ?ex_NotValid ?ty_NotValid ?kC_NotValid ?ii_NotValid ?ti_NotValid ?ga_NotValid ?gg_NotValid ?hd_NotValid ?hc_NotValid ?mo_NotValid ?ic_NotValid ?sb_NotValid_BearerError ?sb_NotValid_NotValid ?sn_get ?tk_get
    (case z_len => k_is)
    (case z_range => k_is)
    (case z_abs => k_is)
    (case z_int => k_is)
    (case z_sum => k_is)
    (case z_zip => k_is)
    (case z_isinstance => k_is)
    (case z_list => k_is)
    (case z_BearerError => k_is)
    (case z_NotValid => k_is)
    (case a_BearerError___init => k_is)
    (case i_BearerError___init => k_is)
    (case l_BearerError___init => k_is)
    (case c_BearerError___init => k_is)
    (case k_BearerError___init => k_is)
    (case a_field_bytes => k_is)
    (case l_field_bytes => k_is)
    (case c_field_bytes => k_is)
    (case k_field_bytes => k_is)
    (case a_pack => k_is)
    (case l_pack => k_is)
    (case c_pack => k_is)
    (case k_pack => k_is)
    (case a_unpack => k_is)
    (case l_unpack => k_is)
    (case c_unpack => k_is)
    (case k_unpack => k_is)
    (case a_u_law_two => k_is)
    (case l_u_law_two => k_is)
    (case c_u_law_two => k_is)
    (case k_u_law_two => k_is)
    (case a_u_law_tape => k_is)
    (case l_u_law_tape => k_is)
    (case c_u_law_tape => k_is)
    (case k_u_law_tape => k_is)
    (case a_u_law_at => k_is)
    (case l_u_law_at => k_is)
    (case c_u_law_at => k_is)
    (case k_u_law_at => k_is)
    (case a_u_law_bits => k_is)
    (case l_u_law_bits => k_is)
    (case c_u_law_bits => k_is)
    (case k_u_law_bits => k_is)
    (case a_u_law_bytes => k_is)
    (case l_u_law_bytes => k_is)
    (case c_u_law_bytes => k_is)
    (case k_u_law_bytes => k_is)
    (case a_u_law_packed => k_is)
    (case l_u_law_packed => k_is)
    (case c_u_law_packed => k_is)
    (case k_u_law_packed => k_is)
    (case a_u_law_unpacked => k_is)
    (case l_u_law_unpacked => k_is)
    (case c_u_law_unpacked => k_is)
    (case k_u_law_unpacked => k_is)
    (case a_u_law_spoiled => k_is)
    (case l_u_law_spoiled => k_is)
    (case c_u_law_spoiled => k_is)
    (case k_u_law_spoiled => k_is)
    (case a_law => k_is)
    (case l_law => k_is)
    (case c_law => k_is)
    (case k_law => k_is)
    (case xL_BearerError => k_is)
    (case xB_BearerError => decide +kernel)
    (case sa_BearerError => k_is)
    (case ex_BearerError => k_is)
    (case ty_BearerError => k_is)
    (case kC_BearerError => k_is)
    (case ii_BearerError => k_is)
    (case ti_BearerError => k_is)
    (case ga_BearerError => k_is)
    (case gg_BearerError => k_is)
    (case hd_BearerError => k_is)
    (case hc_BearerError => k_is)
    (case mo_BearerError => k_is)
    (case ic_BearerError => k_is)
    (case sb_BearerError_BearerError => first | rfl | k_is)
    (case sb_BearerError_NotValid => first | rfl | k_is)
    (case xL_NotValid => k_is)
    (case xB_NotValid => decide +kernel)
    (case sa_NotValid => k_is)
    (case ex_NotValid => k_is)
    (case ty_NotValid => k_is)
    (case kC_NotValid => k_is)
    (case ii_NotValid => k_is)
    (case ti_NotValid => k_is)
    (case ga_NotValid => k_is)
    (case gg_NotValid => k_is)
    (case hd_NotValid => k_is)
    (case hc_NotValid => k_is)
    (case mo_NotValid => k_is)
    (case ic_NotValid => k_is)
    (case sb_NotValid_BearerError => first | rfl | k_is)
    (case sb_NotValid_NotValid => first | rfl | k_is)
    (case sn_get => k_is)
    (case tk_get => k_is)
