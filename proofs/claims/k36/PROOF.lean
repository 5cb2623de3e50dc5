import PyProof.Rows.All
import Wide.All
import OpenK.AllK
import Wide.FinOn
import HandS.ForMost
import HandS.ForExc
import HandS.IsInst
import HandS.ExcIs
import HandS.ExcInit
import HandS.Wide
import HandS.WideBits
import HandS.Zip
import HandS.Flow
import HandS.Flt
import HandS.Walk
import HandS.More
import HandS.Deep
import HandS.SetKeys
import HandS.SortKw
import HandS.Conv
import KE.KDictWalk
import HandS.Style
import HandS.SortInts
import HandS.DictComp
import HandS.SortRule
import HandS.Iter
import PySem.Challenge.RW_bearerwise_k36_senders_that_have_a_piece
set_option Elab.async false
set_option linter.all false
set_option maxRecDepth 100000
set_option maxHeartbeats 4000000
namespace My
open PySem L2

/-! ### a def as the top has left it -/
structure DefAt (K : PySem.W.Frag) (mg : Str → Option Value) (x q : Str) (st : Stmt) (ps : List Str) (f : Addr) (fd : FuncData) : Prop where
  F : Fun K x q st f fd
  b : Binds K fd ps []
  m : mg x = some (.ref f)
structure MethAt (K : PySem.W.Frag) (C : Addr) (x q : Str) (st : Stmt) (ps : List Str) (f : Addr) (fd : FuncData) : Prop where
  F : Fun K x q st f fd
  b : Binds K fd ps []
  me : Meth K C x f

structure DefAt0 (K : PySem.W.Frag) (x q : Str) (st : Stmt) (ps : List Str) (f : Addr) (fd : FuncData) : Prop where
  F : Fun K x q st f fd
  b : Binds K fd ps []
structure ClsAt (K : PySem.W.Frag) (C f : Addr) : Prop where
  cl : Cls K C
  mk' : Mk K C f

/-! ### heaps -/
theorem same_upd {H : Hp} {p : Addr} {o : HO} (h : H p = none) : Same H (upd H p o) := fun b x e => by
  rw [upd_ne (ne_of_none e h)]
  exact e
theorem same_none {H H' : Hp} {p : Addr} (s : Same H H') (h : H' p = none) : H p = none := by
  cases e : H p with
  | none => rfl
  | some o =>
    rw [s _ _ e] at h
    cases h
/-- an object that H does not know may change -/
theorem same_mut {H H' : Hp} {p : Addr} {o : HO} (e : Same H H') (h : H p = none) : Same H (upd H' p o) := fun b x hb => by
  rw [upd_ne (ne_of_none hb h)]
  exact e b x hb
theorem sq_of {K : PySem.W.Frag} {H : Hp} {a : Addr} {xs : List V} (h : H a = some (.lst xs)) : SqL K H a xs := Or.inl (Or.inl h)
theorem st_of {K : PySem.W.Frag} {H : Hp} {a : Addr} {xs : List V} (h : H a = some (.tup xs)) : SqT K H a xs := Or.inl (Or.inl h)
theorem Same.sqt {K : PySem.W.Frag} {H H' : Hp} {a : Addr} {xs : List V} (e : Same H H') (h : SqT K H a xs) : SqT K H' a xs := by
  rcases h with (h | ⟨o, h⟩) | h
  · exact .inl (.inl (e _ _ h))
  · exact .inl (.inr ⟨o, e _ _ h⟩)
  · exact .inr h
theorem hp_step {H H' : Hp} {a : Addr} {o : HO} (h : H a = some o) (s : Same H H') : H' a = some o := s _ _ h
theorem sq_step {K : PySem.W.Frag} {H H' : Hp} {a : Addr} {xs : List V} (h : SqL K H a xs) (s : Same H H') : SqL K H' a xs := s.seq h
theorem sqt_step {K : PySem.W.Frag} {H H' : Hp} {a : Addr} {xs : List V} (h : SqT K H a xs) (s : Same H H') : SqT K H' a xs := Same.sqt s h
theorem sz {n : Nat} (h : n ≤ 1000000) : n ≤ sizeLine := Nat.le_trans h (by rw [sizeLine_eq]; decide)
theorem szl {n : Nat} (h : n < 1000000) : n < sizeLine := Nat.lt_of_lt_of_le h (by rw [sizeLine_eq]; decide)

/-- the promises' shapes: a value and the heap as it was; a value; a new list -/
def RV (v : V) (H : Hp) (Q : VK) : Prop := ∀ H', Same H H' → Q v H'
def RL (xs : List V) (H : Hp) (Q : VK) : Prop := ∀ p H', H p = none → Same H H' → H' p = some (.lst xs) → Q (.ref p) H'
def RT (xs : List V) (H : Hp) (Q : VK) : Prop := ∀ p H', H p = none → Same H H' → H' p = some (.tup xs) → Q (.ref p) H'

/-! ### stops for the walk: a proposition that no tuple opens -/
inductive Stop (p : Prop) : Prop where
  | a (h : p) : Stop p
  | b (h : p) : Stop p
theorem Stop.un {p : Prop} (h : Stop p) : p := by cases h <;> assumption

/-! ### an exception of an own class whose __init__ takes nothing and stores nothing: X() -/
def spInit0 : Sp := fun vs H Q _ => ∃ a, vs = [.ref a] ∧ Q .non H
structure PlainExc (P : Program) (w : World) (K : PySem.W.Frag) (mg : Str → Option Value) (base : Heap) (x : Str) (C fI : Addr) (fdI : FuncData) : Prop where
  T : OexC K C
  iC : PySem.W.findIn K (.ref C) "__init__" = some (some (.ref fI))
  tI : PySem.W.typeIn K (.ref fI) = some (.type "function")
  F1 : FnOk P w K mg base CX0 1 fI fdI ["self"] spInit0
  bI : Binds K fdI ["self"] []
  m : mg x = some (.ref C)
open PySem.Spec PyProof.Rows in
theorem mk_endN {X : Cx} {pins : List (Addr × Obj)} {σ : L2.St} {H1 : Hp} {Q : XK} {hp hp2 h2 : Heap} {g1 g2 : Array GenState} {d1 d2 : Drawn} {t1 t2 : Nat} {os1 os2 : OsState} {a C : Addr} (T : Raises X (.ref C)) (I1 : Inv X pins σ H1 ⟨hp, g1, d1, t1, os1⟩)
    (ha : hp.objs.size ≤ a) (k : ∀ b o, hp.get? b = some o → hp2.get? b = some o) (un : Un (frs X.stack) [] (upd H1 a (exo a C none)) (upd H1 a (exo a C none)) hp2 h2) (hok : HOk X.prog X.w (upd H1 a (exo a C none)) h2) (ho : os2 = os1) (hb : AllBare g2)
    (q : Q (.ref C) none H1) : MkP X pins σ Q (.ref a) ⟨h2, g2, d2, t2, os2⟩ := by
  obtain ⟨t0, hoe⟩ := exo_at hok upd_same
  have hn : H1 a = none := I1.hok.fresh ha
  obtain ⟨G, g1', g2'⟩ := restrict h2 fun b => decide (b ≠ a)
  have gk : ∀ b, b ≠ a → G.get? b = h2.get? b := fun b hb => g1' b (decide_eq_true hb)
  have ge : G.get? a = none := g2' a (by simp)
  have nha : ∀ {b : Addr} {o : Obj}, hp.get? b = some o → b ≠ a := fun {b o} z => Nat.ne_of_lt (Nat.lt_of_lt_of_le (Heap.lt_size z) ha)
  have up : ∀ {b : Addr}, b ≠ a → H1 b = none → upd H1 a (exo a C none) b = none := fun {b} hb n => by rw [upd_ne hb]; exact n
  have U : Un (frs X.stack) [] H1 H1 hp G := {
    keep := fun b o z n hf hx => by
      rw [gk b (nha z)]
      exact un.keep b o (k b o z) (up (nha z) n) hf hx
    slot := fun b o z n hf hx => by
      rw [gk b (nha z)]
      exact un.slot b o (k b o z) (up (nha z) n) hf hx
    free := fun b o z n hx => n
    there := fun b o z hx => by
      rw [gk b (nha z)]
      exact un.there b o (k b o z) hx
    tups := fun b xs z => z
    frzs := fun b o v z => z
    tbls := fun b ps z => ⟨#[], by rw [z]; simp⟩ }
  have hok3 : HOk X.prog X.w H1 G := fun b o z => by
    have hba : b ≠ a := fun e => by
      rw [e, hn] at z
      cases z
    have z2 : upd H1 a (exo a C none) b = some o := by rw [upd_ne hba]; exact z
    have noa : ∀ {c : Addr} {u : HO}, H1 c = some u → c ≠ a := fun {c u} hc e => by
      rw [e, hn] at hc
      cases hc
    exact (hok b o z2).stay (fun c v hc y => by
        have hca : c ≠ a := by
          rcases hc with hc | hc
          · rw [hc]
            exact hba
          · exact fun e => by
              rw [e, upd_same] at hc
              exact exo_own (Option.some.inj hc)
        rw [gk c hca]
        exact y)
      (fun c hc => by
        by_cases e : c = a
        · rw [e, upd_same] at hc
          exact absurd (Option.some.inj hc) exo_own
        · rw [upd_ne e] at hc
          exact hc)
      (fun c xs hc => by
        by_cases e : c = a
        · rw [e, upd_same] at hc
          exact absurd (Option.some.inj hc) exo_tup
        · rw [upd_ne e] at hc
          exact hc)
  have J : Inv X pins σ H1 ⟨G, g2, d2, t2, os2⟩ := I1.call' (ch := []) ho U hok3 hb (fun b z => absurd z (by simp))
  refine ⟨a, _, _, ⟨G, g2, d2, t2, os2⟩, _, .ref C, none, rfl, J, fun b o z => ?_, ge, hoe, ⟨rfl, rfl⟩, rfl, rfl, hn, rfl, hb, T, q⟩
  by_cases hba : b = a
  · rw [hba, ge] at z
    cases z
  · exact (gk b hba).symm.trans z
open PySem.Spec PyProof.Rows in
theorem pmk_plain {X : Cx} {x : Str} {C fI : Addr} {fdI : FuncData} {p pos : Pos} (T : PlainExc X.prog X.w X.K X.mg X.base x C fI fdI) (hr : Room 2 X.A) (hg : Gl X x) (hdb : (x == ("__debug__" : Str)) = false := by decide) :
    PMk X (.Call (.Name x p) [] [] pos) (fun _ H Q => Q (.ref C) none H) := by
  intro pins s σ H Q I h
  obtain ⟨nm, q, N, bs, bm, sn, sub, ab, col, dd, k0, k1, k2, k3, k5, hC, hbm⟩ := T.T.cls
  refine wpAny_Call_Name_kw (ld_glob I hg T.m ?_ hdb)
  refine PySem.W.callWith_K0 I.kIn T.T.kC ?_
  show wpAny _ _ (call (.ref C) []) _ _ _
  obtain ⟨hp, g, dr, tk, os⟩ := s
  have hsz : hp.objs.size ≤ hp.objs.size + 1 := Nat.le_succ _
  have hn : H (hp.objs.size + 1) = none := I.hok.fresh hsz
  have kk : ∀ b o, hp.get? b = some o → ((hp.push (PySem.W.kdv_tup [])).push (PySem.HandSPX.excO C hp.objs.size)).get? b = some o := fun b o e => Heap.get?_push_of_some _ (Heap.get?_push_of_some _ e)
  have hget : ((hp.push (PySem.W.kdv_tup [])).push (PySem.HandSPX.excO C hp.objs.size)).get? (hp.objs.size + 1) = some (PySem.HandSPX.excO C hp.objs.size) := by heap_get
  have I2 : Inv X pins σ (upd H (hp.objs.size + 1) (exo (hp.objs.size + 1) C none)) ⟨(hp.push (PySem.W.kdv_tup [])).push (PySem.HandSPX.excO C hp.objs.size), g, dr, tk, os⟩ :=
    I.laid (t' := tk) (a := hp.objs.size + 1) (o := exo (hp.objs.size + 1) C none) (h' := (hp.push (PySem.W.kdv_tup [])).push (PySem.HandSPX.excO C hp.objs.size)) kk hsz (exo_ok hget)
  have r2 : Vals [V.ref (hp.objs.size + 1)] [Value.ref (hp.objs.size + 1)] := .cons rfl .nil
  have hq : spInit0 [V.ref (hp.objs.size + 1)] (upd H (hp.objs.size + 1) (exo (hp.objs.size + 1) C none)) (fun v H2 => v = .non ∧ H2 = upd H (hp.objs.size + 1) (exo (hp.objs.size + 1) C none)) (fun _ _ _ => False) := ⟨_, rfl, rfl, rfl⟩
  refine wpAny_call (PySem.HandSPX.call_own PySem.F.excBase_ValueError (fun Y => PySem.HandSPX.refsVE_contains Y bm hbm) (I.kIn _ _ hC) (PySem.W.looks_findIn I.kIn T.iC) (fun self => PySem.W.bind_fn I.kIn self T.tI) (Nat.zero_le _)
    (codeAny_mono (T.F1.run _ X.stack _ _ ⟨[Value.ref (hp.objs.size + 1)], []⟩ [Value.ref (hp.objs.size + 1)] _ _ (fun _ _ _ => False) (hr.make C [] []) (I2.env0.make C [] []) (T.bI _ [Value.ref (hp.objs.size + 1)] I2.kIn rfl) r2 hq) fun r s' hq' => ?_))
  cases r with
  | error er => exact hq'.elim
  | ok fl =>
    cases fl with
    | ret u =>
      obtain ⟨v, H2, os2, bare2, un2, hok2, rv, ev, eH⟩ := hq'
      subst ev
      subst eH
      obtain ⟨h2, g2, d2, t2, os'⟩ := s'
      exact ⟨rv, mk_endN (raises_own T.T.exC T.T.tyC) I hsz kk un2 hok2 os2 bare2 h⟩
    | next => exact False.elim hq'
    | brk => exact False.elim hq'
    | cont => exact False.elim hq'

theorem ite_t {c A B : Prop} [Decidable c] (hc : c) (h : A) : if decide c = true then A else B := by
  rw [decide_eq_true hc]
  exact iteT h
theorem ite_f {c A B : Prop} [Decidable c] (hc : ¬ c) (h : B) : if decide c = true then A else B := by
  rw [decide_eq_false hc]
  exact iteF h
theorem ite_nt {c A B : Prop} [Decidable c] (hc : ¬ c) (h : A) : if (!decide c) = true then A else B := by
  rw [decide_eq_false hc]
  exact iteT h
theorem ite_nf {c A B : Prop} [Decidable c] (hc : c) (h : B) : if (!decide c) = true then A else B := by
  rw [decide_eq_true hc]
  exact iteF h
theorem ite_by {c A B : Prop} [Decidable c] (h1 : c → A) (h2 : ¬ c → B) : if decide c = true then A else B := by
  by_cases h : c
  · exact ite_t h (h1 h)
  · exact ite_f h (h2 h)
theorem ite_nby {c A B : Prop} [Decidable c] (h1 : ¬ c → A) (h2 : c → B) : if (!decide c) = true then A else B := by
  by_cases h : c
  · exact ite_nf h (h2 h)
  · exact ite_nt h (h1 h)
/-- an item of the ints -/
theorem at_int {ns : List Int} {k : Int} (h0 : 0 ≤ k) (h1 : k < (ns.length : Int)) : atI (ns.map V.int) k = some (V.int (ns.getD k.toNat 0)) := by
  refine at_of (j := k.toNat) (by omega) ?_
  have h2 : k.toNat < ns.length := by omega
  rw [List.getElem?_map, List.getElem?_eq_getElem h2, List.getD_eq_getElem?_getD, List.getElem?_eq_getElem h2]
  rfl
theorem two_pos1 (k : Nat) : (0 : Int) < 1 * 2 ^ k := by
  rw [Int.one_mul]
  exact Int.pow_pos (by decide)
theorem q_int {Q : VK} {x y : Int} {H : Hp} (q : Q (.int x) H) (e : x = y) : Q (.int y) H := e ▸ q
theorem q_bl {Q : VK} {x y : Bool} {H : Hp} (q : Q (.bl x) H) (e : x = y) : Q (.bl y) H := e ▸ q

/-! ### readings that stop the walk where a new object comes: told by what holds of the new heap -/
/-- the closure of a reading: some wish that it keeps, and that is enough -/
def cTE (t : TE) : TE := fun σ H Q => ∃ R : VK, t σ H R ∧ ∀ v H', R v H' → Q v H'
def cTA (t : TA) : TA := fun σ H Q => ∃ R : List V → Hp → Prop, t σ H R ∧ ∀ v H', R v H' → Q v H'
def cTT (t : TT) : TT := fun σ H Q => ∃ R : Bool → Hp → Prop, t σ H R ∧ ∀ v H', R v H' → Q v H'
section
variable {X : Cx} {e : Expr} {es : List Expr} {te : TE} {ta : TA} {tt : TT} {pos : Pos}
theorem pe_c (h : PE X e te) : PE X e (cTE te) := ⟨fun pins s σ H Q I ⟨R, h1, h2⟩ => thn (h.run pins s σ H R I h1) fun u s1 ⟨v, H1, I1, r, q⟩ => ⟨v, H1, I1, r, h2 _ _ q⟩⟩
theorem pa_c (h : PA X es ta) : PA X es (cTA ta) := ⟨fun pos pins s σ H Q I ⟨R, h1, h2⟩ => thn (h.run pos pins s σ H R I h1) fun u s1 ⟨v, H1, I1, r, q⟩ => ⟨v, H1, I1, r, h2 _ _ q⟩⟩
theorem pt_c (h : PT X e tt) : PT X e (cTT tt) := ⟨fun pins s σ H Q I ⟨R, h1, h2⟩ => thn (h.run pins s σ H R I h1) fun u s1 ⟨H1, I1, q⟩ => ⟨H1, I1, h2 _ _ q⟩⟩
theorem pe_weak {te' : TE} (h : PE X e te) (w : ∀ σ H Q, te' σ H Q → te σ H Q) : PE X e te' := ⟨fun pins s σ H Q I q => h.run pins s σ H Q I (w σ H Q q)⟩
theorem ps_weak {st : Stmt} {t t' : TS} (h : PS X st t) (w : ∀ D σ H, t' D σ H → t D σ H) : PS X st t' := ⟨fun pins s σ H D I q => h.run pins s σ H D I (w D σ H q)⟩
end
/-- what is wanted of a new object -/
def NewO (o : HO) (H : Hp) (Q : VK) : Prop := ∀ p H', H p = none → Same H H' → H' p = some o → Q (.ref p) H'
theorem NewO.go {o : HO} {H : Hp} {Q : VK} (h : NewO o H Q) : ∀ p, H p = none → Q (.ref p) (upd H p o) := fun p hp => h p _ hp (same_upd hp) upd_same
@[irreducible] def mTup (t : TA) : TE := fun σ H Q => t σ H fun xs H1 => xs.length ≤ 1000 ∧ NewO (.tup xs) H1 Q
@[irreducible] def mLst (t : TA) : TE := fun σ H Q => t σ H fun xs H1 => xs.length ≤ 1000 ∧ NewO (.lst xs) H1 Q
theorem rd_tup {t : TA} {σ : L2.St} {H : Hp} {Q : VK} (h : t σ H fun xs H1 => xs.length ≤ 1000 ∧ NewO (.tup xs) H1 Q) : mTup t σ H Q := by
  unfold mTup
  exact h
theorem rd_lst {t : TA} {σ : L2.St} {H : Hp} {Q : VK} (h : t σ H fun xs H1 => xs.length ≤ 1000 ∧ NewO (.lst xs) H1 Q) : mLst t σ H Q := by
  unfold mLst
  exact h
@[irreducible] def mCat (K : PySem.W.Frag) : R2 := fun x y H Q => ∃ l b xs zs, x = .ref l ∧ y = .ref b ∧ H l = some (.lst xs) ∧ H b = some (.lst zs) ∧ xs.length + zs.length ≤ 1000000 ∧ NewO (.lst (xs ++ zs)) H Q
theorem rd_cat {K : PySem.W.Frag} {l b : Addr} {xs zs : List V} {H : Hp} {Q : VK} (h1 : H l = some (.lst xs)) (h2 : H b = some (.lst zs)) (hz : xs.length + zs.length ≤ 1000000) (h : NewO (.lst (xs ++ zs)) H Q) : mCat K (.ref l) (.ref b) H Q := by
  unfold mCat
  exact ⟨l, b, xs, zs, rfl, rfl, h1, h2, hz, h⟩
@[irreducible] def mRep : R2 := fun x y H Q => ∃ l k xs, x = .ref l ∧ y = .int k ∧ H l = some (.lst xs) ∧ 0 ≤ k ∧ k ≤ 100000 ∧ xs.length * k.toNat ≤ 1000000 ∧ NewO (.lst (List.replicate k.toNat xs).flatten) H Q
@[irreducible] def mSlL (K : PySem.W.Frag) : V → Option Int → Option Int → Hp → VK → Prop := fun x lo hi H Q => ∃ a xs, x = .ref a ∧ SqL K H a xs ∧ NewO (.lst (cutV xs lo hi)) H Q
theorem rd_sl {K : PySem.W.Frag} {a : Addr} {xs : List V} {lo hi : Option Int} {H : Hp} {Q : VK} (h1 : SqL K H a xs) (h : NewO (.lst (cutV xs lo hi)) H Q) : mSlL K (.ref a) lo hi H Q := by
  unfold mSlL
  exact ⟨a, xs, rfl, h1, h⟩
@[irreducible] def mListOf (K : PySem.W.Frag) : List V → Hp → VK → Prop := fun xs H Q => ∃ p ys, xs = [.ref p] ∧ (SqL K H p ys ∨ SqT K H p ys) ∧ NewO (.lst ys) H Q
theorem rd_list {K : PySem.W.Frag} {a : Addr} {xs : List V} {H : Hp} {Q : VK} (h1 : SqL K H a xs) (h : NewO (.lst xs) H Q) : mListOf K [.ref a] H Q := by
  unfold mListOf
  exact ⟨a, xs, rfl, .inl h1, h⟩
/-- the elements of a comprehension, one by one: what each gives, the heap grown at most -/
def Elt (te : TE) (σ : L2.St) (H : Hp) (y : V) : Prop := ∀ H', Same H H' → te σ H' fun v H'' => v = y ∧ Same H' H''
@[irreducible] def mLcR1 (ta : TA) (j : Nat) (te : TE) (vs : List Nat) : TE := fun σ H Q => ta σ H fun ws H1 => ∃ (n : Int) (f : Nat → V), ws = [.int n] ∧ (-100000 ≤ n ∧ n ≤ 100000) ∧ (∀ i, i < n.toNat → Elt te ((wipe σ vs).set j (some (.int (i : Nat)))) H1 (f i)) ∧ NewO (.lst ((List.range n.toNat).map f)) H1 Q
theorem rd_lcR1 {ta : TA} {j : Nat} {te : TE} {vs : List Nat} {σ : L2.St} {H : Hp} {Q : VK} (h : ta σ H fun ws H1 => ∃ (n : Int) (f : Nat → V), ws = [.int n] ∧ (-100000 ≤ n ∧ n ≤ 100000) ∧ (∀ i, i < n.toNat → Elt te ((wipe σ vs).set j (some (.int (i : Nat)))) H1 (f i)) ∧ NewO (.lst ((List.range n.toNat).map f)) H1 Q) : mLcR1 ta j te vs σ H Q := by
  unfold mLcR1
  exact h
@[irreducible] def mLcL (K : PySem.W.Frag) (tl : TE) (j : Nat) (te : TE) (vs : List Nat) : TE := fun σ H Q => tl σ H fun x H1 => ∃ (a : Addr) (xs : List V) (f : V → V), x = .ref a ∧ SqL K H1 a xs ∧ xs.length ≤ 100000 ∧ (∀ y, y ∈ xs → Elt te ((wipe σ vs).set j (some y)) H1 (f y)) ∧ NewO (.lst (xs.map f)) H1 Q
theorem rd_lcL {K : PySem.W.Frag} {tl : TE} {j : Nat} {te : TE} {vs : List Nat} {σ : L2.St} {H : Hp} {Q : VK} (h : tl σ H fun x H1 => ∃ (a : Addr) (xs : List V) (f : V → V), x = .ref a ∧ SqL K H1 a xs ∧ xs.length ≤ 100000 ∧ (∀ y, y ∈ xs → Elt te ((wipe σ vs).set j (some y)) H1 (f y)) ∧ NewO (.lst (xs.map f)) H1 Q) : mLcL K tl j te vs σ H Q := by
  unfold mLcL
  exact h
theorem wipe_set {σ : L2.St} {vs : List Nat} {j : Nat} {x : Option V} (hj : vs = [j]) : wipe ((wipe σ vs).set j x) vs = wipe σ vs := by
  subst hj
  show ((σ.set j none).set j x).set j none = σ.set j none
  rw [List.set_set, List.set_set]
section
variable {X : Cx} {e : Expr} {es : List Expr} {te : TE} {t ta : TA} {tt : TT} {pos : Pos}
theorem pe_tupM {x1} (h : PA X es t) : PE X (.Tuple es x1 pos) (mTup t) := pe_weak (pe_tup (pa_c h)) fun σ H Q q => by
  unfold mTup at q
  exact ⟨_, q, fun xs H1 r => ⟨sz (Nat.le_trans r.1 (by decide)), r.2.go⟩⟩
theorem pe_lstM (h : PA X es t) : PE X (.List es pos) (mLst t) := pe_weak (pe_lst (pa_c h)) fun σ H Q q => by
  unfold mLst at q
  exact ⟨_, q, fun xs H1 r => ⟨sz (Nat.le_trans r.1 (by decide)), r.2.go⟩⟩
theorem op_catM : OpR X (binaryOp .Add) (mCat X.K) := fun pins s σ H x y v u Q I rx ry q => op_cat pins s σ H x y v u Q I rx ry (by
  unfold mCat at q
  obtain ⟨l, b, xs, zs, e1, e2, h1, h2, hz, h⟩ := q
  exact ⟨l, b, xs, zs, e1, e2, h1, h2, sz hz, h.go⟩)
theorem sl_listM : SlR X (mSlL X.K) := fun pins s σ H x v vl vu lo hi sl Q I rx hs pl pu q => sl_list pins s σ H x v vl vu lo hi sl Q I rx hs pl pu (by
  unfold mSlL at q
  obtain ⟨a, xs, e1, h1, h⟩ := q
  exact ⟨a, xs, e1, h1, h.go⟩)
theorem call_listM : CallR X (.type "list") (mListOf X.K) := fun pins s σ H xs us Q I r q => call_list_of pins s σ H xs us Q I r (by
  unfold mListOf at q
  obtain ⟨a, xs, e1, h1, h⟩ := q
  exact ⟨a, xs, e1, h1, h.go⟩)
/-- [e for x in range(n)] -/
theorem lcR1_of {ta : TA} {j : Nat} {te : TE} {vs : List Nat} {σ : L2.St} {H : Hp} {Q : VK} (hj : vs = [j]) (q : mLcR1 ta j te vs σ H Q) : tLc (iRng1 (cTA ta)) (gName j) tYes (cTE te) vs σ H Q := by
  unfold mLcR1 at q
  refine ⟨_, q, fun ws H1 r => ?_⟩
  obtain ⟨n, f, rfl, hn, he, hq⟩ := r
  obtain ⟨hn0, hn⟩ := hn
  have big : (2 : Int) ^ 62 = 4611686018427387904 := by decide
  refine ⟨n, rfl, by omega, by omega, fun D hD => ?_⟩
  refine lc_range (lo := 0) (n := n.toNat) (fun i H' => Same H1 H' ∧ H' D = some (.lst ((List.range i).map f))) ⟨same_upd hD, upd_same⟩ (fun i H' hi p => ⟨wipe_set hj, ?_⟩) fun H' p => hq D H' hD p.1 p.2
  show cTE te ((wipe σ vs).set j (some (.int (0 + (i : Int))))) H' _
  rw [Int.zero_add]
  refine ⟨_, he i hi H' p.1, fun y H'' r => ?_⟩
  obtain ⟨rfl, s2⟩ := r
  refine ⟨_, s2 _ _ p.2, szl (by rw [List.length_map, List.length_range]; omega), same_mut (p.1.trans s2) hD, ?_⟩
  rw [upd_same, List.range_succ, List.map_append]
  rfl
theorem take_snoc {α : Type} {l : List α} {i : Nat} {x : α} (h : l[i]? = some x) : l.take (i + 1) = l.take i ++ [x] := by
  rw [List.take_add_one, h]
  rfl
/-- [e for x in xs] -/
theorem lcL_of {K : PySem.W.Frag} {tl : TE} {j : Nat} {te : TE} {vs : List Nat} {σ : L2.St} {H : Hp} {Q : VK} (hj : vs = [j]) (q : mLcL K tl j te vs σ H Q) : tLc (iList K (cTE tl)) (gName j) tYes (cTE te) vs σ H Q := by
  unfold mLcL at q
  refine ⟨_, q, fun x H1 r => ?_⟩
  obtain ⟨a, xs, f, rfl, hx, hn, he, hq⟩ := r
  refine ⟨a, rfl, ⟨xs, hx⟩, fun D hD => ?_⟩
  refine lc_list (xs := xs) (fun i H' => Same H1 H' ∧ H' D = some (.lst ((xs.take i).map f))) ⟨same_upd hD, upd_same⟩ (fun i H' _ p => p.1.seq hx) (fun i y H' hi p => ⟨wipe_set hj, ?_⟩) fun H' p => hq D H' hD p.1 (by rw [p.2, List.take_length])
  have hy : y ∈ xs := List.mem_of_getElem? hi
  have hl : i < xs.length := (List.getElem?_eq_some_iff.mp hi).1
  show cTE te ((wipe σ vs).set j (some y)) H' _
  refine ⟨_, he y hy H' p.1, fun z H'' r => ?_⟩
  obtain ⟨rfl, s2⟩ := r
  refine ⟨_, s2 _ _ p.2, szl (by rw [List.length_map, List.length_take]; omega), same_mut (p.1.trans s2) hD, ?_⟩
  rw [upd_same, take_snoc hi, List.map_append]
  rfl
theorem pe_lcR1 {elt : Expr} {scope : Scope} {j : Nat} {x : Str} {a : Expr} {p p2 xpos : Pos} (hc : X.calm = true) (hN : X.N.Nodup) (hg : Gl X "range") (hm : X.mg "range" = none) (ha : PA X [a] ta) (ok : BlkOk X.N X.env.scope scope [(x, j)])
    (hgt : ∀ (s : Shared) (H : Hp) (C : Addr) (cl : List (Str × Addr)) (fp : List Addr), PG (X.blk s H scope (compEnvC scope cl C X.env) fp) (.Name x xpos) (gName j))
    (he : ∀ (s : Shared) (H : Hp) (C : Addr) (cl : List (Str × Addr)) (fp : List Addr), PE (X.blk s H scope (compEnvC scope cl C X.env) fp) elt te)
    (hs : starEach [a] X.env = [(false, eval a X.env)] := by rfl) (hs2 : ∀ y, foldedSetIterable (.Call (.Name "range" p) [a] [] p2) X.env y = pure y := by intro _; rfl) :
    PE X (.ListComp elt [⟨.Name x xpos, .Call (.Name "range" p) [a] [] p2, [], 0⟩] scope pos) (mLcR1 ta j te [j]) :=
  pe_weak (pe_lc hc hN (pi_range1 hg hm (pa_c ha) hs) ok hgt (fun _ _ _ _ _ => pts_nil) (fun s H C cl fp => pe_c (he s H C cl fp)) hs2) fun _ _ _ q => lcR1_of rfl q
theorem pe_lcL {elt it : Expr} {scope : Scope} {j : Nat} {x : Str} {xpos : Pos} (hc : X.calm = true) (hN : X.N.Nodup) {tl : TE} (ha : PE X it tl) (ok : BlkOk X.N X.env.scope scope [(x, j)])
    (hgt : ∀ (s : Shared) (H : Hp) (C : Addr) (cl : List (Str × Addr)) (fp : List Addr), PG (X.blk s H scope (compEnvC scope cl C X.env) fp) (.Name x xpos) (gName j))
    (he : ∀ (s : Shared) (H : Hp) (C : Addr) (cl : List (Str × Addr)) (fp : List Addr), PE (X.blk s H scope (compEnvC scope cl C X.env) fp) elt te) (hs2 : ∀ y, foldedSetIterable it X.env y = pure y := by intro _; rfl) :
    PE X (.ListComp elt [⟨.Name x xpos, it, [], 0⟩] scope pos) (mLcL X.K tl j te [j]) :=
  pe_weak (pe_lc hc hN (pi_list (pe_c ha)) ok hgt (fun _ _ _ _ _ => pts_nil) (fun s H C cl fp => pe_c (he s H C cl fp)) hs2) fun _ _ _ q => lcL_of rfl q
theorem ps_setLcR1 {i : Nat} {y : Str} {py spos : Pos} {elt : Expr} {scope : Scope} {j : Nat} {x : Str} {a : Expr} {p p2 xpos : Pos} (hc : X.calm = true) (hN : X.N.Nodup) (hy : X.N[i]? = some y) (hyl : X.env.scope.names.lookup y = some .local)
    (hsw : swapsWith (.ListComp elt [⟨.Name x xpos, .Call (.Name "range" p) [a] [] p2, [], 0⟩] scope pos) (some (.Name y py)) spos.line X.env = pure true) (hg : Gl X "range") (hm : X.mg "range" = none) (ha : PA X [a] ta) (ok : BlkOk X.N X.env.scope scope [(x, j)])
    (hgt : ∀ (s : Shared) (H : Hp) (C : Addr) (cl : List (Str × Addr)) (fp : List Addr), PG (X.blk s H scope (compEnvC scope cl C X.env) fp) (.Name x xpos) (gName j))
    (he : ∀ (s : Shared) (H : Hp) (C : Addr) (cl : List (Str × Addr)) (fp : List Addr), PE (X.blk s H scope (compEnvC scope cl C X.env) fp) elt te)
    (hs : starEach [a] X.env = [(false, eval a X.env)] := by rfl) (hs2 : ∀ y, foldedSetIterable (.Call (.Name "range" p) [a] [] p2) X.env y = pure y := by intro _; rfl) :
    PS X (.Assign [.Name y py] (.ListComp elt [⟨.Name x xpos, .Call (.Name "range" p) [a] [] p2, [], 0⟩] scope pos) spos) (tAsg (mLcR1 ta j te [j]) (gName i)) :=
  ps_weak (ps_setLc hc hN hy hyl hsw (pi_range1 hg hm (pa_c ha) hs) ok hgt (fun _ _ _ _ _ => pts_nil) (fun s H C cl fp => pe_c (he s H C cl fp)) hs2) fun _ _ _ q => lcR1_of rfl q
theorem ps_setLcL {i : Nat} {y : Str} {py spos : Pos} {elt it : Expr} {scope : Scope} {j : Nat} {x : Str} {xpos : Pos} {tl : TE} (hc : X.calm = true) (hN : X.N.Nodup) (hy : X.N[i]? = some y) (hyl : X.env.scope.names.lookup y = some .local)
    (hsw : swapsWith (.ListComp elt [⟨.Name x xpos, it, [], 0⟩] scope pos) (some (.Name y py)) spos.line X.env = pure true) (ha : PE X it tl) (ok : BlkOk X.N X.env.scope scope [(x, j)])
    (hgt : ∀ (s : Shared) (H : Hp) (C : Addr) (cl : List (Str × Addr)) (fp : List Addr), PG (X.blk s H scope (compEnvC scope cl C X.env) fp) (.Name x xpos) (gName j))
    (he : ∀ (s : Shared) (H : Hp) (C : Addr) (cl : List (Str × Addr)) (fp : List Addr), PE (X.blk s H scope (compEnvC scope cl C X.env) fp) elt te) (hs2 : ∀ y, foldedSetIterable it X.env y = pure y := by intro _; rfl) :
    PS X (.Assign [.Name y py] (.ListComp elt [⟨.Name x xpos, it, [], 0⟩] scope pos) spos) (tAsg (mLcL X.K tl j te [j]) (gName i)) :=
  ps_weak (ps_setLc hc hN hy hyl hsw (pi_list (pe_c ha)) ok hgt (fun _ _ _ _ _ => pts_nil) (fun s H C cl fp => pe_c (he s H C cl fp)) hs2) fun _ _ _ q => lcL_of rfl q
/-! ### loops that stop the walk -/
@[irreducible] def mForR1 (ta : TA) (j : Nat) (tb : TS) : TS := fun D σ H => ta σ H fun ws H1 => ∃ (n : Int) (Pv : Nat → L2.St → Hp → Prop), ws = [.int n] ∧ (-100000 ≤ n ∧ n ≤ 100000) ∧ Pv 0 σ H1 ∧
  (∀ i σ' H', i < n.toNat → Pv i σ' H' → tb { D with nx := Pv (i + 1), ct := Pv (i + 1), bk := D.nx } (σ'.set j (some (.int (i : Nat)))) H') ∧ ∀ σ' H', Pv n.toNat σ' H' → D.nx σ' H'
theorem rd_forR1 {ta : TA} {j : Nat} {tb : TS} {D : Ends} {σ : L2.St} {H : Hp} (h : ta σ H fun ws H1 => ∃ (n : Int) (Pv : Nat → L2.St → Hp → Prop), ws = [.int n] ∧ (-100000 ≤ n ∧ n ≤ 100000) ∧ Pv 0 σ H1 ∧
  (∀ i σ' H', i < n.toNat → Pv i σ' H' → tb { D with nx := Pv (i + 1), ct := Pv (i + 1), bk := D.nx } (σ'.set j (some (.int (i : Nat)))) H') ∧ ∀ σ' H', Pv n.toNat σ' H' → D.nx σ' H') : mForR1 ta j tb D σ H := by
  unfold mForR1
  exact h
theorem forR1_of {ta : TA} {j : Nat} {tb : TS} {D : Ends} {σ : L2.St} {H : Hp} (q : mForR1 ta j tb D σ H) : tFor (iRng1 (cTA ta)) (gName j) tb D σ H := by
  unfold mForR1 at q
  refine ⟨_, q, fun ws H1 r => ?_⟩
  obtain ⟨n, Pv, rfl, ⟨hn0, hn⟩, h0, hs, hd⟩ := r
  have big : (2 : Int) ^ 62 = 4611686018427387904 := by decide
  refine ⟨n, rfl, by omega, by omega, for_range (lo := 0) (n := n.toNat) Pv h0 (fun i σ' H' hi p => ?_) hd⟩
  show tb _ (σ'.set j (some (.int (0 + (i : Int))))) H'
  rw [Int.zero_add]
  exact hs i σ' H' hi p
theorem ps_forR1 {j : Nat} {x : Str} {a : Expr} {body : List Stmt} {tb : TS} {p p2 xpos : Pos} (hp : PassesOwn (model X.prog X.w) X.A X.env X.xe) (hc : X.calm = true) (hg : Gl X "range") (hm : X.mg "range" = none) (ha : PA X [a] ta) (hgt : PG X (.Name x xpos) (gName j)) (hb : PSs X body tb)
    (hs : starEach [a] X.env = [(false, eval a X.env)] := by rfl) (hs2 : ∀ y, foldedSetIterable (.Call (.Name "range" p) [a] [] p2) X.env y = pure y := by intro _; rfl) : PS X (.For (.Name x xpos) (.Call (.Name "range" p) [a] [] p2) body [] pos) (mForR1 ta j tb) :=
  ps_weak (ps_for hp hc (pi_range1 hg hm (pa_c ha) hs) hgt hb hs2) fun _ _ _ q => forR1_of q
@[irreducible] def mForR2 (ta : TA) (j : Nat) (tb : TS) : TS := fun D σ H => ta σ H fun ws H1 => ∃ (lo n : Int) (Pv : Nat → L2.St → Hp → Prop), ws = [.int lo, .int n] ∧ (-4000000000000000000 ≤ lo ∧ lo ≤ 4000000000000000000 ∧ -4000000000000000000 ≤ n ∧ n ≤ 4000000000000000000) ∧ Pv 0 σ H1 ∧
  (∀ i σ' H', i < (n - lo).toNat → Pv i σ' H' → tb { D with nx := Pv (i + 1), ct := Pv (i + 1), bk := D.nx } (σ'.set j (some (.int (lo + (i : Int))))) H') ∧ ∀ σ' H', Pv (n - lo).toNat σ' H' → D.nx σ' H'
theorem rd_forR2 {ta : TA} {j : Nat} {tb : TS} {D : Ends} {σ : L2.St} {H : Hp} (h : ta σ H fun ws H1 => ∃ (lo n : Int) (Pv : Nat → L2.St → Hp → Prop), ws = [.int lo, .int n] ∧ (-4000000000000000000 ≤ lo ∧ lo ≤ 4000000000000000000 ∧ -4000000000000000000 ≤ n ∧ n ≤ 4000000000000000000) ∧ Pv 0 σ H1 ∧
  (∀ i σ' H', i < (n - lo).toNat → Pv i σ' H' → tb { D with nx := Pv (i + 1), ct := Pv (i + 1), bk := D.nx } (σ'.set j (some (.int (lo + (i : Int))))) H') ∧ ∀ σ' H', Pv (n - lo).toNat σ' H' → D.nx σ' H') : mForR2 ta j tb D σ H := by
  unfold mForR2
  exact h
theorem ps_forR2 {j : Nat} {x : Str} {a b : Expr} {body : List Stmt} {tb : TS} {p p2 xpos : Pos} (hp : PassesOwn (model X.prog X.w) X.A X.env X.xe) (hc : X.calm = true) (hg : Gl X "range") (hm : X.mg "range" = none) (ha : PA X [a, b] ta) (hgt : PG X (.Name x xpos) (gName j)) (hb : PSs X body tb)
    (hs : starEach [a, b] X.env = [(false, eval a X.env), (false, eval b X.env)] := by rfl) (hs3 : starEach [b] X.env = [(false, eval b X.env)] := by rfl) (hs2 : ∀ y, foldedSetIterable (.Call (.Name "range" p) [a, b] [] p2) X.env y = pure y := by intro _; rfl) :
    PS X (.For (.Name x xpos) (.Call (.Name "range" p) [a, b] [] p2) body [] pos) (mForR2 ta j tb) :=
  ps_weak (ps_for hp hc (pi_range2 hg hm (pa_c ha) hs hs3) hgt hb hs2) fun D σ H q => by
    unfold mForR2 at q
    refine ⟨_, q, fun ws H1 r => ?_⟩
    obtain ⟨lo, n, Pv, rfl, ⟨h1, h2, h3, h4⟩, h0, hs, hd⟩ := r
    have big : (2 : Int) ^ 62 = 4611686018427387904 := by decide
    exact ⟨lo, n, rfl, ⟨by omega, by omega, by omega, by omega⟩, for_range (lo := lo) (n := (n - lo).toNat) Pv h0 (fun i σ' H' hi p => hs i σ' H' hi p) hd⟩
/-- for x in xs -/
@[irreducible] def mForL (K : PySem.W.Frag) (tl : TE) (j : Nat) (tb : TS) : TS := fun D σ H => tl σ H fun x H1 => ∃ (a : Addr) (xs : List V) (Pv : Nat → L2.St → Hp → Prop), x = .ref a ∧ SqL K H1 a xs ∧ Pv 0 σ H1 ∧ (∀ i σ' H', i ≤ xs.length → Pv i σ' H' → SqL K H' a xs) ∧
  (∀ i y σ' H', xs[i]? = some y → Pv i σ' H' → tb { D with nx := Pv (i + 1), ct := Pv (i + 1), bk := D.nx } (σ'.set j (some y)) H') ∧ ∀ σ' H', Pv xs.length σ' H' → D.nx σ' H'
theorem rd_forL {K : PySem.W.Frag} {tl : TE} {j : Nat} {tb : TS} {D : Ends} {σ : L2.St} {H : Hp} (h : tl σ H fun x H1 => ∃ (a : Addr) (xs : List V) (Pv : Nat → L2.St → Hp → Prop), x = .ref a ∧ SqL K H1 a xs ∧ Pv 0 σ H1 ∧ (∀ i σ' H', i ≤ xs.length → Pv i σ' H' → SqL K H' a xs) ∧
  (∀ i y σ' H', xs[i]? = some y → Pv i σ' H' → tb { D with nx := Pv (i + 1), ct := Pv (i + 1), bk := D.nx } (σ'.set j (some y)) H') ∧ ∀ σ' H', Pv xs.length σ' H' → D.nx σ' H') : mForL K tl j tb D σ H := by
  unfold mForL
  exact h
theorem ps_forL {j : Nat} {x : Str} {it : Expr} {body : List Stmt} {tb : TS} {tl : TE} {xpos : Pos} (hp : PassesOwn (model X.prog X.w) X.A X.env X.xe) (hc : X.calm = true) (ha : PE X it tl) (hgt : PG X (.Name x xpos) (gName j)) (hb : PSs X body tb)
    (hs2 : ∀ y, foldedSetIterable it X.env y = pure y := by intro _; rfl) : PS X (.For (.Name x xpos) it body [] pos) (mForL X.K tl j tb) :=
  ps_weak (ps_for hp hc (pi_list (pe_c ha)) hgt hb hs2) fun D σ H q => by
    unfold mForL at q
    refine ⟨_, q, fun x H1 r => ?_⟩
    obtain ⟨a, xs, Pv, rfl, hx, h0, hl, hs, hd⟩ := r
    exact ⟨a, rfl, ⟨xs, hx⟩, for_list (xs := xs) Pv h0 hl (fun i y σ' H' hi p => hs i y σ' H' hi p) hd⟩
/-- for .. in xs, the target of any form -/
@[irreducible] def mForG (K : PySem.W.Frag) (tl : TE) (g : TG) (tb : TS) : TS := fun D σ H => tl σ H fun x H1 => ∃ (a : Addr) (xs : List V) (Pv : Nat → L2.St → Hp → Prop), x = .ref a ∧ SqL K H1 a xs ∧ Pv 0 σ H1 ∧ (∀ i σ' H', i ≤ xs.length → Pv i σ' H' → SqL K H' a xs) ∧
  (∀ i y σ' H', xs[i]? = some y → Pv i σ' H' → g y σ' H' fun σ2 H2 => tb { D with nx := Pv (i + 1), ct := Pv (i + 1), bk := D.nx } σ2 H2) ∧ ∀ σ' H', Pv xs.length σ' H' → D.nx σ' H'
theorem rd_forG {K : PySem.W.Frag} {tl : TE} {g : TG} {tb : TS} {D : Ends} {σ : L2.St} {H : Hp} (h : tl σ H fun x H1 => ∃ (a : Addr) (xs : List V) (Pv : Nat → L2.St → Hp → Prop), x = .ref a ∧ SqL K H1 a xs ∧ Pv 0 σ H1 ∧ (∀ i σ' H', i ≤ xs.length → Pv i σ' H' → SqL K H' a xs) ∧
  (∀ i y σ' H', xs[i]? = some y → Pv i σ' H' → g y σ' H' fun σ2 H2 => tb { D with nx := Pv (i + 1), ct := Pv (i + 1), bk := D.nx } σ2 H2) ∧ ∀ σ' H', Pv xs.length σ' H' → D.nx σ' H') : mForG K tl g tb D σ H := by
  unfold mForG
  exact h
theorem ps_forG {tg it : Expr} {body : List Stmt} {g : TG} {tb : TS} {tl : TE} (hp : PassesOwn (model X.prog X.w) X.A X.env X.xe) (hc : X.calm = true) (ha : PE X it tl) (hgt : PG X tg g) (hb : PSs X body tb)
    (hs2 : ∀ y, foldedSetIterable it X.env y = pure y := by intro _; rfl) : PS X (.For tg it body [] pos) (mForG X.K tl g tb) :=
  ps_weak (ps_for hp hc (pi_list (pe_c ha)) hgt hb hs2) fun D σ H q => by
    unfold mForG at q
    refine ⟨_, q, fun x H1 r => ?_⟩
    obtain ⟨a, xs, Pv, rfl, hx, h0, hl, hs, hd⟩ := r
    exact ⟨a, rfl, ⟨xs, hx⟩, for_list (xs := xs) Pv h0 hl (fun i y σ' H' hi p => hs i y σ' H' hi p) hd⟩
/-- for x, y in zip(xs, ys), lists of one length -/
@[irreducible] def mForZ (K : PySem.W.Frag) (ta : TA) (i1 i2 : Nat) (tb : TS) : TS := fun D σ H => ta σ H fun ws H1 => ∃ (a b : Addr) (xs ys : List V) (Pv : Nat → L2.St → Hp → Prop), ws = [.ref a, .ref b] ∧ SqL K H1 a xs ∧ SqL K H1 b ys ∧ xs.length = ys.length ∧ Pv 0 σ H1 ∧ (∀ i σ' H', Pv i σ' H' → SqL K H' a xs ∧ SqL K H' b ys) ∧
  (∀ i x y σ' H' H'', xs[i]? = some x → ys[i]? = some y → Pv i σ' H' → Same H' H'' → tb { D with nx := Pv (i + 1), ct := Pv (i + 1), bk := D.nx } ((σ'.set i1 (some x)).set i2 (some y)) H'') ∧ ∀ σ' H', Pv xs.length σ' H' → D.nx σ' H'
theorem rd_forZ {K : PySem.W.Frag} {ta : TA} {i1 i2 : Nat} {tb : TS} {D : Ends} {σ : L2.St} {H : Hp} (h : ta σ H fun ws H1 => ∃ (a b : Addr) (xs ys : List V) (Pv : Nat → L2.St → Hp → Prop), ws = [.ref a, .ref b] ∧ SqL K H1 a xs ∧ SqL K H1 b ys ∧ xs.length = ys.length ∧ Pv 0 σ H1 ∧ (∀ i σ' H', Pv i σ' H' → SqL K H' a xs ∧ SqL K H' b ys) ∧
  (∀ i x y σ' H' H'', xs[i]? = some x → ys[i]? = some y → Pv i σ' H' → Same H' H'' → tb { D with nx := Pv (i + 1), ct := Pv (i + 1), bk := D.nx } ((σ'.set i1 (some x)).set i2 (some y)) H'') ∧ ∀ σ' H', Pv xs.length σ' H' → D.nx σ' H') : mForZ K ta i1 i2 tb D σ H := by
  unfold mForZ
  exact h
theorem ps_forZ {e e2 : Expr} {kk : Nat} {p p2 tpos : Pos} {i1 i2 : Nat} {body : List Stmt} {tb : TS} {t1 t2 : Expr} (hp : PassesOwn (model X.prog X.w) X.A X.env X.xe) (hc : X.calm = true) (hg : Gl X "zip") (hm : X.mg "zip" = none) (ha : PA X [e, e2] ta)
    (hgt : PG X (.Tuple [t1, t2] kk tpos) (gTup X.K 2 (gCons (gName i1) (gCons (gName i2) gNil)))) (hb : PSs X body tb)
    (hs : starEach [e, e2] X.env = (false, eval e X.env) :: starEach [e2] X.env := by rfl) (hpl : (backTo p2 (starEach [e2] X.env)).any (·.1) = false := by rfl) (hs2 : ∀ y, foldedSetIterable (.Call (.Name "zip" p) [e, e2] [] p2) X.env y = pure y := by intro _; rfl) :
    PS X (.For (.Tuple [t1, t2] kk tpos) (.Call (.Name "zip" p) [e, e2] [] p2) body [] pos) (mForZ X.K ta i1 i2 tb) :=
  ps_weak (ps_for hp hc (pi_zip hg hm (pa_c ha) hs hpl) hgt hb hs2) fun D σ H q => by
    unfold mForZ at q
    refine ⟨_, q, fun ws H1 r => ?_⟩
    obtain ⟨a, b, xs, ys, Pv, rfl, hx, hy, hl, h0, hq, hs, hd⟩ := r
    refine ⟨a, b, xs, ys, rfl, hx, hy, RZ.for_zipL hl Pv h0 hq (fun i x y T σ' H' h1 h2 p hT => ?_) hd⟩
    exact ⟨T, [x, y], rfl, st_of upd_same, rfl, x, [y], rfl, y, [], rfl, rfl, hs i x y σ' H' _ h1 h2 p (same_upd hT)⟩
end
theorem ite_ei {x y : Int} {A B : Prop} (hc : x = y) (h : A) : if decide (V.int x = V.int y) = true then A else B := ite_t (congrArg V.int hc) h
theorem ite_eif {x y : Int} {A B : Prop} (hc : x ≠ y) (h : B) : if decide (V.int x = V.int y) = true then A else B := ite_f (fun e => hc (V.int.inj e)) h
theorem ite_ni {x y : Int} {A B : Prop} (hc : x = y) (h : B) : if (!decide (V.int x = V.int y)) = true then A else B := ite_nf (congrArg V.int hc) h
theorem ite_nit {x y : Int} {A B : Prop} (hc : x ≠ y) (h : A) : if (!decide (V.int x = V.int y)) = true then A else B := ite_nt (fun e => hc (V.int.inj e)) h
theorem ite_eby {x y : Int} {A B : Prop} (h1 : x = y → A) (h2 : x ≠ y → B) : if decide (V.int x = V.int y) = true then A else B := ite_by (fun e => h1 (V.int.inj e)) (fun n => h2 fun e => n (congrArg V.int e))
theorem ite_enby {x y : Int} {A B : Prop} (h1 : x ≠ y → A) (h2 : x = y → B) : if (!decide (V.int x = V.int y)) = true then A else B := ite_nby (fun n => h1 fun e => n (congrArg V.int e)) (fun e => h2 (V.int.inj e))

/-! ### branches that stop the walk -/
@[irreducible] def Br (b : Bool) (A B : Prop) : Prop := if b = true then A else B
section
variable {b : Bool} {A B : Prop}
theorem Br.un (h : Br b A B) : if b = true then A else B := by
  unfold Br at h
  exact h
theorem br_of (h : if b = true then A else B) : Br b A B := by
  unfold Br
  exact h
theorem br_T (h : A) : Br true A B := br_of (iteT h)
theorem br_F (h : B) : Br false A B := br_of (iteF h)
theorem br_nT (h : A) : Br (!false) A B := br_of (iteT h)
theorem br_nF (h : B) : Br (!true) A B := br_of (iteF h)
theorem br_t {c : Prop} [Decidable c] (hc : c) (h : A) : Br (decide c) A B := br_of (ite_t hc h)
theorem br_f {c : Prop} [Decidable c] (hc : ¬ c) (h : B) : Br (decide c) A B := br_of (ite_f hc h)
theorem br_nt {c : Prop} [Decidable c] (hc : ¬ c) (h : A) : Br (!decide c) A B := br_of (ite_nt hc h)
theorem br_nf {c : Prop} [Decidable c] (hc : c) (h : B) : Br (!decide c) A B := br_of (ite_nf hc h)
theorem br_by {c : Prop} [Decidable c] (h1 : c → A) (h2 : ¬ c → B) : Br (decide c) A B := br_of (ite_by h1 h2)
theorem br_nby {c : Prop} [Decidable c] (h1 : ¬ c → A) (h2 : c → B) : Br (!decide c) A B := br_of (ite_nby h1 h2)
theorem br_ei {x y : Int} (hc : x = y) (h : A) : Br (decide (V.int x = V.int y)) A B := br_of (ite_ei hc h)
theorem br_eif {x y : Int} (hc : x ≠ y) (h : B) : Br (decide (V.int x = V.int y)) A B := br_of (ite_eif hc h)
theorem br_ni {x y : Int} (hc : x = y) (h : B) : Br (!decide (V.int x = V.int y)) A B := br_of (ite_ni hc h)
theorem br_nit {x y : Int} (hc : x ≠ y) (h : A) : Br (!decide (V.int x = V.int y)) A B := br_of (ite_nit hc h)
theorem br_eby {x y : Int} (h1 : x = y → A) (h2 : x ≠ y → B) : Br (decide (V.int x = V.int y)) A B := br_of (ite_eby h1 h2)
theorem br_enby {x y : Int} (h1 : x ≠ y → A) (h2 : x = y → B) : Br (!decide (V.int x = V.int y)) A B := br_of (ite_enby h1 h2)
theorem br_b (h1 : b = true → A) (h2 : b = false → B) : Br b A B := by
  cases b with
  | true => exact br_T (h1 rfl)
  | false => exact br_F (h2 rfl)
end
def mIfS (c : TT) (t u : TS) : TS := fun D σ H => c σ H fun b H1 => Br b (t D σ H1) (u D σ H1)
def mIf (c : TT) (ta tb : TE) : TE := fun σ H Q => c σ H fun b H1 => Br b (ta σ H1 Q) (tb σ H1 Q)
def mAnd (t u : TT) : TT := fun σ H Q => t σ H fun c H1 => Br c (u σ H1 Q) (Q false H1)
def mOr (t u : TT) : TT := fun σ H Q => t σ H fun c H1 => Br c (Q true H1) (u σ H1 Q)
def mAndV (ta tb : TE) : TE := fun σ H Q => ta σ H fun x H1 => ∃ c, x = .bl c ∧ Br c (tb σ H1 Q) (Q (.bl false) H1)
def mOrV (ta tb : TE) : TE := fun σ H Q => ta σ H fun x H1 => ∃ c, x = .bl c ∧ Br c (Q (.bl true) H1) (tb σ H1 Q)
def mChain (r r' : R2) (ta tb tc : TE) : TE := fun σ H Q => ta σ H fun x H1 => tb σ H1 fun y H2 => r x y H2 fun z H3 => ∃ k, z = .bl k ∧ Br k (tc σ H3 fun w' H4 => r' y w' H4 Q) (Q (.bl false) H3)
def mNot (t : TT) : TT := fun σ H Q => t σ H fun c H1 => Q (!c) H1
def cR2 (r : R2) : R2 := fun x y H Q => ∃ R : VK, r x y H R ∧ ∀ v H', R v H' → Q v H'
section
variable {X : Cx} {e a b c : Expr} {ta tb tc : TE} {tt tA tB' : TT} {pos : Pos} {t u : TS} {rest : List Expr}
theorem pw_weak {tt' : TT} (h : PW X e tt) (w : ∀ σ H Q, tt' σ H Q → tt σ H Q) : PW X e tt' := ⟨fun wh pins s σ H Q I q => h.run wh pins s σ H Q I (w σ H Q q)⟩
theorem pt_weak {tt' : TT} (h : PT X e tt) (w : ∀ σ H Q, tt' σ H Q → tt σ H Q) : PT X e tt' := ⟨fun pins s σ H Q I q => h.run pins s σ H Q I (w σ H Q q)⟩
theorem opr_c {f : Value → Value → Sem Value} {r : R2} (h : OpR X f r) : OpR X f (cR2 r) := fun pins s σ H x y v u Q I rx ry ⟨R, h1, h2⟩ => thn (h pins s σ H x y v u R I rx ry h1) fun w s1 ⟨z, H1, I1, rz, q⟩ => ⟨z, H1, I1, rz, h2 _ _ q⟩
theorem ps_ifM {bs us : List Stmt} (hc : PT X c tt) (ha : PSs X bs t) (hb : PSs X us u) : PS X (.If c bs us pos) (mIfS tt t u) := ps_weak (ps_if (pt_c hc) ha hb) fun D σ H q => ⟨_, q, fun b H1 r => r.un⟩
theorem pe_ifM (hc : PT X c tt) (ha : PE X a ta) (hb : PE X b tb) : PE X (.IfExp c a b pos) (mIf tt ta tb) := pe_weak (pe_ifExp (pt_c hc) ha hb) fun σ H Q q => ⟨_, q, fun b H1 r => r.un⟩
theorem pw_andM (ha : PT X a tA) (hb : PW X (.BoolOp .And (b :: rest) pos) tB') : PW X (.BoolOp .And (a :: b :: rest) pos) (mAnd tA tB') := pw_weak (pw_and (pt_c ha) hb) fun σ H Q q => ⟨_, q, fun b H1 r => r.un⟩
theorem pw_orM (ha : PT X a tA) (hb : PW X (.BoolOp .Or (b :: rest) pos) tB') : PW X (.BoolOp .Or (a :: b :: rest) pos) (mOr tA tB') := pw_weak (pw_or (pt_c ha) hb) fun σ H Q q => ⟨_, q, fun b H1 r => r.un⟩
theorem pe_andM (ha : PE X a ta) (hb : PE X (.BoolOp .And (b :: rest) pos) tb) : PE X (.BoolOp .And (a :: b :: rest) pos) (mAndV ta tb) := pe_weak (pe_and (pe_c ha) hb) fun σ H Q q => ⟨_, q, fun v H1 ⟨c, e, r⟩ => ⟨c, e, r.un⟩⟩
theorem pe_orM (ha : PE X a ta) (hb : PE X (.BoolOp .Or (b :: rest) pos) tb) : PE X (.BoolOp .Or (a :: b :: rest) pos) (mOrV ta tb) := pe_weak (pe_or (pe_c ha) hb) fun σ H Q q => ⟨_, q, fun v H1 ⟨c, e, r⟩ => ⟨c, e, r.un⟩⟩
theorem pe_chainM {op op' : CmpOp} {r r' : R2} (ho : OpR X (compareOp op) r) (ho' : OpR X (compareOp op') r') (ha : PE X a ta) (hb : PE X b tb) (hc : PE X c tc) (hm : lastMarks [op, op'] [b, c] = false := by with_unfolding_all rfl) : PE X (.Compare a [op, op'] [b, c] pos) (mChain r r' ta tb tc) :=
  pe_weak (pe_chain (opr_c ho) ho' (pe_c ha) (pe_c hb) hc hm) fun σ H Q q => ⟨_, q, fun x H1 q1 => ⟨_, q1, fun y H2 q2 => ⟨_, q2, fun z H3 ⟨k, e, r⟩ => ⟨k, e, r.un⟩⟩⟩⟩
theorem pt_chainM {op op' : CmpOp} {r r' : R2} (ho : OpR X (compareOp op) r) (ho' : OpR X (compareOp op') r') (ha : PE X a ta) (hb : PE X b tb) (hc : PE X c tc) (hm : lastMarks [op, op'] [b, c] = false := by with_unfolding_all rfl) : PT X (.Compare a [op, op'] [b, c] pos) (tTest (mChain r r' ta tb tc)) :=
  pt_weak (pt_chain (opr_c ho) ho' (pe_c ha) (pe_c hb) hc hm) fun σ H Q q => ⟨_, q, fun x H1 q1 => ⟨_, q1, fun y H2 q2 => ⟨_, q2, fun z H3 ⟨k, e, r⟩ => ⟨k, e, r.un⟩⟩⟩⟩
end
/-! ### the operators, told without a redex -/
def mAdd : R2 := fun x y H Q => ∃ i j, x = .int i ∧ y = .int j ∧ Q (.int (i + j)) H
def mSub : R2 := fun x y H Q => ∃ i j, x = .int i ∧ y = .int j ∧ Q (.int (i - j)) H
def mMul : R2 := fun x y H Q => ∃ i j, x = .int i ∧ y = .int j ∧ CMul i j ∧ Q (.int (i * j)) H
def mMulW : R2 := fun x y H Q => ∃ i j, x = .int i ∧ y = .int j ∧ CMulW i j ∧ Q (.int (i * j)) H
def mDiv : R2 := fun x y H Q => ∃ i j, x = .int i ∧ y = .int j ∧ CDiv i j ∧ Q (.int (i / j)) H
def mDivW : R2 := fun x y H Q => ∃ i j, x = .int i ∧ y = .int j ∧ CDivW i j ∧ Q (.int (i / j)) H
def mMod : R2 := fun x y H Q => ∃ i j, x = .int i ∧ y = .int j ∧ 0 < j ∧ Q (.int (i % j)) H
def mPow : R2 := fun x y H Q => ∃ i j, x = .int i ∧ y = .int j ∧ CPow i j ∧ Q (.int (i ^ j.toNat)) H
def mShl1 : R2 := fun x y H Q => ∃ j, x = .int 1 ∧ y = .int j ∧ (0 ≤ j ∧ j ≤ 1000000) ∧ Q (.int (2 ^ j.toNat)) H
def mShl : R2 := fun x y H Q => ∃ i j, x = .int i ∧ y = .int j ∧ CShl i j ∧ Q (.int (i * 2 ^ j.toNat)) H
def mShr : R2 := fun x y H Q => ∃ i j, x = .int i ∧ y = .int j ∧ 0 ≤ j ∧ Q (.int (i / 2 ^ j.toNat)) H
def mAndI : R2 := fun x y H Q => ∃ i j, x = .int i ∧ y = .int j ∧ Q (.int (Builtin.bitAnd i j)) H
def mXorI : R2 := fun x y H Q => ∃ i j, x = .int i ∧ y = .int j ∧ Q (.int (Builtin.bitXor i j)) H
def mLt : R2 := fun x y H Q => ∃ i j, x = .int i ∧ y = .int j ∧ Q (.bl (decide (i < j))) H
def mLe : R2 := fun x y H Q => ∃ i j, x = .int i ∧ y = .int j ∧ Q (.bl (decide (i ≤ j))) H
def mGt : R2 := fun x y H Q => ∃ i j, x = .int i ∧ y = .int j ∧ Q (.bl (decide (j < i))) H
def mGe : R2 := fun x y H Q => ∃ i j, x = .int i ∧ y = .int j ∧ Q (.bl (decide (j ≤ i))) H
section
variable {X : Cx}
theorem op_addM : OpR X (binaryOp .Add) mAdd := op_add
theorem op_subM : OpR X (binaryOp .Sub) mSub := op_sub
theorem op_mulM : OpR X (binaryOp .Mult) mMul := op_mul
theorem op_mulWM : OpR X (binaryOp .Mult) mMulW := op_mulW
theorem op_fdivM : OpR X (binaryOp .FloorDiv) mDiv := op_fdiv
theorem op_fdivWM : OpR X (binaryOp .FloorDiv) mDivW := op_fdivW
theorem op_modM : OpR X (binaryOp .Mod) mMod := op_mod
theorem op_powM : OpR X (binaryOp .Pow) mPow := op_pow
theorem op_shl1M : OpR X (binaryOp .LShift) mShl1 := fun pins s σ H x y v u Q I rx ry ⟨j, e1, e2, hj, q⟩ => op_shl pins s σ H x y v u Q I rx ry ⟨1, j, e1, e2, ⟨hj.1, hj.2, by decide⟩, by
  show Q (.int (1 * 2 ^ j.toNat)) H
  rw [Int.one_mul]
  exact q⟩
theorem op_shlM : OpR X (binaryOp .LShift) mShl := op_shlW
theorem op_shrM : OpR X (binaryOp .RShift) mShr := op_shr
theorem op_bandM : OpR X (binaryOp .BitAnd) mAndI := op_and
theorem op_bxorM : OpR X (binaryOp .BitXor) mXorI := op_xor
theorem op_ltM : OpR X (compareOp .Lt) mLt := op_lt
theorem op_leM : OpR X (compareOp .LtE) mLe := op_le
theorem op_gtM : OpR X (compareOp .Gt) mGt := op_gt
theorem op_geM : OpR X (compareOp .GtE) mGe := op_ge
end

theorem two_pos (k : Nat) : (0 : Int) < 2 ^ k := Int.pow_pos (by decide)

@[irreducible] def mIsi (K : PySem.W.Frag) : List V → Hp → VK → Prop := rIsi K
theorem call_isiM {X : Cx} : CallR X (.builtin "isinstance") (mIsi X.K) := fun pins s σ H xs us Q I r q => call_isi pins s σ H xs us Q I r (by
  unfold mIsi at q
  exact q)
section
variable {K : PySem.W.Frag} {H : Hp} {Q : VK}
theorem rd_isiIB {i : Int} (h : Q (.bl false) H) : mIsi K [.int i, .ty "bool"] H Q := by
  unfold mIsi
  exact ⟨_, _, _, _, false, rfl, ClsV.ty _, TyX.base (TyOf.int _), by rfl, h⟩
theorem rd_isiII {i : Int} (h : Q (.bl true) H) : mIsi K [.int i, .ty "int"] H Q := by
  unfold mIsi
  exact ⟨_, _, _, _, true, rfl, ClsV.ty _, TyX.base (TyOf.int _), by rfl, h⟩
theorem rd_isiBB {b : Bool} (h : Q (.bl true) H) : mIsi K [.bl b, .ty "bool"] H Q := by
  unfold mIsi
  exact ⟨_, _, _, _, true, rfl, ClsV.ty _, TyX.base (TyOf.bl _), by rfl, h⟩
theorem rd_isiTT {a : Addr} {xs : List V} (e : H a = some (.tup xs)) (h : Q (.bl true) H) : mIsi K [.ref a, .ty "tuple"] H Q := by
  unfold mIsi
  exact ⟨_, _, _, _, true, rfl, ClsV.ty _, TyX.base (TyOf.tup e), by rfl, h⟩
theorem rd_isiLL {a : Addr} {xs : List V} (e : H a = some (.lst xs)) (h : Q (.bl true) H) : mIsi K [.ref a, .ty "list"] H Q := by
  unfold mIsi
  exact ⟨_, _, _, _, true, rfl, ClsV.ty _, TyX.base (TyOf.lst e), by rfl, h⟩
end

/-! ### equal data -/
def Sh (n : Nat) (d : PyData) : Prop := d.canLay0 = true ∧ d.depth ≤ n
def ShA (n : Nat) (ds : List PyData) : Prop := PyData.canLayAll0 ds = true ∧ PyData.depthAll ds ≤ n
theorem sh_int {i : Int} {n : Nat} : Sh n (.int i) := ⟨rfl, Nat.zero_le _⟩
theorem sh_bl {i : Bool} {n : Nat} : Sh n (.bool i) := ⟨rfl, Nat.zero_le _⟩
theorem sh_non {n : Nat} : Sh n .none := ⟨rfl, Nat.zero_le _⟩
theorem sh_str {x : Str} {n : Nat} (h : PyData.canLay0 (.str x) = true) : Sh n (.str x) := ⟨h, Nat.zero_le _⟩
theorem sh_nil {n : Nat} : ShA n [] := ⟨rfl, Nat.zero_le _⟩
theorem sh_cons {n : Nat} {d : PyData} {ds : List PyData} (h : Sh n d) (k : ShA n ds) : ShA n (d :: ds) := by
  refine ⟨?_, ?_⟩
  · show (d.canLay0 && PyData.canLayAll0 ds) = true
    rw [h.1, k.1]
    rfl
  · show max d.depth (PyData.depthAll ds) ≤ n
    have := h.2
    have := k.2
    omega
theorem sh_lst {n : Nat} {ds : List PyData} (h : ShA n ds) : Sh (n + 1) (.list ds) := ⟨h.1, Nat.succ_le_succ h.2⟩
theorem sh_tup {n : Nat} {ds : List PyData} (h : ShA n ds) : Sh (n + 1) (.tuple ds) := ⟨h.1, Nat.succ_le_succ h.2⟩
theorem sh_map {α : Type} {n : Nat} {f : α → PyData} (h : ∀ x, Sh n (f x)) : ∀ l : List α, ShA n (l.map f)
  | [] => sh_nil
  | x :: r => sh_cons (h x) (sh_map h r)
theorem sh_app {n : Nat} : ∀ {ds es : List PyData}, ShA n ds → ShA n es → ShA n (ds ++ es)
  | [], _, _, k => k
  | d :: r, es, h, k => by
    have h1 : (d.canLay0 && PyData.canLayAll0 r) = true := h.1
    have h2 : max d.depth (PyData.depthAll r) ≤ n := h.2
    rw [Bool.and_eq_true] at h1
    exact sh_cons ⟨h1.1, by omega⟩ (sh_app ⟨h1.2, by omega⟩ k)
theorem Sh.shaped {n : Nat} {d : PyData} (h : Sh n d) (hn : n ≤ 64 := by decide) : SeqAt.shaped d = true := by
  unfold SeqAt.shaped
  rw [h.1, decide_eq_true (Nat.le_trans h.2 hn)]
  rfl
theorem sh_ints {n : Nat} (l : List Int) : ShA n (l.map PyData.int) := sh_map (fun _ => sh_int) l
section
variable {K : PySem.W.Frag} {H : Hp} {Q : VK} {x y : V}
theorem dpa_ints : ∀ l : List Int, DpAll K H (l.map V.int) (l.map PyData.int)
  | [] => .nil
  | i :: r => .cons (.int i) (dpa_ints r)
theorem dp_ints {a : Addr} {l : List Int} (h : SqL K H a (l.map V.int)) : Dp K H (.ref a) (.list (l.map PyData.int)) := .lst h (dpa_ints l)
@[irreducible] def mEqD (K : PySem.W.Frag) : R2 := rEqD K
@[irreducible] def mNeD (K : PySem.W.Frag) : R2 := rNeD K
theorem rd_eqS {n : Nat} (d : PyData) (h1 : Dp K H x d) (h2 : Dp K H y d) (hs : Sh n d) (h : Q (.bl true) H) (hn : n ≤ 64 := by decide) : mEqD K x y H Q := by
  unfold mEqD
  exact ⟨d, d, h1, h2, hs.shaped hn, hs.shaped hn, by rw [PySem.SeqAt.eqv_refl d hs.1]; exact h⟩
theorem rd_neS {n : Nat} (d : PyData) (h1 : Dp K H x d) (h2 : Dp K H y d) (hs : Sh n d) (h : Q (.bl false) H) (hn : n ≤ 64 := by decide) : mNeD K x y H Q := by
  unfold mNeD
  exact ⟨d, d, h1, h2, hs.shaped hn, hs.shaped hn, by rw [PySem.SeqAt.eqv_refl d hs.1]; exact h⟩
/-- of any two: the answer is that of the data -/
theorem rd_eqA {n m : Nat} (d e : PyData) (h1 : Dp K H x d) (h2 : Dp K H y e) (hs : Sh n d) (hs2 : Sh m e) (h : Q (.bl (PyData.eqv d e)) H) (hn : n ≤ 64 := by decide) (hm : m ≤ 64 := by decide) : mEqD K x y H Q := by
  unfold mEqD
  exact ⟨d, e, h1, h2, hs.shaped hn, hs2.shaped hm, h⟩
theorem rd_neA {n m : Nat} (d e : PyData) (h1 : Dp K H x d) (h2 : Dp K H y e) (hs : Sh n d) (hs2 : Sh m e) (h : Q (.bl (!PyData.eqv d e)) H) (hn : n ≤ 64 := by decide) (hm : m ≤ 64 := by decide) : mNeD K x y H Q := by
  unfold mNeD
  exact ⟨d, e, h1, h2, hs.shaped hn, hs2.shaped hm, h⟩
end
section
variable {X : Cx}
theorem op_eqDM (hu : X.A.units + 64 < cLine) : OpR X (compareOp .Eq) (mEqD X.K) := fun pins s σ H x y v u Q I rx ry q => op_eqD hu pins s σ H x y v u Q I rx ry (by
  unfold mEqD at q
  exact q)
theorem op_neDM (hu : X.A.units + 64 < cLine) : OpR X (compareOp .NotEq) (mNeD X.K) := fun pins s σ H x y v u Q I rx ry q => op_neD hu pins s σ H x y v u Q I rx ry (by
  unfold mNeD at q
  exact q)
end
/-! ### one-step readings that know their heap -/
@[irreducible] def mIxL (K : PySem.W.Frag) : R2 := rIxL K
theorem ix_listM {X : Cx} : IxR X (mIxL X.K) := fun value slice pins s σ H x y v u Q I rx ry q e => ix_list value slice pins s σ H x y v u Q I rx ry (by
  unfold mIxL at q
  exact q) e
@[irreducible] def mIxT (K : PySem.W.Frag) : R2 := rIxT K
theorem ix_tupM {X : Cx} : IxR X (mIxT X.K) := fun value slice pins s σ H x y v u Q I rx ry q e => ix_tup value slice pins s σ H x y v u Q I rx ry (by
  unfold mIxT at q
  exact q) e
section
variable {K : PySem.W.Frag} {H : Hp} {Q : VK} {a : Addr} {xs : List V} {k : Int} {v : V}
theorem rd_ixL (h : SqL K H a xs) (ha : atI xs k = some v) (q : Q v H) : mIxL K (.ref a) (.int k) H Q := by
  unfold mIxL
  exact ⟨a, xs, k, v, rfl, rfl, h, ha, q⟩
theorem rd_ixT (h : SqT K H a xs) (ha : atI xs k = some v) (q : Q v H) : mIxT K (.ref a) (.int k) H Q := by
  unfold mIxT
  exact ⟨a, xs, k, v, rfl, rfl, h, ha, q⟩
theorem rd_ixI {ns : List Int} (h : SqL K H a (ns.map V.int)) (h0 : 0 ≤ k) (h1 : k < (ns.length : Int)) (q : Q (.int (ns.getD k.toNat 0)) H) : mIxL K (.ref a) (.int k) H Q := rd_ixL h (at_int h0 h1) q
end
@[irreducible] def mLen (K : PySem.W.Frag) : List V → Hp → VK → Prop := fun xs H Q => ∃ p ys, xs = [.ref p] ∧ (SqL K H p ys ∨ SqT K H p ys) ∧ Q (.int ys.length) H
theorem call_lenM {X : Cx} : CallR X (.builtin "len") (mLen X.K) := fun pins s σ H xs us Q I r q => call_len_seq pins s σ H xs us Q I r (by
  unfold mLen at q
  exact q)
theorem rd_len {K : PySem.W.Frag} {H : Hp} {Q : VK} {a : Addr} {xs : List V} (h : SqL K H a xs) (q : Q (.int xs.length) H) : mLen K [.ref a] H Q := by
  unfold mLen
  exact ⟨a, xs, rfl, .inl h, q⟩
theorem rd_lenI {K : PySem.W.Frag} {H : Hp} {Q : VK} {a : Addr} {ns : List Int} (h : SqL K H a (ns.map V.int)) (q : Q (.int ns.length) H) : mLen K [.ref a] H Q := rd_len h (by rw [List.length_map]; exact q)
theorem rd_lenT {K : PySem.W.Frag} {H : Hp} {Q : VK} {a : Addr} {xs : List V} (h : SqT K H a xs) (q : Q (.int xs.length) H) : mLen K [.ref a] H Q := by
  unfold mLen
  exact ⟨a, xs, rfl, .inr h, q⟩
/-- xs.append(e) -/
@[irreducible] def mApp (x y : V) (H : Hp) (Q : VK) : Prop := ∃ l xs, x = .ref l ∧ H l = some (.lst xs) ∧ xs.length < 1000000 ∧ Q .non (upd H l (.lst (xs ++ [y])))
def mAppE (to te : TE) : TE := fun σ H Q => to σ H fun x H1 => ∃ l xs, x = .ref l ∧ H1 l = some (.lst xs) ∧ te σ H1 fun y H2 => mApp x y H2 Q
theorem rd_app {l : Addr} {xs : List V} {y : V} {H : Hp} {Q : VK} (h : H l = some (.lst xs)) (hz : xs.length < 1000000) (q : Q .non (upd H l (.lst (xs ++ [y])))) : mApp (.ref l) y H Q := by
  unfold mApp
  exact ⟨l, xs, rfl, h, hz, q⟩
theorem pe_app {X : Cx} {o e : Expr} {to te : TE} {apos cpos : Pos} (ho : PE X o to) (he : PE X e te) (hbase : attributeBase o "append" X.env (eval o X.env) = eval o X.env := by rfl)
    (hfew : ((backTo cpos (starEach [e] X.env)).all (fun x => !x.1) && (backToKw cpos (keywordEach [] X.env)).all (fun x => x.1.isSome)
      && decide ([e].length + ([] : List Keyword).length + (if ([] : List Keyword).isEmpty then 0 else 1) < 30)) = true := by rfl)
    (hline : (apos.endLine == cpos.line) = true := by rfl) (hs : starEach [e] X.env = (false, eval e X.env) :: starEach [] X.env := by rfl) (hplain : (backTo cpos (starEach [] X.env)).any (·.1) = false := by rfl) :
    PE X (.Call (.Attribute o "append" apos) [e] [] cpos) (mAppE to te) :=
  pe_weak (pe_bm PySem.F.plainAttrs_list PySem.F.slot_list_append PySem.F.type_list_append mt_append (pe_c ho) (pa_cons (pe_c he) pa_nil hs) hbase hfew hline hs hplain) fun σ H Q q => by
    refine ⟨_, q, fun x H1 r => ?_⟩
    obtain ⟨l, xs, rfl, h, r⟩ := r
    refine ⟨Or.inl ⟨rfl, _, SqL.of h⟩, _, r, fun y H2 r2 => ?_⟩
    unfold mApp at r2
    obtain ⟨l2, ys, e2, h2, hz, q2⟩ := r2
    exact ⟨l2, ys, y, e2, rfl, h2, szl hz, q2⟩
/-- o[i] = e, o a list -/
@[irreducible] def mSetL : V → V → V → Hp → (Hp → Prop) → Prop := rSetL
theorem set_listM {X : Cx} : PSet X mSetL := fun pins s σ H o i v uo ui uv Q I ro ri rv q => set_list pins s σ H o i v uo ui uv Q I ro ri rv (by
  unfold mSetL at q
  exact q)
theorem rd_setL {l : Addr} {xs : List V} {k : Int} {y : V} {H : Hp} {Q : Hp → Prop} (h : H l = some (.lst xs)) (h0 : 0 ≤ k) (h1 : k < (xs.length : Int)) (q : Q (upd H l (.lst (xs.set k.toNat y)))) : mSetL (.ref l) (.int k) y H Q := by
  unfold mSetL
  refine ⟨l, xs, k, k.toNat, rfl, rfl, h, ?_, q⟩
  unfold ixN
  first
    | (rw [if_pos h0, if_pos (by omega)]; done)
    | (rw [if_neg (by omega), if_pos (by omega)]; done)
    | simp [show ¬ k < 0 by omega, h0, h1]
/-- what a loop keeps of its own list: all else as it was -/
def But (p : Addr) (H H' : Hp) : Prop := ∀ b o, b ≠ p → H b = some o → H' b = some o

@[irreducible] def mSum (K : PySem.W.Frag) : List V → Hp → VK → Prop := rSum K
theorem call_sumM {X : Cx} (hc : X.calm = true) : CallR X (.builtin "sum") (mSum X.K) := fun pins s σ H xs us Q I r q => cr_sum hc pins s σ H xs us Q I r (by
  unfold mSum at q
  exact q)
theorem rd_sum {K : PySem.W.Frag} {H : Hp} {Q : VK} {a : Addr} {ns : List Int} (h : SqL K H a (ns.map V.int)) (q : Q (.int ns.sum) H) : mSum K [.ref a] H Q := by
  unfold mSum
  exact ⟨a, ns, rfl, h, q⟩

/-- isinstance(e, C), e the error that the suite holds, whatever its class -/
def mIsE (K : PySem.W.Frag) (cls : Value) (d : Option Addr) (a : Addr) : List V → Hp → VK → Prop := fun xs H Q => ∃ (D C : Addr) (b : Bool), xs = [.ref a, .ref C] ∧ cls = .ref D ∧ d = none ∧ ExcC K D ∧ PySem.W.kitOne K (.ref D) (.ref C) = some b ∧ Q (.bl b) H
theorem call_isEM {X : Cx} {a : Addr} {oe : Obj} {cls : Value} {d : Option Addr} {pn : List (Addr × Obj)} (hz : Zc cls d oe) (hf : ∃ vs, oe.data = .fields vs) : CallR (X.suite a ((a, oe) :: pn)) (.builtin "isinstance") (mIsE X.K cls d a) := by
  intro pins s σ H xs us Q I r h
  obtain ⟨D, C, b, rfl, rfl, rfl, hD, hk, q⟩ := h
  exact call_isE hD hz hf pins s σ H [.ref a, .ref C] us Q I r ⟨.ref C, .ref C, b, rfl, fun u hu => hu, hk, q⟩
theorem kit_same {K : PySem.W.Frag} {D : Addr} : PySem.W.kitOne K (.ref D) (.ref D) = some true := by
  unfold PySem.W.kitOne
  rw [if_pos (by simp)]

/-! ### constants, extend, repetition, min of three -/
theorem pe_gint {X : Cx} {x : Str} {n : Int} {pos : Pos} (hg : Gl X x) (hm : ∃ t, X.mg x = some (.int n t)) (hd : (x == ("__debug__" : Str)) = false := by decide) : PE X (.Name x pos) (tC (.int n)) := by
  obtain ⟨t, hm⟩ := hm
  exact pe_glob hg hm ⟨t, rfl⟩ hd
@[irreducible] def mExt (x y : V) (H : Hp) (Q : VK) : Prop := ∃ l b xs zs, x = .ref l ∧ y = .ref b ∧ H l = some (.lst xs) ∧ H b = some (.lst zs) ∧ xs.length + zs.length ≤ 1000000 ∧ Q .non (upd H l (.lst (xs ++ zs)))
def mExtE (to te : TE) : TE := fun σ H Q => to σ H fun x H1 => ∃ l xs, x = .ref l ∧ H1 l = some (.lst xs) ∧ te σ H1 fun y H2 => mExt x y H2 Q
theorem rd_ext {l b : Addr} {xs zs : List V} {H : Hp} {Q : VK} (h : H l = some (.lst xs)) (hb : H b = some (.lst zs)) (hz : xs.length + zs.length ≤ 1000000) (q : Q .non (upd H l (.lst (xs ++ zs)))) : mExt (.ref l) (.ref b) H Q := by
  unfold mExt
  exact ⟨l, b, xs, zs, rfl, rfl, h, hb, hz, q⟩
theorem pe_ext {X : Cx} {o e : Expr} {to te : TE} {apos cpos : Pos} (ho : PE X o to) (he : PE X e te) (hbase : attributeBase o "extend" X.env (eval o X.env) = eval o X.env := by rfl)
    (hfew : ((backTo cpos (starEach [e] X.env)).all (fun x => !x.1) && (backToKw cpos (keywordEach [] X.env)).all (fun x => x.1.isSome)
      && decide ([e].length + ([] : List Keyword).length + (if ([] : List Keyword).isEmpty then 0 else 1) < 30)) = true := by rfl)
    (hline : (apos.endLine == cpos.line) = true := by rfl) (hs : starEach [e] X.env = (false, eval e X.env) :: starEach [] X.env := by rfl) (hplain : (backTo cpos (starEach [] X.env)).any (·.1) = false := by rfl) :
    PE X (.Call (.Attribute o "extend" apos) [e] [] cpos) (mExtE to te) :=
  pe_weak (pe_bm PySem.F.plainAttrs_list PySem.F.slot_list_extend PySem.F.type_list_extend mt_extend (pe_c ho) (pa_cons (pe_c he) pa_nil hs) hbase hfew hline hs hplain) fun σ H Q q => by
    refine ⟨_, q, fun x H1 r => ?_⟩
    obtain ⟨l, xs, rfl, h, r⟩ := r
    refine ⟨Or.inl ⟨rfl, _, SqL.of h⟩, _, r, fun y H2 r2 => ?_⟩
    unfold mExt at r2
    obtain ⟨l2, b2, ys, zs, e2, rfl, h2, h3, hz, q2⟩ := r2
    exact ⟨l2, b2, ys, zs, e2, rfl, h2, h3, sz hz, q2⟩
theorem op_repM {X : Cx} : OpR X (binaryOp .Mult) mRep := fun pins s σ H x y v u Q I rx ry q => op_rep pins s σ H x y v u Q I rx ry (by
  unfold mRep at q
  obtain ⟨l, k, xs, e1, e2, h1, h0, hk, hz, h⟩ := q
  have big : (2 : Int) ^ 63 = 9223372036854775808 := by decide
  exact ⟨l, k, xs, e1, e2, h1, by omega, by omega, sz hz, h.go⟩)
theorem rd_rep {l : Addr} {k : Int} {xs : List V} {H : Hp} {Q : VK} (h1 : H l = some (.lst xs)) (h0 : 0 ≤ k) (hk : k ≤ 100000) (hz : xs.length * k.toNat ≤ 1000000) (h : NewO (.lst (List.replicate k.toNat xs).flatten) H Q) : mRep (.ref l) (.int k) H Q := by
  unfold mRep
  exact ⟨l, k, xs, rfl, rfl, h1, h0, hk, hz, h⟩
def mMin3 : List V → Hp → VK → Prop := fun vs H Q => ∃ i j k, vs = [.int i, .int j, .int k] ∧ Q (.int (min (min i j) k)) H
theorem call_min3M {X : Cx} (hc : X.calm = true) : CallR X (.builtin "min") mMin3 := fun pins s σ H xs us Q I r ⟨i, j, k, e, q⟩ => call_min3Nu hc pins s σ H xs us Q I r ⟨_, _, _, _, e, by
  show (Option.map (fun c => if c = true then V.int j else V.int i) (some (decide (j < i)))).bind _ = _
  by_cases h : j < i
  · rw [decide_eq_true h]
    show Option.map (fun c => if c = true then V.int k else V.int j) (some (decide (k < j))) = some (.int (min (min i j) k))
    by_cases h2 : k < j
    · rw [decide_eq_true h2]
      show some (V.int k) = _
      congr 2
      omega
    · rw [decide_eq_false h2]
      show some (V.int j) = _
      congr 2
      omega
  · rw [decide_eq_false h]
    show Option.map (fun c => if c = true then V.int k else V.int i) (some (decide (k < i))) = some (.int (min (min i j) k))
    by_cases h2 : k < i
    · rw [decide_eq_true h2]
      show some (V.int k) = _
      congr 2
      omega
    · rw [decide_eq_false h2]
      show some (V.int i) = _
      congr 2
      omega, q⟩
/-! ### comprehensions whose elements are new tuples -/
def EltT (te : TE) (σ : L2.St) (H : Hp) (xs : List V) : Prop := ∀ H', Same H H' → te σ H' fun v H'' => Same H' H'' ∧ ∃ p, v = .ref p ∧ H'' p = some (.tup xs)
def NewTs (n : Nat) (f : Nat → List V) (H : Hp) (Q : VK) : Prop := ∀ (D : Addr) (H' : Hp) (ps : List Addr), H D = none → Same H H' → H' D = some (.lst (ps.map V.ref)) → ps.length = n → (∀ i p, ps[i]? = some p → H' p = some (.tup (f i))) → Q (.ref D) H'
@[irreducible] def mLcTR3 (ta : TA) (j : Nat) (te : TE) (vs : List Nat) : TE := fun σ H Q => ta σ H fun ws H1 => ∃ (lo hi c : Int) (n : Nat) (f : Nat → List V), ws = [.int lo, .int hi, .int c] ∧ RgC lo hi c n ∧ n ≤ 1000 ∧ (∀ i, i < n → EltT te ((wipe σ vs).set j (some (.int (lo + (i : Nat) * c)))) H1 (f i)) ∧ NewTs n f H1 Q
theorem rd_lcTR3 {ta : TA} {j : Nat} {te : TE} {vs : List Nat} {σ : L2.St} {H : Hp} {Q : VK} (h : ta σ H fun ws H1 => ∃ (lo hi c : Int) (n : Nat) (f : Nat → List V), ws = [.int lo, .int hi, .int c] ∧ RgC lo hi c n ∧ n ≤ 1000 ∧ (∀ i, i < n → EltT te ((wipe σ vs).set j (some (.int (lo + (i : Nat) * c)))) H1 (f i)) ∧ NewTs n f H1 Q) : mLcTR3 ta j te vs σ H Q := by
  unfold mLcTR3
  exact h
@[irreducible] def mLcTL (K : PySem.W.Frag) (tl : TE) (j : Nat) (te : TE) (vs : List Nat) : TE := fun σ H Q => tl σ H fun x H1 => ∃ (a : Addr) (xs : List V) (f : Nat → List V), x = .ref a ∧ SqL K H1 a xs ∧ xs.length ≤ 1000 ∧ (∀ i y, xs[i]? = some y → EltT te ((wipe σ vs).set j (some y)) H1 (f i)) ∧ NewTs xs.length f H1 Q
theorem rd_lcTL {K : PySem.W.Frag} {tl : TE} {j : Nat} {te : TE} {vs : List Nat} {σ : L2.St} {H : Hp} {Q : VK} (h : tl σ H fun x H1 => ∃ (a : Addr) (xs : List V) (f : Nat → List V), x = .ref a ∧ SqL K H1 a xs ∧ xs.length ≤ 1000 ∧ (∀ i y, xs[i]? = some y → EltT te ((wipe σ vs).set j (some y)) H1 (f i)) ∧ NewTs xs.length f H1 Q) : mLcTL K tl j te vs σ H Q := by
  unfold mLcTL
  exact h
def TsW (H1 : Hp) (D : Addr) (f : Nat → List V) (i : Nat) (H' : Hp) : Prop := Same H1 H' ∧ ∃ ps : List Addr, H' D = some (.lst (ps.map V.ref)) ∧ ps.length = i ∧ ∀ k p, ps[k]? = some p → H' p = some (.tup (f k))
theorem TsW.next {H1 H' H'' : Hp} {D p : Addr} {f : Nat → List V} {i : Nat} (hD : H1 D = none) (w : TsW H1 D f i H') (s : Same H' H'') (hp : H'' p = some (.tup (f i))) : ∃ acc, H'' D = some (.lst acc) ∧ acc.length = i ∧ TsW H1 D f (i + 1) (upd H'' D (.lst (acc ++ [.ref p]))) := by
  obtain ⟨sm, ps, hd, hl, ht⟩ := w
  have hd2 := s _ _ hd
  have ne : ∀ {q : Addr} {xs : List V}, H'' q = some (.tup xs) → q ≠ D := fun {q xs} h e => by
    rw [e, hd2] at h
    cases h
  refine ⟨_, hd2, by rw [List.length_map, hl], same_mut (sm.trans s) hD, ps ++ [p], ?_, by rw [List.length_append, List.length_singleton, hl], fun k q hk => ?_⟩
  · rw [upd_same, List.map_append]
    rfl
  · by_cases h : k < ps.length
    · rw [List.getElem?_append_left h] at hk
      have := s _ _ (ht k q hk)
      rw [upd_ne (ne this)]
      exact this
    · rw [List.getElem?_append_right (by omega)] at hk
      have h0 : k - ps.length = 0 := by
        cases e : k - ps.length with
        | zero => rfl
        | succ m => rw [e] at hk; simp at hk
      rw [h0] at hk
      have e : p = q := Option.some.inj hk
      have ek : k = i := by omega
      subst e
      rw [ek, upd_ne (ne hp)]
      exact hp
section
variable {X : Cx} {te : TE} {ta : TA} {pos : Pos}
theorem lcTR3_of {ta : TA} {j : Nat} {te : TE} {vs : List Nat} {σ : L2.St} {H : Hp} {Q : VK} (hj : vs = [j]) (q : mLcTR3 ta j te vs σ H Q) : tLc (iRng3 (cTA ta)) (gName j) tYes (cTE te) vs σ H Q := by
  unfold mLcTR3 at q
  refine ⟨_, q, fun ws H1 r => ?_⟩
  obtain ⟨lo, hi, c, n, f, rfl, hr, hn, he, hq⟩ := r
  refine ⟨lo, hi, c, n, rfl, hr, fun D hD => ?_⟩
  refine ⟨fun i m H' => m = n - i ∧ i ≤ n ∧ TsW H1 D f i H', ⟨n, rfl, Nat.zero_le _, same_upd hD, [], upd_same, rfl, fun k p h => by cases h⟩, ?_⟩
  rintro i m H' ⟨rfl, hi, w⟩
  by_cases hlt : i < n
  · refine .inr ⟨hlt, TsW H1 D f (i + 1), fun H2 w2 => ⟨n - (i + 1), by omega, rfl, hlt, w2⟩, fun x H2 y => ?_⟩
    obtain ⟨e, y⟩ := y
    subst e
    subst y
    refine ⟨wipe_set hj, _, he i hlt _ w.1, fun v H'' r => ?_⟩
    obtain ⟨s, p, rfl, hp⟩ := r
    obtain ⟨acc, h1, h2, h3⟩ := w.next hD s hp
    exact ⟨acc, h1, szl (by omega), h3⟩
  · have e : i = n := by omega
    subst e
    obtain ⟨sm, ps, hd, hl, ht⟩ := w
    exact .inl ⟨Nat.le_refl _, hq D H' ps hD sm hd hl ht⟩
theorem lcTL_of {K : PySem.W.Frag} {tl : TE} {j : Nat} {te : TE} {vs : List Nat} {σ : L2.St} {H : Hp} {Q : VK} (hj : vs = [j]) (q : mLcTL K tl j te vs σ H Q) : tLc (iList K (cTE tl)) (gName j) tYes (cTE te) vs σ H Q := by
  unfold mLcTL at q
  refine ⟨_, q, fun x H1 r => ?_⟩
  obtain ⟨a, xs, f, rfl, hx, hn, he, hq⟩ := r
  refine ⟨a, rfl, ⟨xs, hx⟩, fun D hD => ?_⟩
  refine lc_list (xs := xs) (fun i H' => TsW H1 D f i H') ⟨same_upd hD, [], upd_same, rfl, fun k p h => by cases h⟩ (fun i H' _ w => w.1.seq hx) (fun i y H' hi w => ⟨wipe_set hj, _, he i y hi H' w.1, fun v H'' r => ?_⟩) fun H' w => ?_
  · obtain ⟨s, p, rfl, hp⟩ := r
    obtain ⟨acc, h1, h2, h3⟩ := w.next hD s hp
    have hl : i < xs.length := (List.getElem?_eq_some_iff.mp hi).1
    exact ⟨acc, h1, szl (by omega), h3⟩
  · obtain ⟨sm, ps, hd, hl, ht⟩ := w
    exact hq D H' ps hD sm hd hl ht
theorem pe_lcTL {elt it : Expr} {scope : Scope} {j : Nat} {x : Str} {xpos : Pos} (hc : X.calm = true) (hN : X.N.Nodup) {tl : TE} (ha : PE X it tl) (ok : BlkOk X.N X.env.scope scope [(x, j)])
    (hgt : ∀ (s : Shared) (H : Hp) (C : Addr) (cl : List (Str × Addr)) (fp : List Addr), PG (X.blk s H scope (compEnvC scope cl C X.env) fp) (.Name x xpos) (gName j))
    (he : ∀ (s : Shared) (H : Hp) (C : Addr) (cl : List (Str × Addr)) (fp : List Addr), PE (X.blk s H scope (compEnvC scope cl C X.env) fp) elt te) (hs2 : ∀ y, foldedSetIterable it X.env y = pure y := by intro _; rfl) :
    PE X (.ListComp elt [⟨.Name x xpos, it, [], 0⟩] scope pos) (mLcTL X.K tl j te [j]) :=
  pe_weak (pe_lc hc hN (pi_list (pe_c ha)) ok hgt (fun _ _ _ _ _ => pts_nil) (fun s H C cl fp => pe_c (he s H C cl fp)) hs2) fun _ _ _ q => lcTL_of rfl q
theorem ps_setLcTL {i : Nat} {y : Str} {py spos : Pos} {elt it : Expr} {scope : Scope} {j : Nat} {x : Str} {xpos : Pos} {tl : TE} (hc : X.calm = true) (hN : X.N.Nodup) (hy : X.N[i]? = some y) (hyl : X.env.scope.names.lookup y = some .local)
    (hsw : swapsWith (.ListComp elt [⟨.Name x xpos, it, [], 0⟩] scope pos) (some (.Name y py)) spos.line X.env = pure true) (ha : PE X it tl) (ok : BlkOk X.N X.env.scope scope [(x, j)])
    (hgt : ∀ (s : Shared) (H : Hp) (C : Addr) (cl : List (Str × Addr)) (fp : List Addr), PG (X.blk s H scope (compEnvC scope cl C X.env) fp) (.Name x xpos) (gName j))
    (he : ∀ (s : Shared) (H : Hp) (C : Addr) (cl : List (Str × Addr)) (fp : List Addr), PE (X.blk s H scope (compEnvC scope cl C X.env) fp) elt te) (hs2 : ∀ y, foldedSetIterable it X.env y = pure y := by intro _; rfl) :
    PS X (.Assign [.Name y py] (.ListComp elt [⟨.Name x xpos, it, [], 0⟩] scope pos) spos) (tAsg (mLcTL X.K tl j te [j]) (gName i)) :=
  ps_weak (ps_setLc hc hN hy hyl hsw (pi_list (pe_c ha)) ok hgt (fun _ _ _ _ _ => pts_nil) (fun s H C cl fp => pe_c (he s H C cl fp)) hs2) fun _ _ _ q => lcTL_of rfl q
theorem ps_setLcTR3 {i : Nat} {y : Str} {py spos : Pos} {elt : Expr} {scope : Scope} {j : Nat} {x : Str} {a b c : Expr} {p p2 xpos : Pos} (hc : X.calm = true) (hN : X.N.Nodup) (hy : X.N[i]? = some y) (hyl : X.env.scope.names.lookup y = some .local)
    (hsw : swapsWith (.ListComp elt [⟨.Name x xpos, .Call (.Name "range" p) [a, b, c] [] p2, [], 0⟩] scope pos) (some (.Name y py)) spos.line X.env = pure true) (hg : Gl X "range") (hm : X.mg "range" = none) (ha : PA X [a, b, c] ta) (ok : BlkOk X.N X.env.scope scope [(x, j)])
    (hgt : ∀ (s : Shared) (H : Hp) (C : Addr) (cl : List (Str × Addr)) (fp : List Addr), PG (X.blk s H scope (compEnvC scope cl C X.env) fp) (.Name x xpos) (gName j))
    (he : ∀ (s : Shared) (H : Hp) (C : Addr) (cl : List (Str × Addr)) (fp : List Addr), PE (X.blk s H scope (compEnvC scope cl C X.env) fp) elt te)
    (hs : starEach [a, b, c] X.env = (false, eval a X.env) :: starEach [b, c] X.env := by rfl) (hpl : (backTo p2 (starEach [b, c] X.env)).any (·.1) = false := by rfl) (hs2 : ∀ y, foldedSetIterable (.Call (.Name "range" p) [a, b, c] [] p2) X.env y = pure y := by intro _; rfl) :
    PS X (.Assign [.Name y py] (.ListComp elt [⟨.Name x xpos, .Call (.Name "range" p) [a, b, c] [] p2, [], 0⟩] scope pos) spos) (tAsg (mLcTR3 ta j te [j]) (gName i)) :=
  ps_weak (ps_setLc hc hN hy hyl hsw (pi_range3 hg hm (pa_c ha) hs hpl) ok hgt (fun _ _ _ _ _ => pts_nil) (fun s H C cl fp => pe_c (he s H C cl fp)) hs2) fun _ _ _ q => lcTR3_of rfl q
end

/-! ### the same rules within a comprehension: the written part by its own name -/
section
variable {X : Cx} {K : PySem.W.Frag}
theorem ix_listK (h : X.K = K) : IxR X (mIxL K) := h ▸ ix_listM
theorem ix_tupK (h : X.K = K) : IxR X (mIxT K) := h ▸ ix_tupM
theorem call_lenK (h : X.K = K) : CallR X (.builtin "len") (mLen K) := h ▸ call_lenM
end

theorem br_nonI {x : Int} {A B : Prop} (h : B) : Br (decide (V.int x = V.non)) A B := br_f (fun e => by cases e) h
theorem br_nonR {x : Addr} {A B : Prop} (h : B) : Br (decide (V.ref x = V.non)) A B := br_f (fun e => by cases e) h
theorem br_nonN {A B : Prop} (h : A) : Br (decide (V.non = V.non)) A B := br_t rfl h
theorem dec_nonI {x : Int} : decide (V.int x = V.non) = false := decide_eq_false fun e => by cases e
theorem dec_nonR {x : Addr} : decide (V.ref x = V.non) = false := decide_eq_false fun e => by cases e

/-! ### if t: x = e, told once by what x holds behind it -/
@[irreducible] def IfSet (b : Bool) (te : TE) (i : Nat) (D : Ends) (σ : L2.St) (H : Hp) : Prop := ∃ P : V → Hp → Prop, (b = true → te σ H P) ∧ (b = false → ∃ v, σ.set i (some v) = σ ∧ P v H) ∧ ∀ v H', P v H' → D.nx (σ.set i (some v)) H'
theorem rd_ifSet {b : Bool} {te : TE} {i : Nat} {D : Ends} {σ : L2.St} {H : Hp} (P : V → Hp → Prop) (h1 : b = true → te σ H P) (h2 : b = false → ∃ v, σ.set i (some v) = σ ∧ P v H) (k : ∀ v H', P v H' → D.nx (σ.set i (some v)) H') : IfSet b te i D σ H := by
  unfold IfSet
  exact ⟨P, h1, h2, k⟩
def mIfSet (tt : TT) (te : TE) (i : Nat) : TS := fun D σ H => tt σ H fun b H1 => IfSet b te i D σ H1
theorem ps_ifSet {X : Cx} {i : Nat} {x : Str} {c e : Expr} {tt : TT} {te : TE} {pos pos2 pos' : Pos} (hc : PT X c tt) (hN : X.N.Nodup) (hi : X.N[i]? = some x) (hx : Loc X.env.scope x) (he : PE X e te) (hs : swapsWith e (some (.Name x pos')) pos2.line X.env = pure false := by rfl)
    (hf : X.fn x = true ∨ X.env.scope.names.lookup x = some .local := by first | exact .inl rfl | exact .inr rfl | assumption) : PS X (.If c [.Assign [.Name x pos'] e pos2] [] pos) (mIfSet tt te i) :=
  ps_weak (ps_if (pt_c hc) (pss_one (ps_set (i := i) hN hi hx (pe_c he) hs hf)) pss_nil) fun D σ H q => ⟨_, q, fun b H1 r => by
    unfold IfSet at r
    obtain ⟨P, h1, h2, k⟩ := r
    cases b with
    | true => exact iteT ⟨P, h1 rfl, fun v H' p => k v H' p⟩
    | false =>
      obtain ⟨v, e, p⟩ := h2 rfl
      refine iteF ?_
      have := k v H1 p
      rw [e] at this
      exact this⟩
section
variable {X : Cx}
/-- what stands in a list at a whole number, as the store in place reads it -/
theorem get_listM : PGet X (mIxL X.K) := fun pins s σ H x y vx vy Q inv rx ry h => by
  unfold mIxL at h
  obtain ⟨p, xs, k, z, rfl, rfl, hsq, hat, q⟩ := h
  cases rx
  obtain ⟨tk, rfl⟩ := ry
  obtain ⟨its, rel, plain, _⟩ := inv.list hsq
  obtain ⟨j, hj, hget, hn, hlo, hhi⟩ := atI_get hat
  obtain ⟨wv, hwv, relz⟩ := rel.get hget
  have hlen := rel.length
  have h63 := line63
  by_cases hk : 0 ≤ k
  · have ej : k.toNat = j := by
      rw [seqIndex_of hk hhi] at hj
      exact Option.some.inj hj
    exact wpAny_getItem_list plain.isList hk (by omega) (by rw [ej]; simpa using hwv) ⟨z, H, inv, relz, q⟩
  · have ej : (k + (its.toArray.size : Int)).toNat = j := by
      rw [seqIndex_neg (by omega) hlo] at hj
      rw [List.size_toArray, ← hlen]
      exact Option.some.inj hj
    exact wpAny_getItem_list_neg plain.isList (by omega) (by rw [List.size_toArray]; omega) (by omega) (by rw [ej]; simpa using hwv) ⟨z, H, inv, relz, q⟩
end
section
variable {X : Cx} {te : TE} {ta : TA} {pos : Pos}
/-- [(…) for x in range(n)] -/
@[irreducible] def mLcTR1 (ta : TA) (j : Nat) (te : TE) (vs : List Nat) : TE := fun σ H Q => ta σ H fun ws H1 => ∃ (n : Int) (f : Nat → List V), ws = [.int n] ∧ (-100000 ≤ n ∧ n ≤ 100000) ∧ (∀ i, i < n.toNat → EltT te ((wipe σ vs).set j (some (.int (i : Nat)))) H1 (f i)) ∧ NewTs n.toNat f H1 Q
theorem rd_lcTR1 {ta : TA} {j : Nat} {te : TE} {vs : List Nat} {σ : L2.St} {H : Hp} {Q : VK} (h : ta σ H fun ws H1 => ∃ (n : Int) (f : Nat → List V), ws = [.int n] ∧ (-100000 ≤ n ∧ n ≤ 100000) ∧ (∀ i, i < n.toNat → EltT te ((wipe σ vs).set j (some (.int (i : Nat)))) H1 (f i)) ∧ NewTs n.toNat f H1 Q) : mLcTR1 ta j te vs σ H Q := by
  unfold mLcTR1
  exact h
theorem lcTR1_of {ta : TA} {j : Nat} {te : TE} {vs : List Nat} {σ : L2.St} {H : Hp} {Q : VK} (hj : vs = [j]) (q : mLcTR1 ta j te vs σ H Q) : tLc (iRng1 (cTA ta)) (gName j) tYes (cTE te) vs σ H Q := by
  unfold mLcTR1 at q
  refine ⟨_, q, fun ws H1 r => ?_⟩
  obtain ⟨n, f, rfl, ⟨hn0, hn⟩, he, hq⟩ := r
  have big : (2 : Int) ^ 62 = 4611686018427387904 := by decide
  refine ⟨n, rfl, by omega, by omega, fun D hD => ?_⟩
  refine lc_range (lo := 0) (n := n.toNat) (fun i H' => TsW H1 D f i H') ⟨same_upd hD, [], upd_same, rfl, fun k p h => by cases h⟩ (fun i H' hi w => ⟨wipe_set hj, ?_⟩) fun H' w => ?_
  · show cTE te ((wipe σ vs).set j (some (.int (0 + (i : Int))))) H' _
    rw [Int.zero_add]
    refine ⟨_, he i hi H' w.1, fun v H'' r => ?_⟩
    obtain ⟨s, p, rfl, hp⟩ := r
    obtain ⟨acc, h1, h2, h3⟩ := w.next hD s hp
    exact ⟨acc, h1, szl (by omega), h3⟩
  · obtain ⟨sm, ps, hd, hl, ht⟩ := w
    exact hq D H' ps hD sm hd hl ht
theorem ps_setLcTR1 {i : Nat} {y : Str} {py spos : Pos} {elt : Expr} {scope : Scope} {j : Nat} {x : Str} {a : Expr} {p p2 xpos : Pos} (hc : X.calm = true) (hN : X.N.Nodup) (hy : X.N[i]? = some y) (hyl : X.env.scope.names.lookup y = some .local)
    (hsw : swapsWith (.ListComp elt [⟨.Name x xpos, .Call (.Name "range" p) [a] [] p2, [], 0⟩] scope pos) (some (.Name y py)) spos.line X.env = pure true) (hg : Gl X "range") (hm : X.mg "range" = none) (ha : PA X [a] ta) (ok : BlkOk X.N X.env.scope scope [(x, j)])
    (hgt : ∀ (s : Shared) (H : Hp) (C : Addr) (cl : List (Str × Addr)) (fp : List Addr), PG (X.blk s H scope (compEnvC scope cl C X.env) fp) (.Name x xpos) (gName j))
    (he : ∀ (s : Shared) (H : Hp) (C : Addr) (cl : List (Str × Addr)) (fp : List Addr), PE (X.blk s H scope (compEnvC scope cl C X.env) fp) elt te)
    (hs : starEach [a] X.env = [(false, eval a X.env)] := by rfl) (hs2 : ∀ y, foldedSetIterable (.Call (.Name "range" p) [a] [] p2) X.env y = pure y := by intro _; rfl) :
    PS X (.Assign [.Name y py] (.ListComp elt [⟨.Name x xpos, .Call (.Name "range" p) [a] [] p2, [], 0⟩] scope pos) spos) (tAsg (mLcTR1 ta j te [j]) (gName i)) :=
  ps_weak (ps_setLc hc hN hy hyl hsw (pi_range1 hg hm (pa_c ha) hs) ok hgt (fun _ _ _ _ _ => pts_nil) (fun s H C cl fp => pe_c (he s H C cl fp)) hs2) fun _ _ _ q => lcTR1_of rfl q
end
/-! ### a comprehension over any walk, its elements values, some left out -/
def IMono (wi' wi : TI) : Prop := ∀ (σ : L2.St) (H : Hp) (R R' : It → Hp → Prop), (∀ J H', R J H' → R' J H') → wi' σ H R → wi σ H R'
section
variable {K : PySem.W.Frag}
theorem im_zip {ta : TA} : IMono (iZip K ta) (iZip K (cTA ta)) := fun σ H R R' h q => ⟨_, q, fun v H' r => by
  obtain ⟨a, b, xs, ys, e, h1, h2, r⟩ := r
  exact ⟨a, b, xs, ys, e, h1, h2, h _ _ r⟩⟩
theorem im_enum {ta : TA} : IMono (iEnum K ta) (iEnum K (cTA ta)) := fun σ H R R' h q => ⟨_, q, fun v H' r => by
  obtain ⟨a, xs, e, h1, r⟩ := r
  exact ⟨a, xs, e, h1, h _ _ r⟩⟩
theorem im_list {tl : TE} : IMono (iList K tl) (iList K (cTE tl)) := fun σ H R R' h q => ⟨_, q, fun v H' r => by
  obtain ⟨a, e, h1, r⟩ := r
  exact ⟨a, e, h1, h _ _ r⟩⟩
theorem im_tup {tl : TE} : IMono (iTup K tl) (iTup K (cTE tl)) := fun σ H R R' h q => ⟨_, q, fun v H' r => by
  obtain ⟨a, e, h1, r⟩ := r
  exact ⟨a, e, h1, h _ _ r⟩⟩
theorem im_rng1 {ta : TA} : IMono (iRng1 ta) (iRng1 (cTA ta)) := fun σ H R R' h q => ⟨_, q, fun v H' r => by
  obtain ⟨j, e, h1, h2, r⟩ := r
  exact ⟨j, e, h1, h2, h _ _ r⟩⟩
theorem im_rng2 {ta : TA} : IMono (iRng2 ta) (iRng2 (cTA ta)) := fun σ H R R' h q => ⟨_, q, fun v H' r => by
  obtain ⟨i, j, e, h1, r⟩ := r
  exact ⟨i, j, e, h1, h _ _ r⟩⟩
end
/-- the new list at D behind i turns -/
structure LcP (H1 : Hp) (D : Addr) (keep : Nat → Bool) (f : Nat → V) (i : Nat) (H' : Hp) : Prop where
  sm : Same H1 H'
  at' : H' D = some (.lst (((List.range i).filter keep).map f))
def LcN (H1 : Hp) (D : Addr) (keep : Nat → Bool) (f : Nat → V) (i : Nat) (y : V) (H4 : Hp) : Prop := ∃ acc, H4 D = some (.lst acc) ∧ acc.length < sizeLine ∧ LcP H1 D keep f (i + 1) (upd H4 D (.lst (acc ++ [y])))
theorem LcP.put {H1 H' H4 : Hp} {D : Addr} {keep : Nat → Bool} {f : Nat → V} {i : Nat} {y : V} (p : LcP H1 D keep f i H') (hD : H1 D = none) (hi : i < 100000) (s : Same H' H4) (hk : keep i = true) (e : y = f i) : LcN H1 D keep f i y H4 := by
  refine ⟨_, s _ _ p.at', ?_, same_mut (p.sm.trans s) hD, ?_⟩
  · have h1 := List.length_filter_le keep (List.range i)
    rw [List.length_range] at h1
    rw [List.length_map]
    exact szl (by omega)
  · rw [upd_same, List.range_succ, List.filter_append, List.map_append, e]
    have e2 : [i].filter keep = [i] := by
      rw [List.filter_cons, if_pos hk]
      rfl
    rw [e2]
    rfl
theorem LcP.skip {H1 H' H4 : Hp} {D : Addr} {keep : Nat → Bool} {f : Nat → V} {i : Nat} (p : LcP H1 D keep f i H') (s : Same H' H4) (hk : keep i = false) : LcP H1 D keep f (i + 1) H4 := by
  refine ⟨p.sm.trans s, ?_⟩
  rw [s _ _ p.at', List.range_succ, List.filter_append]
  have e2 : [i].filter keep = [] := by
    rw [List.filter_cons, if_neg (by rw [hk]; decide)]
    rfl
  rw [e2, List.append_nil]
@[irreducible] def mLcP (wi : TI) (g : TG) (tt : TT) (te : TE) (vs : List Nat) : TE := fun σ H Q => wi σ H fun J H1 => ∃ (n : Nat) (G : Hp → Prop) (Y : Nat → Hp → V → Hp → Prop) (keep : Nat → Bool) (f : Nat → V), Walk J n G Y ∧ n ≤ 100000 ∧ (∀ H', Same H1 H' → G H') ∧
  (∀ D, H1 D = none → ∀ i x H' H'', i < n → LcP H1 D keep f i H' → Y i H' x H'' → g x (wipe σ vs) H'' fun σ2 H2 => wipe σ2 vs = wipe σ vs ∧ tt σ2 H2 fun b H3 => Br b (te σ2 H3 fun y H4 => LcN H1 D keep f i y H4) (LcP H1 D keep f (i + 1) H3)) ∧ NewO (.lst (((List.range n).filter keep).map f)) H1 Q
theorem rd_lcP {wi : TI} {g : TG} {tt : TT} {te : TE} {vs : List Nat} {σ : L2.St} {H : Hp} {Q : VK} (h : wi σ H fun J H1 => ∃ (n : Nat) (G : Hp → Prop) (Y : Nat → Hp → V → Hp → Prop) (keep : Nat → Bool) (f : Nat → V), Walk J n G Y ∧ n ≤ 100000 ∧ (∀ H', Same H1 H' → G H') ∧
  (∀ D, H1 D = none → ∀ i x H' H'', i < n → LcP H1 D keep f i H' → Y i H' x H'' → g x (wipe σ vs) H'' fun σ2 H2 => wipe σ2 vs = wipe σ vs ∧ tt σ2 H2 fun b H3 => Br b (te σ2 H3 fun y H4 => LcN H1 D keep f i y H4) (LcP H1 D keep f (i + 1) H3)) ∧ NewO (.lst (((List.range n).filter keep).map f)) H1 Q) : mLcP wi g tt te vs σ H Q := by
  unfold mLcP
  exact h
def cTG (g : TG) : TG := fun v σ H Q => ∃ R : L2.St → Hp → Prop, g v σ H R ∧ ∀ σ' H', R σ' H' → Q σ' H'
section
variable {X : Cx} {e tg : Expr} {ifs : List Expr} {g : TG} {tt : TT} {te : TE}
theorem pg_c (h : PG X tg g) : PG X tg (cTG g) := ⟨fun pins s σ H v u Q I r ⟨R, h1, h2⟩ => wpAny_mono (h.run pins s σ H v u R I r h1) (fun _ s1 ⟨σ1, H1, I1, q⟩ => ⟨σ1, H1, I1, h2 _ _ q⟩) fun _ _ z => z⟩
theorem pts_c (h : PTs X ifs tt) : PTs X ifs (cTT tt) := ⟨fun pins s σ H Q I ⟨R, h1, h2⟩ => wpAny_mono (h.run pins s σ H R I h1) (fun _ s1 ⟨H1, I1, q⟩ => ⟨H1, I1, h2 _ _ q⟩) fun _ _ z => z⟩
theorem lcP_of {wi wi' : TI} {vs : List Nat} {σ : L2.St} {H : Hp} {Q : VK} (hw : IMono wi' wi) (q : mLcP wi' g tt te vs σ H Q) : tLc wi (cTG g) (cTT tt) (cTE te) vs σ H Q := by
  unfold mLcP at q
  refine hw _ _ _ _ (fun J H1 r => ?_) q
  obtain ⟨n, G, Y, keep, f, w, hn, hG, ht, hq⟩ := r
  intro D hD
  refine lc_it w (LcP H1 D keep f) ⟨same_upd hD, upd_same⟩ (fun i H' _ p => hG H' p.sm) (fun i x H' H'' hi p y => ?_) fun H' p => hq D H' hD p.sm p.at'
  refine ⟨_, ht D hD i x H' H'' hi p y, fun σ2 H2 r => ⟨r.1, _, r.2, fun b H3 r => ?_⟩⟩
  cases b with
  | true => exact iteT ⟨_, (r.un : if true = true then _ else _), fun y H4 z => z⟩
  | false => exact iteF (r.un : if false = true then _ else _)
theorem pe_lcP {iter elt : Expr} {scope : Scope} {own : List (Str × Nat)} {pos : Pos} {wi wi' : TI} (vs : List Nat) (hw : IMono wi' wi) (hc : X.calm = true) (hN : X.N.Nodup) (hi : PI X tg iter wi) (ok : BlkOk X.N X.env.scope scope own)
    (hg : ∀ (s : Shared) (H : Hp) (C : Addr) (cl : List (Str × Addr)) (fp : List Addr), PG (X.blk s H scope (compEnvC scope cl C X.env) fp) tg g) (ht : ∀ (s : Shared) (H : Hp) (C : Addr) (cl : List (Str × Addr)) (fp : List Addr), PTs (X.blk s H scope (compEnvC scope cl C X.env) fp) ifs tt)
    (he : ∀ (s : Shared) (H : Hp) (C : Addr) (cl : List (Str × Addr)) (fp : List Addr), PE (X.blk s H scope (compEnvC scope cl C X.env) fp) elt te) (hvs : own.map (·.2) = vs := by rfl) (hs : ∀ x, foldedSetIterable iter X.env x = pure x := by intro _; rfl) :
    PE X (.ListComp elt [⟨tg, iter, ifs, 0⟩] scope pos) (mLcP wi' g tt te vs) :=
  pe_weak (pe_lc hc hN hi ok (fun s H C cl fp => pg_c (hg s H C cl fp)) (fun s H C cl fp => pts_c (ht s H C cl fp)) (fun s H C cl fp => pe_c (he s H C cl fp)) hs) fun _ _ _ q => by
    rw [hvs]
    exact lcP_of hw q
theorem ps_setLcP {i : Nat} {y : Str} {py : Pos} {iter elt : Expr} {scope : Scope} {own : List (Str × Nat)} {pos spos : Pos} {wi wi' : TI} (vs : List Nat) (hw : IMono wi' wi) (hc : X.calm = true) (hN : X.N.Nodup) (hy : X.N[i]? = some y) (hyl : X.env.scope.names.lookup y = some .local)
    (hsw : swapsWith (.ListComp elt [⟨tg, iter, ifs, 0⟩] scope pos) (some (.Name y py)) spos.line X.env = pure true) (hi : PI X tg iter wi) (ok : BlkOk X.N X.env.scope scope own)
    (hg : ∀ (s : Shared) (H : Hp) (C : Addr) (cl : List (Str × Addr)) (fp : List Addr), PG (X.blk s H scope (compEnvC scope cl C X.env) fp) tg g) (ht : ∀ (s : Shared) (H : Hp) (C : Addr) (cl : List (Str × Addr)) (fp : List Addr), PTs (X.blk s H scope (compEnvC scope cl C X.env) fp) ifs tt)
    (he : ∀ (s : Shared) (H : Hp) (C : Addr) (cl : List (Str × Addr)) (fp : List Addr), PE (X.blk s H scope (compEnvC scope cl C X.env) fp) elt te) (hvs : own.map (·.2) = vs := by rfl) (hs : ∀ x, foldedSetIterable iter X.env x = pure x := by intro _; rfl) :
    PS X (.Assign [.Name y py] (.ListComp elt [⟨tg, iter, ifs, 0⟩] scope pos) spos) (tAsg (mLcP wi' g tt te vs) (gName i)) :=
  ps_weak (ps_setLc hc hN hy hyl hsw hi ok (fun s H C cl fp => pg_c (hg s H C cl fp)) (fun s H C cl fp => pts_c (ht s H C cl fp)) (fun s H C cl fp => pe_c (he s H C cl fp)) hs) fun _ _ _ q => by
    rw [hvs]
    exact lcP_of hw q
end
theorem wipe2 {σ : L2.St} {i j : Nat} {x y : Option V} (h : i ≠ j) : wipe (((wipe σ [i, j]).set i x).set j y) [i, j] = wipe σ [i, j] := by
  show (((((σ.set j none).set i none).set i x).set j y).set j none).set i none = (σ.set j none).set i none
  have e : ∀ (z : Option V), ((σ.set j none).set i z).set j none = (σ.set j none).set i z := fun z => by rw [List.set_comm _ _ h, List.set_set]
  rw [List.set_set, List.set_set, e, List.set_set]
/-! ### slices; lists of whole numbers compared -/
theorem sIx_nn {n d : Nat} {k : Int} (h : 0 ≤ k) : HT.sIx n d (some k) = min k.toNat n := by
  show (if k < 0 then (k + (n : Int)).toNat else min k.toNat n) = _
  rw [if_neg (by omega)]
theorem sIx_neg {n d : Nat} {k : Int} (h : k < 0) : HT.sIx n d (some k) = (k + (n : Int)).toNat := by
  show (if k < 0 then (k + (n : Int)).toNat else min k.toNat n) = _
  rw [if_pos h]
theorem drop_min {α : Type} (xs : List α) (k : Nat) : xs.drop (min k xs.length) = xs.drop k := by
  by_cases h : k ≤ xs.length
  · rw [Nat.min_eq_left h]
  · rw [Nat.min_eq_right (by omega), List.drop_of_length_le (Nat.le_refl _), List.drop_of_length_le (by omega)]
theorem take_all {α : Type} (xs : List α) {k m : Nat} (h : xs.length ≤ k) (h2 : xs.length ≤ m) : xs.take k = xs.take m := by
  rw [List.take_of_length_le h, List.take_of_length_le h2]
theorem cutX_from {xs : List V} {k : Int} (h : 0 ≤ k) : cutV xs (some k) none = xs.drop k.toNat := by
  unfold cutV
  rw [HT.sIx_none, sIx_nn h, drop_min]
  refine List.take_of_length_le ?_
  rw [List.length_drop]
  omega
theorem cutX_to {xs : List V} {k : Int} (h : 0 ≤ k) : cutV xs none (some k) = xs.take k.toNat := by
  unfold cutV
  rw [HT.sIx_none, sIx_nn h, List.drop_zero, Nat.sub_zero]
  by_cases h2 : k.toNat ≤ xs.length
  · rw [Nat.min_eq_left h2]
  · exact take_all _ (by omega) (by omega)
theorem cutX_nn {xs : List V} {i j : Int} (h : 0 ≤ i) (h' : 0 ≤ j) : cutV xs (some i) (some j) = (xs.drop i.toNat).take (j.toNat - i.toNat) := by
  unfold cutV
  rw [sIx_nn h, sIx_nn h', drop_min]
  by_cases h2 : j.toNat ≤ xs.length
  · by_cases h3 : i.toNat ≤ xs.length
    · rw [Nat.min_eq_left h2, Nat.min_eq_left h3]
    · rw [List.drop_of_length_le (by omega), List.take_nil, List.take_nil]
  · refine take_all _ ?_ ?_ <;> (rw [List.length_drop]; omega)
theorem cutX_butLast {xs : List V} {i : Int} (h : 0 ≤ i) : cutV xs (some i) (some (-1)) = (xs.drop i.toNat).take (xs.length - 1 - i.toNat) := by
  unfold cutV
  rw [sIx_nn h, sIx_neg (by decide), drop_min]
  have e : (-1 + (xs.length : Int)).toNat = xs.length - 1 := by omega
  rw [e]
  by_cases h3 : i.toNat ≤ xs.length
  · rw [Nat.min_eq_left h3]
  · rw [List.drop_of_length_le (by omega), List.take_nil, List.take_nil]
theorem eqvAll_ints : ∀ ns ms : List Int, PyData.eqvAll (ns.map PyData.int) (ms.map PyData.int) = decide (ns = ms)
  | [], [] => rfl
  | [], _ :: _ => by
    rw [decide_eq_false (by intro e; cases e)]
    rfl
  | _ :: _, [] => by
    rw [decide_eq_false (by intro e; cases e)]
    rfl
  | a :: r, b :: s => by
    rw [List.map_cons, List.map_cons, PyData.eqvAll, eqvAll_ints r s, PyData.eqv]
    by_cases h : a = b
    · subst h
      simp
    · simp [h]
section
variable {K : PySem.W.Frag} {H : Hp} {Q : VK} {a b : Addr}
theorem rd_eqI {ns ms : List Int} (h1 : SqL K H a (ns.map V.int)) (h2 : SqL K H b (ms.map V.int)) (h : Q (.bl (decide (ns = ms))) H) : mEqD K (.ref a) (.ref b) H Q :=
  rd_eqA (n := 1) (m := 1) (.list (ns.map PyData.int)) (.list (ms.map PyData.int)) (dp_ints h1) (dp_ints h2) (sh_lst (sh_ints _)) (sh_lst (sh_ints _)) (by rw [PyData.eqv, eqvAll_ints]; exact h)
theorem rd_neI {ns ms : List Int} (h1 : SqL K H a (ns.map V.int)) (h2 : SqL K H b (ms.map V.int)) (h : Q (.bl (!decide (ns = ms))) H) : mNeD K (.ref a) (.ref b) H Q :=
  rd_neA (n := 1) (m := 1) (.list (ns.map PyData.int)) (.list (ms.map PyData.int)) (dp_ints h1) (dp_ints h2) (sh_lst (sh_ints _)) (sh_lst (sh_ints _)) (by rw [PyData.eqv, eqvAll_ints]; exact h)
end
theorem rd_yes {σ : L2.St} {H : Hp} {Q : Bool → Hp → Prop} (h : Q true H) : tYes σ H Q := h
theorem at_last {ns : List Int} (h : 0 < ns.length) : atI (ns.map V.int) (-1) = some (.int (ns.getD (ns.length - 1) 0)) := by
  have hne : ns ≠ [] := fun e => by
    rw [e] at h
    cases h
  obtain ⟨r, x, rfl⟩ : ∃ r x, ns = r ++ [x] := ⟨ns.dropLast, ns.getLast hne, (List.dropLast_concat_getLast hne).symm⟩
  rw [List.map_append]
  have e : (r ++ [x]).getD ((r ++ [x]).length - 1) 0 = x := by
    rw [List.length_append, List.length_singleton, Nat.add_sub_cancel, List.getD_eq_getElem?_getD, List.getElem?_append_right (Nat.le_refl _), Nat.sub_self]
    rfl
  rw [e]
  exact atI_last _ _
/-- the frame in another form -/
theorem frS {F : L2.St → Hp → Prop} {σ σ' : L2.St} {H : Hp} (e : σ' = σ) (h : F σ' H) : F σ H := e ▸ h
theorem br_xnonI {x : Int} {A B : Prop} (h : A) : Br (!decide (V.int x = V.non)) A B := br_nt (fun e => by cases e) h
theorem br_xnonR {x : Addr} {A B : Prop} (h : A) : Br (!decide (V.ref x = V.non)) A B := br_nt (fun e => by cases e) h
theorem br_xnonN {A B : Prop} (h : B) : Br (!decide (V.non = V.non)) A B := br_nf rfl h
theorem rd_listT {K : PySem.W.Frag} {a : Addr} {xs : List V} {H : Hp} {Q : VK} (h1 : SqT K H a xs) (h : NewO (.lst xs) H Q) : mListOf K [.ref a] H Q := by
  unfold mListOf
  exact ⟨a, xs, rfl, .inr h1, h⟩
/-- tuple(xs) of a list -/
@[irreducible] def mTupOf (K : PySem.W.Frag) : List V → Hp → VK → Prop := fun xs H Q => ∃ p ys, xs = [.ref p] ∧ SqL K H p ys ∧ NewO (.tup ys) H Q
theorem rd_tupOf {K : PySem.W.Frag} {a : Addr} {xs : List V} {H : Hp} {Q : VK} (h1 : SqL K H a xs) (h : NewO (.tup xs) H Q) : mTupOf K [.ref a] H Q := by
  unfold mTupOf
  exact ⟨a, xs, rfl, h1, h⟩
theorem call_tupOfM {X : Cx} : CallR X (.type "tuple") (mTupOf X.K) := fun pins s σ H xs us Q I r q => call_tuple_of pins s σ H xs us Q I r (by
  unfold mTupOf at q
  obtain ⟨a, ys, e1, h1, h⟩ := q
  exact ⟨a, ys, e1, .inl ⟨h1, h.go⟩⟩)
/-! ### own cells: objects that change, beside a world that only grows -/
structure Cells (H B : Hp) (l : List (Addr × HO)) : Prop where
  cell : ∀ a o, (a, o) ∈ l → H a = some o
  nd : (l.map Prod.fst).Nodup
  imm : Same B H
  dis : ∀ a o, (a, o) ∈ l → B a = none
structure Own (S B0 : Hp) (as : List Addr) (B : Hp) (l : List (Addr × HO)) (H : Hp) : Prop where
  c : Cells H B l
  kept : ∀ b o, b ∉ as → S b = some o → H b = some o
  own : ∀ a o, (a, o) ∈ l → a ∈ as ∨ S a = none
  grow : Same B0 B
  new : ∀ b, B0 b = none → B b ≠ none → S b = none
  there : ∀ a, a ∈ as → H a ≠ none
theorem mem_fst {l : List (Addr × HO)} {a : Addr} {o : HO} (h : (a, o) ∈ l) : a ∈ l.map Prod.fst := List.mem_map.mpr ⟨(a, o), h, rfl⟩
theorem fst_mem {l : List (Addr × HO)} {a : Addr} (h : a ∈ l.map Prod.fst) : ∃ o, (a, o) ∈ l := by
  obtain ⟨⟨a', o⟩, h2, rfl⟩ := List.mem_map.mp h
  exact ⟨o, h2⟩
theorem Cells.start {H B : Hp} {l : List (Addr × HO)} (c : Cells H B l) : Own H B (l.map Prod.fst) B l H :=
  ⟨c, fun _ _ _ h => h, fun _ _ h => .inl (mem_fst h), Same.refl _, fun _ h k => absurd h k, fun a h => by
    obtain ⟨o, h⟩ := fst_mem h
    rw [c.cell a o h]
    exact fun e => nomatch e⟩
theorem Own.mk0 {H : Hp} : Own H H [] H [] H := ⟨⟨fun _ _ h => (nomatch h), List.nodup_nil, Same.refl _, fun _ _ h => (nomatch h)⟩, fun _ _ _ h => h, fun _ _ h => (nomatch h), Same.refl _, fun _ h k => absurd h k, fun _ h => (nomatch h)⟩
section
variable {S B0 B H H' : Hp} {as : List Addr} {l : List (Addr × HO)} {p : Addr} {o : HO}
theorem Own.mem (w : Own S B0 as B l H) (h : (p, o) ∈ l) : H p = some o := w.c.cell p o h
theorem Own.imm (w : Own S B0 as B l H) : Same B H := w.c.imm
theorem Own.same (w : Own S B0 [] B l H) : Same S H := fun b o h => w.kept b o (fun z => nomatch z) h
theorem Own.frS (w : Own S B0 as B l H) (n : H p = none) : S p = none ∧ p ∉ as := by
  have h2 : p ∉ as := fun h => w.there p h n
  refine ⟨?_, h2⟩
  cases e : S p with
  | none => rfl
  | some u => rw [w.kept p u h2 e] at n; cases n
theorem Own.frB (w : Own S B0 as B l H) (n : H p = none) : B p = none := same_none w.imm n
theorem Own.more (w : Own S B0 as B l H) (s : Same H H') : Own S B0 as B l H' :=
  ⟨⟨fun a u h => s _ _ (w.c.cell a u h), w.c.nd, w.c.imm.trans s, w.c.dis⟩, fun b u hb h => s _ _ (w.kept b u hb h), w.own, w.grow, w.new, fun a h e => w.there a h (same_none s e)⟩
theorem Own.notin (w : Own S B0 as B l H) (n : H p = none) {u : HO} : (p, u) ∉ l := fun h => by
  rw [w.c.cell p u h] at n
  cases n
theorem Own.ro (w : Own S B0 as B l H) (n : H p = none) (s : Same H H') (e : H' p = some o) : ∃ B', Same B B' ∧ B' p = some o ∧ B p = none ∧ Own S B0 as B' l H' := by
  have nb := w.frB n
  refine ⟨upd B p o, same_upd nb, upd_same, nb, ⟨fun a u h => s _ _ (w.c.cell a u h), w.c.nd, fun b u h => ?_, fun a u h => ?_⟩, fun b u hb h => s _ _ (w.kept b u hb h), w.own, w.grow.trans (same_upd nb), fun b h k => ?_, fun a h e => w.there a h (same_none s e)⟩
  · by_cases hb : b = p
    · rw [hb, upd_same] at h
      rw [hb, e, h]
    · rw [upd_ne hb] at h
      exact s _ _ (w.c.imm _ _ h)
  · rw [upd_ne (fun z => w.notin n (z ▸ h))]
    exact w.c.dis a u h
  · by_cases hb : b = p
    · rw [hb]
      exact (w.frS n).1
    · rw [upd_ne hb] at k
      exact w.new b h k
theorem Own.add (w : Own S B0 as B l H) (n : H p = none) (s : Same H H') (e : H' p = some o) : Own S B0 as B ((p, o) :: l) H' :=
  ⟨⟨fun a u h => by
      rcases List.mem_cons.mp h with h | h
      · cases h
        exact e
      · exact s _ _ (w.c.cell a u h), List.nodup_cons.mpr ⟨fun h => by
      obtain ⟨u, h⟩ := fst_mem h
      exact w.notin n h, w.c.nd⟩, w.c.imm.trans s, fun a u h => by
      rcases List.mem_cons.mp h with h | h
      · cases h
        exact w.frB n
      · exact w.c.dis a u h⟩, fun b u hb h => s _ _ (w.kept b u hb h), fun a u h => by
      rcases List.mem_cons.mp h with h | h
      · cases h
        exact .inr (w.frS n).1
      · exact w.own a u h, w.grow, w.new, fun a h e => w.there a h (same_none s e)⟩
theorem Own.sub {l' : List (Addr × HO)} (w : Own S B0 as B l H) (h : ∀ c, c ∈ l' → c ∈ l) (nd : (l'.map Prod.fst).Nodup) : Own S B0 as B l' H :=
  ⟨⟨fun a u k => w.c.cell a u (h _ k), nd, w.c.imm, fun a u k => w.c.dis a u (h _ k)⟩, w.kept, fun a u k => w.own a u (h _ k), w.grow, w.new, w.there⟩
/-- a cell changes: a list of the cells as they stand, one of them another -/
theorem Own.chg {l' : List (Addr × HO)} (w : Own S B0 as B l H) {u : HO} (hm : (p, u) ∈ l) (hf : l'.map Prod.fst = l.map Prod.fst) (hc : ∀ a v, (a, v) ∈ l' → (a = p ∧ v = o) ∨ (a ≠ p ∧ (a, v) ∈ l)) : Own S B0 as B l' (upd H p o) := by
  have old : ∀ {a v}, (a, v) ∈ l' → ∃ v', (a, v') ∈ l := fun {a v} h => by
    have := mem_fst h
    rw [hf] at this
    exact fst_mem this
  refine ⟨⟨fun a v h => ?_, hf ▸ w.c.nd, fun b v h => ?_, fun a v h => ?_⟩, fun b v hb h => ?_, fun a v h => ?_, w.grow, w.new, fun a h => ?_⟩
  · rcases hc a v h with ⟨rfl, rfl⟩ | ⟨hn, h⟩
    · exact upd_same
    · rw [upd_ne hn]
      exact w.c.cell a v h
  · have hb : b ≠ p := fun e => by
      rw [e, w.c.dis p u hm] at h
      cases h
    rw [upd_ne hb]
    exact w.c.imm b v h
  · obtain ⟨v', h'⟩ := old h
    exact w.c.dis a v' h'
  · have hn : b ≠ p := fun e => by
      subst e
      rcases w.own b u hm with z | z
      · exact hb z
      · rw [z] at h
        cases h
    rw [upd_ne hn]
    exact w.kept b v hb h
  · obtain ⟨v', h'⟩ := old h
    exact w.own a v' h'
  · by_cases e : a = p
    · rw [e, upd_same]
      exact fun z => nomatch z
    · rw [upd_ne e]
      exact w.there a h
theorem nd_ne {a b : Addr} {x y : HO} {l : List (Addr × HO)} (nd : (((a, x) :: l).map Prod.fst).Nodup) (h : (b, y) ∈ l) : b ≠ a := fun e => by
  subst e
  exact (List.nodup_cons.mp nd).1 (mem_fst h)
/-- the i-th cell changes -/
theorem Own.set (w : Own S B0 as B l H) (i : Nat) {u : HO} (hi : l[i]? = some (p, u)) (o : HO) : Own S B0 as B (l.set i (p, o)) (upd H p o) := by
  have hm : (p, u) ∈ l := List.mem_of_getElem? hi
  have hil := (List.getElem?_eq_some_iff.mp hi).1
  refine w.chg hm ?_ fun a v h => ?_
  · apply List.ext_getElem?
    intro j
    rw [List.getElem?_map, List.getElem?_map, List.getElem?_set]
    by_cases e : i = j
    · subst e
      rw [if_pos rfl, if_pos hil, hi]
      rfl
    · rw [if_neg e]
  · obtain ⟨j, hj⟩ := List.getElem?_of_mem h
    rw [List.getElem?_set] at hj
    by_cases e : i = j
    · rw [if_pos e, if_pos hil] at hj
      cases hj
      exact .inl ⟨rfl, rfl⟩
    · rw [if_neg e] at hj
      refine .inr ⟨fun z => ?_, List.mem_of_getElem? hj⟩
      subst z
      have h1 : (l.map Prod.fst)[i]? = some a := by rw [List.getElem?_map, hi]; rfl
      have h2 : (l.map Prod.fst)[j]? = some a := by rw [List.getElem?_map, hj]; rfl
      have hil2 : i < (l.map Prod.fst).length := by rw [List.length_map]; exact hil
      exact e ((List.getElem?_inj hil2 w.c.nd).mp (h1.trans h2.symm))
/-- a callee that works on the first cells -/
theorem Own.call {lc lr l' : List (Addr × HO)} {B' : Hp} (w : Own S B0 as B (lc ++ lr) H) (w' : Own H B (lc.map Prod.fst) B' l' H') : Own S B0 as B' (l' ++ lr) H' := by
  have nd := w.c.nd
  rw [List.map_append] at nd
  have ndr := (List.nodup_append.mp nd)
  have hr : ∀ a o, (a, o) ∈ lr → a ∉ lc.map Prod.fst := fun a o h k => ndr.2.2 a k a (mem_fst h) rfl
  have hl : ∀ a o, (a, o) ∈ l' → a ∈ lc.map Prod.fst ∨ H a = none := w'.own
  refine ⟨⟨fun a o h => ?_, ?_, w'.c.imm, fun a o h => ?_⟩, fun b o hb h => ?_, fun a o h => ?_, w.grow.trans w'.grow, fun b h k => ?_, fun a h => ?_⟩
  · rcases List.mem_append.mp h with h | h
    · exact w'.c.cell a o h
    · exact w'.kept a o (hr a o h) (w.c.cell a o (List.mem_append_right _ h))
  · rw [List.map_append]
    refine List.nodup_append.mpr ⟨w'.c.nd, ndr.2.1, fun a h b k e => ?_⟩
    subst e
    obtain ⟨o, h⟩ := fst_mem h
    obtain ⟨o2, k⟩ := fst_mem k
    rcases hl a o h with z | z
    · exact hr a o2 k z
    · rw [w.c.cell a o2 (List.mem_append_right _ k)] at z
      cases z
  · rcases List.mem_append.mp h with h | h
    · exact w'.c.dis a o h
    · have hb := w.c.dis a o (List.mem_append_right _ h)
      cases e : B' a with
      | none => rfl
      | some u =>
        have := w'.new a hb (by rw [e]; exact fun z => nomatch z)
        rw [w.c.cell a o (List.mem_append_right _ h)] at this
        cases this
  · refine w'.kept b o (fun z => ?_) (w.kept b o hb h)
    obtain ⟨u, z⟩ := fst_mem z
    rcases w.own b u (List.mem_append_left _ z) with y | y
    · exact hb y
    · rw [y] at h
      cases h
  · rcases List.mem_append.mp h with h | h
    · rcases hl a o h with z | z
      · obtain ⟨u, z⟩ := fst_mem z
        exact w.own a u (List.mem_append_left _ z)
      · exact .inr (w.frS z).1
    · exact w.own a o (List.mem_append_right _ h)
  · cases e : B b with
    | none => exact (w.frS (w'.new b e k)).1
    | some u => exact w.new b h (by rw [e]; exact fun z => nomatch z)
  · intro e
    have ha := w.there a h
    cases e2 : H a with
    | none => exact ha e2
    | some u =>
      by_cases hc : a ∈ lc.map Prod.fst
      · exact w'.there a hc e
      · rw [w'.kept a u hc e2] at e
        cases e
theorem Own.call0 {lc l' : List (Addr × HO)} {B' : Hp} (w : Own S B0 as B lc H) (w' : Own H B (lc.map Prod.fst) B' l' H') : Own S B0 as B' l' H' := by
  have w2 : Own S B0 as B (lc ++ []) H := by rw [List.append_nil]; exact w
  have w3 := w2.call w'
  rw [List.append_nil] at w3
  exact w3
theorem Own.cellsL {lc lr : List (Addr × HO)} (w : Own S B0 as B (lc ++ lr) H) : Cells H B lc := by
  have nd := w.c.nd
  rw [List.map_append] at nd
  exact ⟨fun a o h => w.c.cell a o (List.mem_append_left _ h), (List.nodup_append.mp nd).1, w.c.imm, fun a o h => w.c.dis a o (List.mem_append_left _ h)⟩
/-- the first cell changes no more -/
theorem Own.ice (w : Own S B0 as B ((p, o) :: l) H) (n : S p = none) : ∃ B', Same B B' ∧ B' p = some o ∧ Own S B0 as B' l H := by
  have nb := w.c.dis p o (List.mem_cons_self ..)
  have nd := List.nodup_cons.mp w.c.nd
  refine ⟨upd B p o, same_upd nb, upd_same, ⟨fun a u h => w.c.cell a u (List.mem_cons_of_mem _ h), nd.2, fun b u h => ?_, fun a u h => ?_⟩, w.kept, fun a u h => w.own a u (List.mem_cons_of_mem _ h), w.grow.trans (same_upd nb), fun b h k => ?_, w.there⟩
  · by_cases hb : b = p
    · rw [hb, upd_same] at h
      rw [hb, w.c.cell p o (List.mem_cons_self ..), h]
    · rw [upd_ne hb] at h
      exact w.c.imm b u h
  · rw [upd_ne (fun z => nd.1 (by rw [← show a = p from z]; exact mem_fst h))]
    exact w.c.dis a u (List.mem_cons_of_mem _ h)
  · by_cases hb : b = p
    · rw [hb]
      exact n
    · rw [upd_ne hb] at k
      exact w.new b h k
end

/-! ### fields, methods, dicts, whiles: readings that stop the walk at what the heap holds -/
@[irreducible] def mGetF (C : Addr) (f : Str) (x : V) (H : Hp) (Q : VK) : Prop := ∃ a dx fs v, x = .ref a ∧ H a = some (.ins C dx fs) ∧ fs.lookup f = some v ∧ Q v H
@[irreducible] def mPutF (C : Addr) (f : Str) (x y : V) (H : Hp) (k : Hp → Prop) : Prop := ∃ a dx fs, x = .ref a ∧ H a = some (.ins C dx fs) ∧ fs.length < 1000 ∧ k (upd H a (.ins C dx (putF f y fs)))
@[irreducible] def mIns (C : Addr) (m : Str) (x : V) (H : Hp) (A : Prop) : Prop := ∃ a dx fs, x = .ref a ∧ H a = some (.ins C dx fs) ∧ fs.lookup m = none ∧ A
@[irreducible] def mDIn (x y : V) (H : Hp) (Q : VK) : Prop := ∃ a kvs k, x = .ref a ∧ y = kV k ∧ H a = some (.dK kvs) ∧ Q (.bl (valV kvs k).isSome) H
@[irreducible] def mDNotIn (x y : V) (H : Hp) (Q : VK) : Prop := ∃ a kvs k, x = .ref a ∧ y = kV k ∧ H a = some (.dK kvs) ∧ Q (.bl (!(valV kvs k).isSome)) H
@[irreducible] def mDGet (x y : V) (H : Hp) (Q : VK) : Prop := ∃ a kvs k v, x = .ref a ∧ y = kV k ∧ Rd H a (.dK kvs) ∧ valV kvs k = some v ∧ Q v H
@[irreducible] def mDPut (x y v : V) (H : Hp) (k : Hp → Prop) : Prop := ∃ a kvs key, x = .ref a ∧ y = kV key ∧ H a = some (.dK kvs) ∧ kvs.length < 1000000 ∧ k (upd H a (.dK (putK kvs key v)))
@[irreducible] def mDDel (x y : V) (H : Hp) (k : Hp → Prop) : Prop := ∃ a kvs key, x = .ref a ∧ y = kV key ∧ H a = some (.dK kvs) ∧ (valV kvs key).isSome = true ∧ k (upd H a (.dK (dropK kvs key)))
@[irreducible] def mPopAt (x i : V) (H : Hp) (Q : VK) : Prop := ∃ l xs k y, x = .ref l ∧ i = .int k ∧ H l = some (.lst xs) ∧ 0 ≤ k ∧ k < (xs.length : Int) ∧ k ≤ 1000000 ∧ xs[k.toNat]? = some y ∧ Q y (upd H l (.lst (xs.eraseIdx k.toNat)))
@[irreducible] def mInsert (x i y : V) (H : Hp) (Q : VK) : Prop := ∃ l xs k, x = .ref l ∧ i = .int k ∧ H l = some (.lst xs) ∧ xs.length < 1000000 ∧ 0 ≤ k ∧ k ≤ 1000000 ∧ Q .non (upd H l (.lst (xs.take k.toNat ++ [y] ++ xs.drop k.toNat)))
@[irreducible] def mTru (K : PySem.W.Frag) (x : V) (H : Hp) (Q : Bool → Hp → Prop) : Prop := ∃ k, TruV K x H k ∧ Q k H
def mFld (C : Addr) (ta : TE) (f : Str) : TE := fun σ H Q => ta σ H fun x H1 => mGetF C f x H1 Q
def mSFld (C : Addr) (ta tv : TE) (f : Str) : TS := fun D σ H => tv σ H fun y H1 => ta σ H1 fun x H2 => mPutF C f x y H2 fun H3 => D.nx σ H3
def mSFldAug (C : Addr) (ta tv : TE) (rd : R2) (f : Str) : TS := fun D σ H => ta σ H fun x H1 => mGetF C f x H1 fun v _ => tv σ H1 fun y H2 => rd v y H2 fun z H3 => mPutF C f x z H3 fun H4 => D.nx σ H4
def mMeth (C : Addr) (m : Str) (sp : Sp) (dvs : List V) (E : XK) (ta : TE) (t : TA) : TE := fun σ H Q => ta σ H fun x H1 => mIns C m x H1 (t σ H1 fun vs H2 => sp (x :: (vs ++ dvs)) H2 Q E)
def mDInE (ty td : TE) : TE := fun σ H Q => ty σ H fun y H1 => td σ H1 fun x H2 => mDIn x y H2 Q
def mDNotInE (ty td : TE) : TE := fun σ H Q => ty σ H fun y H1 => td σ H1 fun x H2 => mDNotIn x y H2 Q
def mDGetE (td ty : TE) : TE := fun σ H Q => td σ H fun x H1 => ty σ H1 fun y H2 => mDGet x y H2 Q
def mSDPut (td ty tv : TE) : TS := fun D σ H => tv σ H fun v H1 => td σ H1 fun x H2 => ty σ H2 fun y H3 => mDPut x y v H3 fun H4 => D.nx σ H4
def mSDDel (td ty : TE) : TS := fun D σ H => td σ H fun x H1 => ty σ H1 fun y H2 => mDDel x y H2 fun H3 => D.nx σ H3
def mPopE (to te : TE) : TE := fun σ H Q => to σ H fun x H1 => ∃ l xs, x = .ref l ∧ H1 l = some (.lst xs) ∧ te σ H1 fun y H2 => mPopAt x y H2 Q
def mInsE (to ti te : TE) : TE := fun σ H Q => to σ H fun x H1 => ∃ l xs, x = .ref l ∧ H1 l = some (.lst xs) ∧ ti σ H1 fun i H2 => te σ H2 fun y H3 => mInsert x i y H3 Q
def mTruth (K : PySem.W.Frag) (ta : TE) : TT := fun σ H Q => ta σ H fun x H1 => mTru K x H1 Q
@[irreducible] def mWhile (c : TT) (tb : TS) : TS := fun D σ H => ∃ (Pv : L2.St → Hp → Prop) (μ : L2.St → Hp → Nat), Pv σ H ∧ ∀ σ H, Pv σ H → c σ H fun b H1 => Br b (tb { D with nx := fun σ' H' => Pv σ' H' ∧ μ σ' H' < μ σ H, ct := fun σ' H' => Pv σ' H' ∧ μ σ' H' < μ σ H, bk := D.nx } σ H1) (D.nx σ H1)
theorem rd_while {c : TT} {tb : TS} {D : Ends} {σ : L2.St} {H : Hp} (Pv : L2.St → Hp → Prop) (μ : L2.St → Hp → Nat) (h0 : Pv σ H) (hs : ∀ σ H, Pv σ H → c σ H fun b H1 => Br b (tb { D with nx := fun σ' H' => Pv σ' H' ∧ μ σ' H' < μ σ H, ct := fun σ' H' => Pv σ' H' ∧ μ σ' H' < μ σ H, bk := D.nx } σ H1) (D.nx σ H1)) : mWhile c tb D σ H := by
  unfold mWhile
  exact ⟨Pv, μ, h0, hs⟩
section
variable {C a : Addr} {f m : Str} {H : Hp} {Q : VK} {dx : Addr} {fs : List (Str × V)} {v y : V} {kvs : List (Key × V)} {n : Int} {t : Str} {xs : List V}
theorem rd_getF (h : H a = some (.ins C dx fs)) (hl : fs.lookup f = some v) (q : Q v H) : mGetF C f (.ref a) H Q := by
  unfold mGetF
  exact ⟨a, dx, fs, v, rfl, h, hl, q⟩
theorem rd_putF {k : Hp → Prop} {fs' : List (Str × V)} (h : H a = some (.ins C dx fs)) (hz : fs.length < 1000) (e : putF f y fs = fs') (q : k (upd H a (.ins C dx fs'))) : mPutF C f (.ref a) y H k := by
  unfold mPutF
  exact ⟨a, dx, fs, rfl, h, hz, e ▸ q⟩
theorem rd_ins {A : Prop} (h : H a = some (.ins C dx fs)) (hl : fs.lookup m = none) (q : A) : mIns C m (.ref a) H A := by
  unfold mIns
  exact ⟨a, dx, fs, rfl, h, hl, q⟩
theorem rd_din (h : H a = some (.dK kvs)) (q : Q (.bl (valV kvs (.inl n)).isSome) H) : mDIn (.ref a) (.int n) H Q := by
  unfold mDIn
  exact ⟨a, kvs, .inl n, rfl, rfl, h, q⟩
theorem rd_dnotin (h : H a = some (.dK kvs)) (q : Q (.bl (!(valV kvs (.inl n)).isSome)) H) : mDNotIn (.ref a) (.int n) H Q := by
  unfold mDNotIn
  exact ⟨a, kvs, .inl n, rfl, rfl, h, q⟩
theorem rd_dget (h : H a = some (.dK kvs)) (e : valV kvs (.inl n) = some v) (q : Q v H) : mDGet (.ref a) (.int n) H Q := by
  unfold mDGet
  exact ⟨a, kvs, .inl n, v, rfl, rfl, .inl h, e, q⟩
theorem rd_dgetR (h : Rd H a (.dK kvs)) (e : valV kvs (.inl n) = some v) (q : Q v H) : mDGet (.ref a) (.int n) H Q := by
  unfold mDGet
  exact ⟨a, kvs, .inl n, v, rfl, rfl, h, e, q⟩
theorem rd_dgetS (h : H a = some (.dK kvs)) (e : valV kvs (.inr t) = some v) (q : Q v H) : mDGet (.ref a) (.str t) H Q := by
  unfold mDGet
  exact ⟨a, kvs, .inr t, v, rfl, rfl, .inl h, e, q⟩
theorem rd_dput {k : Hp → Prop} (h : H a = some (.dK kvs)) (hz : kvs.length < 1000000) (q : k (upd H a (.dK (putK kvs (.inl n) y)))) : mDPut (.ref a) (.int n) y H k := by
  unfold mDPut
  exact ⟨a, kvs, .inl n, rfl, rfl, h, hz, q⟩
theorem rd_dputS {k : Hp → Prop} (h : H a = some (.dK kvs)) (hz : kvs.length < 1000000) (q : k (upd H a (.dK (putK kvs (.inr t) y)))) : mDPut (.ref a) (.str t) y H k := by
  unfold mDPut
  exact ⟨a, kvs, .inr t, rfl, rfl, h, hz, q⟩
theorem rd_ddel {k : Hp → Prop} (h : H a = some (.dK kvs)) (e : (valV kvs (.inl n)).isSome = true) (q : k (upd H a (.dK (dropK kvs (.inl n))))) : mDDel (.ref a) (.int n) H k := by
  unfold mDDel
  exact ⟨a, kvs, .inl n, rfl, rfl, h, e, q⟩
theorem rd_pop0 {xs : List V} (h : H a = some (.lst (y :: xs))) (q : Q y (upd H a (.lst xs))) : mPopAt (.ref a) (.int 0) H Q := by
  unfold mPopAt
  exact ⟨a, y :: xs, 0, y, rfl, rfl, h, Int.le_refl 0, by rw [List.length_cons]; omega, by decide, rfl, q⟩
theorem rd_popAt (h : H a = some (.lst xs)) (h0 : 0 ≤ n) (h1 : n < (xs.length : Int)) (h2 : n ≤ 1000000) (e : xs[n.toNat]? = some y) (q : Q y (upd H a (.lst (xs.eraseIdx n.toNat)))) : mPopAt (.ref a) (.int n) H Q := by
  unfold mPopAt
  exact ⟨a, xs, n, y, rfl, rfl, h, h0, h1, h2, e, q⟩
theorem rd_insert (h : H a = some (.lst xs)) (hz : xs.length < 1000000) (h0 : 0 ≤ n) (h1 : n ≤ 1000000) (q : Q .non (upd H a (.lst (xs.take n.toNat ++ [y] ++ xs.drop n.toNat)))) : mInsert (.ref a) (.int n) y H Q := by
  unfold mInsert
  exact ⟨a, xs, n, rfl, rfl, h, hz, h0, h1, q⟩
theorem rd_truL {K : PySem.W.Frag} {R : Bool → Hp → Prop} (h : SqL K H a xs) (q : R (!xs.isEmpty) H) : mTru K (.ref a) H R := by
  unfold mTru
  exact ⟨_, .inl ⟨xs, h, rfl⟩, q⟩
theorem rd_truD {K : PySem.W.Frag} {R : Bool → Hp → Prop} (h : H a = some (.dK kvs)) (q : R (!kvs.isEmpty) H) : mTru K (.ref a) H R := by
  unfold mTru
  exact ⟨_, .inr (.inr ⟨kvs, h, rfl⟩), q⟩
theorem rd_truB {K : PySem.W.Frag} {R : Bool → Hp → Prop} {b : Bool} (q : R b H) : mTru K (.bl b) H R := by
  unfold mTru
  exact ⟨b, rfl, q⟩
end
section
variable {X : Cx} {e o value i c : Expr} {f m : Str} {pos pos' tpos apos cpos : Pos} {ta tv td ty te ti to : TE} {C : Addr}
theorem pe_fldM (he : PE X e ta) (c : Cls X.K C) (n : NoAttr X.K C f) (hb : attributeBase e f X.env (eval e X.env) = eval e X.env := by rfl) : PE X (.Attribute e f pos) (mFld C ta f) :=
  pe_weak (pe_fld (pe_c he) hb) fun σ H Q q => ⟨_, q, fun x H1 r => by
    unfold mGetF at r
    obtain ⟨a, dx, fs, v, e1, h, hl, r⟩ := r
    exact ⟨a, C, dx, fs, v, e1, h, c, n, hl, r⟩⟩
theorem ps_fldM (ha : PE X o ta) (hv : PE X value tv) (c : Cls X.K C) (n : NoAttr X.K C f) (hs : swapsWith value (some (.Attribute o f pos')) pos.line X.env = pure false := by rfl) : PS X (.Assign [.Attribute o f pos'] value pos) (mSFld C ta tv f) :=
  ps_weak (ps_fld (pe_c ha) (pe_c hv) hs) fun D σ H q => ⟨_, q, fun y H1 r => ⟨_, r, fun x H2 r => by
    unfold mPutF at r
    obtain ⟨a, dx, fs, e1, h, hz, r⟩ := r
    exact ⟨a, C, dx, fs, e1, h, c, n, hz, r⟩⟩⟩
theorem inop_c {op : Operator} {rd : R2} (h : InOp X op rd) : InOp X op (cR2 rd) := fun pins s σ H x y u v Q I rx ry ⟨R, h1, h2⟩ => thn (h pins s σ H x y u v R I rx ry h1) fun w s1 ⟨z, H1, I1, rz, q⟩ => ⟨z, H1, I1, rz, h2 _ _ q⟩
theorem ps_fldaugM {op : Operator} {rd : R2} (ha : PE X o ta) (hv : PE X value tv) (hop : InOp X op rd) (c : Cls X.K C) (n : NoAttr X.K C f) : PS X (.AugAssign (.Attribute o f tpos) op value pos) (mSFldAug C ta tv rd f) :=
  ps_weak (ps_fldaug (pe_c ha) (pe_c hv) (inop_c hop)) fun D σ H q => ⟨_, q, fun x H1 r => by
    unfold mGetF at r
    obtain ⟨a, dx, fs, v, e1, h, hl, r⟩ := r
    subst e1
    refine ⟨a, C, dx, fs, v, rfl, h, c, n, hl, _, r, fun y H2 r => ⟨_, r, fun z H3 r => ?_⟩⟩
    unfold mPutF at r
    obtain ⟨a', dx', fs', e1, h', hz, r⟩ := r
    cases e1
    exact ⟨dx', fs', h', hz, r⟩⟩
theorem pc_weak {op : CmpOp} {a b : Expr} {t t' : TE} (h : PC X op a b t) (w : ∀ σ H Q, t' σ H Q → t σ H Q) : PC X op a b t' := ⟨fun pins s σ H Q I q => h.run pins s σ H Q I (w σ H Q q)⟩
theorem pc_dinM (hu : X.A.units + 1 < cLine) (hi : PE X i ty) (ho : PE X o td) : PC X .In i o (mDInE ty td) :=
  pc_weak (pc_din hu (pe_c hi) (pe_c ho)) fun σ H Q q => ⟨_, q, fun y H1 r => ⟨_, r, fun x H2 r => by
    unfold mDIn at r
    obtain ⟨a, kvs, k, e1, e2, h, r⟩ := r
    exact ⟨a, _, e1, e2 ▸ DGet.k h, r⟩⟩⟩
theorem pc_dnotinM (hu : X.A.units + 1 < cLine) (hi : PE X i ty) (ho : PE X o td) : PC X .NotIn i o (mDNotInE ty td) :=
  pc_weak (pc_dnotin hu (pe_c hi) (pe_c ho)) fun σ H Q q => ⟨_, q, fun y H1 r => ⟨_, r, fun x H2 r => by
    unfold mDNotIn at r
    obtain ⟨a, kvs, k, e1, e2, h, r⟩ := r
    exact ⟨a, _, e1, e2 ▸ DGet.k h, r⟩⟩⟩
theorem pe_dgetM (hu : X.A.units + 1 < cLine) (ho : PE X o td) (hi : PE X i ty) (hs : NoSl i := by exact fun _ _ => rfl) : PE X (.Subscript o i pos) (mDGetE td ty) :=
  pe_weak (pe_dget hu (pe_c ho) (pe_c hi) hs) fun σ H Q q => ⟨_, q, fun x H1 r => ⟨_, r, fun y H2 r => by
    unfold mDGet at r
    obtain ⟨a, kvs, k, v, e1, e2, h, e, r⟩ := r
    exact ⟨a, v, e1, .inl ⟨kvs, k, h, e2, e.symm⟩, r⟩⟩⟩
theorem ps_dputM (hu : X.A.units + 1 < cLine) (ho : PE X o td) (hi : PE X i ty) (hv : PE X value tv) (hs : swapsWith value (some (.Subscript o i pos')) pos.line X.env = pure false := by rfl) : PS X (.Assign [.Subscript o i pos'] value pos) (mSDPut td ty tv) :=
  ps_weak (ps_dput hu (pe_c ho) (pe_c hi) (pe_c hv) hs) fun D σ H q => ⟨_, q, fun v H1 r => ⟨_, r, fun x H2 r => ⟨_, r, fun y H3 r => by
    unfold mDPut at r
    obtain ⟨a, kvs, k, e1, e2, h, hz, r⟩ := r
    exact ⟨a, _, e1, e2 ▸ DPut.k h (szl hz), r⟩⟩⟩⟩
theorem ps_ddelM (ho : PE X o td) (hi : PE X i ty) : PS X (.Delete [.Subscript o i tpos] pos) (mSDDel td ty) :=
  ps_weak (ps_ddel (pe_c ho) (pe_c hi)) fun D σ H q => ⟨_, q, fun x H1 r => ⟨_, r, fun y H2 r => by
    unfold mDDel at r
    obtain ⟨a, kvs, k, e1, e2, h, e, r⟩ := r
    exact ⟨a, kvs, k, e1, h, e2, e, r⟩⟩⟩
theorem pt_truthM (ha : PE X e ta) (he : ∀ whole, isTrue e X.env whole = (do let v ← whole; standAt e.pos; holding [v] (truthy v))) : PT X e (mTruth X.K ta) :=
  pt_weak (pt_truth (pe_c ha) he) fun σ H Q q => ⟨_, q, fun x H1 r => by
    unfold mTru at r
    exact r⟩
theorem ps_whileM {body : List Stmt} {tc : TT} {tb : TS} (hp : PassesOwn (model X.prog X.w) X.A X.env X.xe) (hc : PT X c tc) (hb : PSs X body tb) : PS X (.While c body [] pos) (mWhile tc tb) :=
  ps_weak (ps_while hp (pt_c hc) hb) fun D σ H q => by
    unfold mWhile at q
    obtain ⟨Pv, μ, h0, hs⟩ := q
    exact while_by Pv μ h0 (fun σ H p => ⟨_, hs σ H p, fun b H1 r => r.un⟩) fun σ H Q Q' h ⟨R, h1, h2⟩ => ⟨R, h1, fun b H1 r => h _ _ (h2 _ _ r)⟩
theorem pe_pop {o e : Expr} (ho : PE X o to) (he : PE X e te) (hbase : attributeBase o "pop" X.env (eval o X.env) = eval o X.env := by rfl)
    (hfew : ((backTo cpos (starEach [e] X.env)).all (fun x => !x.1) && (backToKw cpos (keywordEach [] X.env)).all (fun x => x.1.isSome)
      && decide ([e].length + ([] : List Keyword).length + (if ([] : List Keyword).isEmpty then 0 else 1) < 30)) = true := by rfl)
    (hline : (apos.endLine == cpos.line) = true := by rfl) (hs : starEach [e] X.env = (false, eval e X.env) :: starEach [] X.env := by rfl) (hplain : (backTo cpos (starEach [] X.env)).any (·.1) = false := by rfl) :
    PE X (.Call (.Attribute o "pop" apos) [e] [] cpos) (mPopE to te) :=
  pe_weak (pe_bm PySem.F.plainAttrs_list PySem.F.slot_list_pop PySem.F.type_list_pop mt_popAt (pe_c ho) (pa_cons (pe_c he) pa_nil hs) hbase hfew hline hs hplain) fun σ H Q q => by
    refine ⟨_, q, fun x H1 r => ?_⟩
    obtain ⟨l, xs, rfl, h, r⟩ := r
    refine ⟨Or.inl ⟨rfl, _, SqL.of h⟩, _, r, fun y H2 r2 => ?_⟩
    unfold mPopAt at r2
    obtain ⟨l2, ys, k, z, e2, e3, h2, h0, h1, hk, hy, q2⟩ := r2
    have big : (2 : Int) ^ 63 = 9223372036854775808 := by decide
    exact ⟨l2, ys, k, k.toNat, z, e2, congrArg (fun u => [u]) e3, h2, by omega, by omega, seqIndex_of h0 h1, hy, q2⟩
end
section
variable {X : Cx} {e o i : Expr} {m : Str} {apos cpos : Pos} {ta te ti to : TE} {C : Addr} {t : TA} {sp : Sp} {dvs : List V} {E : XK}
theorem meth_weak (h : PE X e (tMeth C m sp dvs E (cTE ta) t)) : PE X e (mMeth C m sp dvs E ta t) := pe_weak h fun σ H Q q => ⟨_, q, fun x H1 r => by
  unfold mIns at r
  exact r⟩
theorem pe_insert {o i e : Expr} (ho : PE X o to) (hi : PE X i ti) (he : PE X e te) (hbase : attributeBase o "insert" X.env (eval o X.env) = eval o X.env := by rfl)
    (hfew : ((backTo cpos (starEach [i, e] X.env)).all (fun x => !x.1) && (backToKw cpos (keywordEach [] X.env)).all (fun x => x.1.isSome)
      && decide ([i, e].length + ([] : List Keyword).length + (if ([] : List Keyword).isEmpty then 0 else 1) < 30)) = true := by rfl)
    (hline : (apos.endLine == cpos.line) = true := by rfl) (hs1 : starEach [e] X.env = (false, eval e X.env) :: starEach [] X.env := by rfl) (hs : starEach [i, e] X.env = (false, eval i X.env) :: starEach [e] X.env := by rfl) (hplain : (backTo cpos (starEach [e] X.env)).any (·.1) = false := by rfl) :
    PE X (.Call (.Attribute o "insert" apos) [i, e] [] cpos) (mInsE to ti te) :=
  pe_weak (pe_bm PySem.F.plainAttrs_list PySem.F.slot_list_insert PySem.F.type_list_insert mt_insert (pe_c ho) (pa_cons (pe_c hi) (pa_cons (pe_c he) pa_nil hs1) hs) hbase hfew hline hs hplain) fun σ H Q q => by
    refine ⟨_, q, fun x H1 r => ?_⟩
    obtain ⟨l, xs, rfl, h, r⟩ := r
    refine ⟨Or.inl ⟨rfl, _, SqL.of h⟩, _, r, fun y H2 r => ⟨_, r, fun z H3 r2 => ?_⟩⟩
    unfold mInsert at r2
    obtain ⟨l2, ys, k, e2, e3, h2, hz, h0, h1, q2⟩ := r2
    have big : (2 : Int) ^ 63 = 9223372036854775808 := by decide
    exact ⟨l2, ys, k, z, e2, congrArg (fun u => [u, z]) e3, h2, szl hz, h0, by omega, q2⟩
end
/-! ### an if whose ways meet again: told once by what holds behind it -/
def cTSs (t : TS) : TS := fun D σ H => ∃ P : L2.St → Hp → Prop, t { D with nx := P } σ H ∧ ∀ σ' H', P σ' H' → D.nx σ' H'
theorem pss_c {X : Cx} {sts : List Stmt} {t : TS} (h : PSs X sts t) : PSs X sts (cTSs t) := ⟨fun pins s σ H D I ⟨P, h1, h2⟩ => thn (h.run pins s σ H { D with nx := P } I h1) fun f s' q => by
  cases f with
  | next =>
    obtain ⟨σ', H', I', q⟩ := q
    exact ⟨σ', H', I', h2 _ _ q⟩
  | brk => exact q
  | cont => exact q
  | ret u => exact q⟩
@[irreducible] def IfJ (b : Bool) (t u : TS) (D : Ends) (σ : L2.St) (H : Hp) : Prop := ∃ P : L2.St → Hp → Prop, (b = true → t { D with nx := P } σ H) ∧ (b = false → u { D with nx := P } σ H) ∧ ∀ σ' H', P σ' H' → D.nx σ' H'
def mIfJ (c : TT) (t u : TS) : TS := fun D σ H => c σ H fun b H1 => IfJ b t u D σ H1
theorem rd_ifJ {b : Bool} {t u : TS} {D : Ends} {σ : L2.St} {H : Hp} (P : L2.St → Hp → Prop) (h1 : b = true → t { D with nx := P } σ H) (h2 : b = false → u { D with nx := P } σ H) (k : ∀ σ' H', P σ' H' → D.nx σ' H') : IfJ b t u D σ H := by
  unfold IfJ
  exact ⟨P, h1, h2, k⟩
theorem ps_ifJ {X : Cx} {c : Expr} {bs us : List Stmt} {pos : Pos} {tt : TT} {t u : TS} (hc : PT X c tt) (ha : PSs X bs t) (hb : PSs X us u) : PS X (.If c bs us pos) (mIfJ tt t u) :=
  ps_weak (ps_if (pt_c hc) (pss_c ha) (pss_c hb)) fun D σ H q => ⟨_, q, fun b H1 r => by
    unfold IfJ at r
    obtain ⟨P, h1, h2, k⟩ := r
    cases b with
    | true => exact iteT ⟨P, h1 rfl, k⟩
    | false => exact iteF ⟨P, h2 rfl, k⟩⟩
end My
namespace My
open PySem L2

section
open PySem.Spec PyProof.Rows
variable {prog : Program} {w : World} {A : Around} {E : Value → Shared → Prop} {s : Shared}
def bestA (b : Option (Int × Tok)) : Array Value := match b with | none => #[] | some p => #[Value.int p.1 p.2, Value.int p.1 p.2]
def bestO (b : Option (Int × Tok)) (c : Nat) : Obj := { cls := .type "list", dict := none, data := .seq (bestA b) c, slots := #[] }
def endsIn (o : Option Int) (dv v : Value) : Prop := match o with | none => v = dv | some m => ∃ t, v = Value.int m t
theorem kw_tree {id : String} {b : Builtin} {args : List Value} {kw : List (Str × Value)} {Q : Value → Shared → Prop} (hk : builtinKind id = none) (hp : plainId id = true) (hb : entryFor table id = some b) (ha : argsOk id ⟨args, kw⟩)
    (hc : wpAny (model prog w) A.in1 (b ⟨args, kw⟩) (fun fin s' => match fin with
      | .done f => (match (Except.ok f : Result) with | .ok (.ret v) => Q v s' | .ok _ => False | .error e => E e s')
      | .again d => d.quiet = true ∧ codeAny (model prog w) A d (fun r s' => match r with | .ok (.ret v) => Q v s' | .ok _ => False | .error e => E e s') s') E s) : wpAny (model prog w) A (call (.builtin id) args kw) Q E s := by
  refine wpAny_call (codeAny_call_builtin hp hb ?_)
  simp only [checkBuiltinCall, hk]
  cases hs : Manifest.signature? id with
  | none => exact wpAny_pure hc
  | some sig =>
    have h2 : Bind.checkArgs id sig ⟨args, kw⟩ = pure () := by simpa only [argsOk, hs] using ha
    show wpAny _ A.in1 (Bind.checkArgs id sig ⟨args, kw⟩) _ _ s
    rw [h2]
    exact wpAny_pure hc
end

section
open PySem.Spec PyProof.Rows
variable {prog : Program} {w : World} {A : Around} {R : Result → Shared → Prop} {I : Addr} {fp wr : List Addr} {G : Array GenState → Array GenState → Prop} {n : Nat} {P : Nat → Value → Prop} {St : Nat → Shared → Prop}
def mxTo (val : Nat → Int) : Nat → Option Int
  | 0 => none
  | i + 1 => some (match mxTo val i with | none => val i | some m => if val i > m then val i else m)
theorem mx_loop (W : WalksS prog w A.in1 I fp wr G n P St) (val : Nat → Int) (hv : ∀ i v, P i v → ∃ t, v = Value.int (val i) t) (S : Addr) (hSf : S ∉ fp) (dv : Value) :
    ∀ (k i : Nat) (s : Shared) (c : Nat) (b : Option (Int × Tok)), n - i = k → i ≤ n → St i s → b.map Prod.fst = mxTo val i → s.heap.get? S = some (bestO b c) →
      (∀ v s', Moved (S :: wr) G s s' → endsIn (mxTo val n) dv v → R (.ok (.ret v)) s') → codeAny (model prog w) A (.builtin "max.loop" ⟨[.ref I, .none, .ref S], [(Str.ofString "default", dv)]⟩) R s := by
  have nw : S ∉ wr := fun z => hSf (W.sub _ z)
  have up : ∀ b ∈ wr, b ∈ S :: wr := fun b z => .tail _ z
  have hN : (toString "max" ++ toString ".loop" : String) = "max.loop" := by decide
  have hne : ∀ {b : Addr}, b ∉ S :: wr → S ≠ b := fun z e => z (e ▸ .head _)
  intro k
  induction k with
  | zero =>
    intro i s c b hk hi st hb hS fin
    have en : i = n := by omega
    subst en
    refine codeAny_builtin F.entry_max_loop ?_
    rw [Around.under_plainId F.plain_max_loop _]
    show wpAny _ A.in1 (seqItems? (.ref S) >>= _) _ _ s
    refine wpAny_bind (wpAny_seqItems hS (show (bestO b c).data = .seq (bestA b) c from rfl) ?_)
    show wpAny _ A.in1 (tryCatch (pyNext (.ref I)) _ >>= _) _ _ s
    refine wpAny_bind (wpAny_tryCatch (W.done s _ _ st fun s' mv => ?_))
    have hS2 := mv.heap S _ nw hS
    cases b with
    | none =>
      refine wpAny_bind (m := rule _) (wpAny_rule (wpAny_pure (fin _ _ (mv.mono up) ?_)))
      rw [← hb]
      rfl
    | some p =>
      obtain ⟨m, t⟩ := p
      show wpAny _ A.in1 (updateSeq S (fun _ => #[]) >>= _) _ _ _
      refine wpAny_bind ?_
      refine wpAny_updateSeq (hz := by show 2 ≤ sizeLine; rw [sizeLine_eq]; decide) hS2 rfl (wpAny_bind (wpAny_letGo (wpAny_pure ?_)))
      refine fin (.int m t) _ ((mv.mono up).then_heap (tk := s'.toks) (Nat.le_refl _) fun b o z e => (Heap.get?_update_other _ _ (hne z)).trans e) ?_
      rw [← hb]
      exact ⟨t, rfl⟩
  | succ k ih =>
    intro i s c b hk hi st hb hS fin
    have hlt : i < n := by omega
    refine codeAny_builtin F.entry_max_loop ?_
    rw [Around.under_plainId F.plain_max_loop _]
    show wpAny _ A.in1 (seqItems? (.ref S) >>= _) _ _ s
    refine wpAny_bind (wpAny_seqItems hS (show (bestO b c).data = .seq (bestA b) c from rfl) ?_)
    show wpAny _ A.in1 (tryCatch (pyNext (.ref I)) _ >>= _) _ _ s
    refine wpAny_bind (wpAny_tryCatch (W.item i s _ _ hlt st fun v s' pv st' mv => ?_))
    obtain ⟨u, rfl⟩ := hv i v pv
    have hS2 := mv.heap S _ nw hS
    have stay : ∀ (h' : Heap) (tk : Nat), s'.toks ≤ tk → (∀ b, b ≠ S → h'.get? b = s'.heap.get? b) → St (i + 1) { s' with heap := h', toks := tk } := fun h' tk htk hh => W.frame _ s' _ _ st' htk fun b zb o e => (hh b fun z => hSf (z ▸ zb)).trans e
    cases b with
    | none =>
      show wpAny _ A.in1 (updateSeq S (fun _ => #[Value.int (val i) u, Value.int (val i) u]) >>= _) _ _ _
      refine wpAny_bind ?_
      refine wpAny_updateSeq hS2 rfl ?_
      rw [hN]
      refine wpAny_pure ⟨plainId_quiet F.plain_max_loop _, ih (i + 1) _ _ (some (val i, u)) (by omega) hlt (stay _ s'.toks (Nat.le_refl _) fun b z => Heap.get?_update_other _ _ (Ne.symm z)) ?_ (Heap.get?_update_self _ hS2 rfl) fun v' s'' mv' hv' => ?_⟩
      · show some (val i) = mxTo val (i + 1)
        unfold mxTo
        rw [← hb]
        rfl
      · exact fin v' s'' (Moved.trans W.gtrans ((mv.mono up).then_heap (tk := s'.toks) (Nat.le_refl _) fun b o z e => (Heap.get?_update_other _ _ (hne z)).trans e) mv') hv'
    | some p =>
      obtain ⟨m, t⟩ := p
      have eb : mxTo val (i + 1) = some (if val i > m then val i else m) := by
        have hb2 : some m = mxTo val i := hb
        show some (match mxTo val i with | none => val i | some m => if val i > m then val i else m) = _
        rw [← hb2]
      show wpAny _ A.in1 (tryCatch (holding [Value.int (val i) u, Value.int (val i) u] (richCompare .Gt (Value.int (val i) u) (Value.int m t) >>= _)) _ >>= _) _ _ _
      refine wpAny_bind (wpAny_tryCatch (wpAny_holding (wpAny_bind ((CmpOf.ints_gt (P := fun a v => ∃ t, v = Value.int (if a = 0 then val i else m) t) (fun j : Nat => if j = 0 then val i else m) fun _ _ z => z) 0 1 _ _ _ _ _ ⟨u, rfl⟩ ⟨t, rfl⟩ ?_))))
      refine wpAny_bind (wpAny_holding (wpAny_truthy_bool ?_))
      refine wpAny_bind (wpAny_letGo (wpAny_pure ?_))
      show wpAny _ _ (if decide (val i > m) = true then _ else _) _ _ _
      by_cases hc : val i > m
      · rw [decide_eq_true hc]
        simp only [if_true]
        refine wpAny_bind ?_
        refine wpAny_updateSeq (hz := by show 2 ≤ sizeLine; rw [sizeLine_eq]; decide) hS2 rfl (wpAny_bind (wpAny_letGo ?_))
        rw [hN]
        refine wpAny_pure ⟨plainId_quiet F.plain_max_loop _, ih (i + 1) _ _ (some (val i, u)) (by omega) hlt (stay _ s'.toks (Nat.le_refl _) fun b z => Heap.get?_update_other _ _ (Ne.symm z)) (by rw [eb, if_pos hc]; rfl) (Heap.get?_update_self _ hS2 rfl) fun v' s'' mv' hv' => ?_⟩
        exact fin v' s'' (Moved.trans W.gtrans ((mv.mono up).then_heap (tk := s'.toks) (Nat.le_refl _) fun b o z e => (Heap.get?_update_other _ _ (hne z)).trans e) mv') hv'
      · rw [decide_eq_false hc]
        simp only [Bool.false_eq_true, if_false]
        refine wpAny_bind (wpAny_letGo ?_)
        rw [hN]
        refine wpAny_pure ⟨plainId_quiet F.plain_max_loop _, ih (i + 1) _ _ (some (m, t)) (by omega) hlt st' (by rw [eb, if_neg hc]; rfl) hS2 fun v' s'' mv' hv' => ?_⟩
        exact fin v' s'' (Moved.trans W.gtrans (mv.mono up) mv') hv'
theorem mx_kw {A : Around} {E : Value → Shared → Prop} {s : Shared} {x dv : Value} {Q : Value → Shared → Prop}
    (h : wpAny (model prog w) A.in1 (pyIter x) (fun it s2 => ∃ I fp wr G n P St val, it = .ref I ∧ WalksS prog w A.in1 I fp wr G n P St ∧ St 0 s2 ∧ (∀ b ∈ fp, b < s2.heap.objs.size) ∧ (∀ i v, P i v → ∃ t, v = Value.int (val i) t) ∧
      ∀ v s', Moved wr G s2 s' → endsIn (mxTo val n) dv v → Q v s') E s) : wpAny (model prog w) A (call (.builtin "max") [x] [(Str.ofString "default", dv)]) Q E s := by
  have hN : (toString "max" ++ toString ".loop" : String) = "max.loop" := by decide
  refine kw_tree F.kind_max F.plain_max F.entry_max (by unfold argsOk; kernel_rfl) ?_
  show wpAny _ A.in1 (Builtin.Builtins.bindParams "max" ["key", "default"] 0 ⟨[], [(Str.ofString "default", dv)]⟩ >>= _) _ _ s
  refine wpAny_bind (wpAny_of_eq (show Builtin.Builtins.bindParams "max" ["key", "default"] 0 ⟨[], [(Str.ofString "default", dv)]⟩ = pure [none, some dv] from by kernel_rfl) ?_)
  refine wpAny_bind (wpAny_pure ?_)
  refine wpAny_bind (wpAny_mono h (fun it s2 h2 => ?_) fun _ _ e => e)
  obtain ⟨I, fp, wr, G, n, P, St, val, rfl, W, st, hfp, hval, fin⟩ := h2
  refine wpAny_bind (wpAny_newObj_type ?_)
  have hSf : s2.heap.objs.size ∉ fp := fun z => Nat.lt_irrefl _ (hfp _ z)
  rw [hN]
  refine wpAny_pure ⟨plainId_quiet F.plain_max_loop _, mx_loop W val hval s2.heap.objs.size hSf dv n 0 _ 0 none (Nat.sub_zero n) (Nat.zero_le _) (W.frame 0 s2 _ s2.toks st (Nat.le_refl _) fun b _ o e => Heap.get?_push_of_some _ e) rfl (Heap.get?_push_size _ rfl) fun v s' mv hv => ?_⟩
  exact fin v s' (Moved.drop_new (tk := s2.toks) mv (Nat.le_refl _)) hv
end

section
open PySem.Spec PyProof.Rows
variable {prog : Program} {w : World} {A : Around} {R : Result → Shared → Prop} {I : Addr} {fp wr : List Addr} {G : Array GenState → Array GenState → Prop} {n : Nat} {P : Nat → Value → Prop} {St : Nat → Shared → Prop}
def mnTo (val : Nat → Int) : Nat → Option Int
  | 0 => none
  | i + 1 => some (match mnTo val i with | none => val i | some m => if val i < m then val i else m)
theorem mn_loop (W : WalksS prog w A.in1 I fp wr G n P St) (val : Nat → Int) (hv : ∀ i v, P i v → ∃ t, v = Value.int (val i) t) (S : Addr) (hSf : S ∉ fp) (dv : Value) :
    ∀ (k i : Nat) (s : Shared) (c : Nat) (b : Option (Int × Tok)), n - i = k → i ≤ n → St i s → b.map Prod.fst = mnTo val i → s.heap.get? S = some (bestO b c) →
      (∀ v s', Moved (S :: wr) G s s' → endsIn (mnTo val n) dv v → R (.ok (.ret v)) s') → codeAny (model prog w) A (.builtin "min.loop" ⟨[.ref I, .none, .ref S], [(Str.ofString "default", dv)]⟩) R s := by
  have nw : S ∉ wr := fun z => hSf (W.sub _ z)
  have up : ∀ b ∈ wr, b ∈ S :: wr := fun b z => .tail _ z
  have hN : (toString "min" ++ toString ".loop" : String) = "min.loop" := by decide
  have hne : ∀ {b : Addr}, b ∉ S :: wr → S ≠ b := fun z e => z (e ▸ .head _)
  intro k
  induction k with
  | zero =>
    intro i s c b hk hi st hb hS fin
    have en : i = n := by omega
    subst en
    refine codeAny_builtin F.entry_min_loop ?_
    rw [Around.under_plainId F.plain_min_loop _]
    show wpAny _ A.in1 (seqItems? (.ref S) >>= _) _ _ s
    refine wpAny_bind (wpAny_seqItems hS (show (bestO b c).data = .seq (bestA b) c from rfl) ?_)
    show wpAny _ A.in1 (tryCatch (pyNext (.ref I)) _ >>= _) _ _ s
    refine wpAny_bind (wpAny_tryCatch (W.done s _ _ st fun s' mv => ?_))
    have hS2 := mv.heap S _ nw hS
    cases b with
    | none =>
      refine wpAny_bind (m := rule _) (wpAny_rule (wpAny_pure (fin _ _ (mv.mono up) ?_)))
      rw [← hb]
      rfl
    | some p =>
      obtain ⟨m, t⟩ := p
      show wpAny _ A.in1 (updateSeq S (fun _ => #[]) >>= _) _ _ _
      refine wpAny_bind ?_
      refine wpAny_updateSeq (hz := by show 2 ≤ sizeLine; rw [sizeLine_eq]; decide) hS2 rfl (wpAny_bind (wpAny_letGo (wpAny_pure ?_)))
      refine fin (.int m t) _ ((mv.mono up).then_heap (tk := s'.toks) (Nat.le_refl _) fun b o z e => (Heap.get?_update_other _ _ (hne z)).trans e) ?_
      rw [← hb]
      exact ⟨t, rfl⟩
  | succ k ih =>
    intro i s c b hk hi st hb hS fin
    have hlt : i < n := by omega
    refine codeAny_builtin F.entry_min_loop ?_
    rw [Around.under_plainId F.plain_min_loop _]
    show wpAny _ A.in1 (seqItems? (.ref S) >>= _) _ _ s
    refine wpAny_bind (wpAny_seqItems hS (show (bestO b c).data = .seq (bestA b) c from rfl) ?_)
    show wpAny _ A.in1 (tryCatch (pyNext (.ref I)) _ >>= _) _ _ s
    refine wpAny_bind (wpAny_tryCatch (W.item i s _ _ hlt st fun v s' pv st' mv => ?_))
    obtain ⟨u, rfl⟩ := hv i v pv
    have hS2 := mv.heap S _ nw hS
    have stay : ∀ (h' : Heap) (tk : Nat), s'.toks ≤ tk → (∀ b, b ≠ S → h'.get? b = s'.heap.get? b) → St (i + 1) { s' with heap := h', toks := tk } := fun h' tk htk hh => W.frame _ s' _ _ st' htk fun b zb o e => (hh b fun z => hSf (z ▸ zb)).trans e
    cases b with
    | none =>
      show wpAny _ A.in1 (updateSeq S (fun _ => #[Value.int (val i) u, Value.int (val i) u]) >>= _) _ _ _
      refine wpAny_bind ?_
      refine wpAny_updateSeq hS2 rfl ?_
      rw [hN]
      refine wpAny_pure ⟨plainId_quiet F.plain_min_loop _, ih (i + 1) _ _ (some (val i, u)) (by omega) hlt (stay _ s'.toks (Nat.le_refl _) fun b z => Heap.get?_update_other _ _ (Ne.symm z)) ?_ (Heap.get?_update_self _ hS2 rfl) fun v' s'' mv' hv' => ?_⟩
      · show some (val i) = mnTo val (i + 1)
        unfold mnTo
        rw [← hb]
        rfl
      · exact fin v' s'' (Moved.trans W.gtrans ((mv.mono up).then_heap (tk := s'.toks) (Nat.le_refl _) fun b o z e => (Heap.get?_update_other _ _ (hne z)).trans e) mv') hv'
    | some p =>
      obtain ⟨m, t⟩ := p
      have eb : mnTo val (i + 1) = some (if val i < m then val i else m) := by
        have hb2 : some m = mnTo val i := hb
        show some (match mnTo val i with | none => val i | some m => if val i < m then val i else m) = _
        rw [← hb2]
      show wpAny _ A.in1 (tryCatch (holding [Value.int (val i) u, Value.int (val i) u] (richCompare .Lt (Value.int (val i) u) (Value.int m t) >>= _)) _ >>= _) _ _ _
      refine wpAny_bind (wpAny_tryCatch (wpAny_holding (wpAny_bind ((CmpOf.ints_lt (P := fun a v => ∃ t, v = Value.int (if a = 0 then val i else m) t) (fun j : Nat => if j = 0 then val i else m) fun _ _ z => z) 0 1 _ _ _ _ _ ⟨u, rfl⟩ ⟨t, rfl⟩ ?_))))
      refine wpAny_bind (wpAny_holding (wpAny_truthy_bool ?_))
      refine wpAny_bind (wpAny_letGo (wpAny_pure ?_))
      show wpAny _ _ (if decide (val i < m) = true then _ else _) _ _ _
      by_cases hc : val i < m
      · rw [decide_eq_true hc]
        simp only [if_true]
        refine wpAny_bind ?_
        refine wpAny_updateSeq (hz := by show 2 ≤ sizeLine; rw [sizeLine_eq]; decide) hS2 rfl (wpAny_bind (wpAny_letGo ?_))
        rw [hN]
        refine wpAny_pure ⟨plainId_quiet F.plain_min_loop _, ih (i + 1) _ _ (some (val i, u)) (by omega) hlt (stay _ s'.toks (Nat.le_refl _) fun b z => Heap.get?_update_other _ _ (Ne.symm z)) (by rw [eb, if_pos hc]; rfl) (Heap.get?_update_self _ hS2 rfl) fun v' s'' mv' hv' => ?_⟩
        exact fin v' s'' (Moved.trans W.gtrans ((mv.mono up).then_heap (tk := s'.toks) (Nat.le_refl _) fun b o z e => (Heap.get?_update_other _ _ (hne z)).trans e) mv') hv'
      · rw [decide_eq_false hc]
        simp only [Bool.false_eq_true, if_false]
        refine wpAny_bind (wpAny_letGo ?_)
        rw [hN]
        refine wpAny_pure ⟨plainId_quiet F.plain_min_loop _, ih (i + 1) _ _ (some (m, t)) (by omega) hlt st' (by rw [eb, if_neg hc]; rfl) hS2 fun v' s'' mv' hv' => ?_⟩
        exact fin v' s'' (Moved.trans W.gtrans (mv.mono up) mv') hv'
theorem mn_kw {A : Around} {E : Value → Shared → Prop} {s : Shared} {x dv : Value} {Q : Value → Shared → Prop}
    (h : wpAny (model prog w) A.in1 (pyIter x) (fun it s2 => ∃ I fp wr G n P St val, it = .ref I ∧ WalksS prog w A.in1 I fp wr G n P St ∧ St 0 s2 ∧ (∀ b ∈ fp, b < s2.heap.objs.size) ∧ (∀ i v, P i v → ∃ t, v = Value.int (val i) t) ∧
      ∀ v s', Moved wr G s2 s' → endsIn (mnTo val n) dv v → Q v s') E s) : wpAny (model prog w) A (call (.builtin "min") [x] [(Str.ofString "default", dv)]) Q E s := by
  have hN : (toString "min" ++ toString ".loop" : String) = "min.loop" := by decide
  refine kw_tree F.kind_min F.plain_min F.entry_min (by unfold argsOk; kernel_rfl) ?_
  show wpAny _ A.in1 (Builtin.Builtins.bindParams "min" ["key", "default"] 0 ⟨[], [(Str.ofString "default", dv)]⟩ >>= _) _ _ s
  refine wpAny_bind (wpAny_of_eq (show Builtin.Builtins.bindParams "min" ["key", "default"] 0 ⟨[], [(Str.ofString "default", dv)]⟩ = pure [none, some dv] from by kernel_rfl) ?_)
  refine wpAny_bind (wpAny_pure ?_)
  refine wpAny_bind (wpAny_mono h (fun it s2 h2 => ?_) fun _ _ e => e)
  obtain ⟨I, fp, wr, G, n, P, St, val, rfl, W, st, hfp, hval, fin⟩ := h2
  refine wpAny_bind (wpAny_newObj_type ?_)
  have hSf : s2.heap.objs.size ∉ fp := fun z => Nat.lt_irrefl _ (hfp _ z)
  rw [hN]
  refine wpAny_pure ⟨plainId_quiet F.plain_min_loop _, mn_loop W val hval s2.heap.objs.size hSf dv n 0 _ 0 none (Nat.sub_zero n) (Nat.zero_le _) (W.frame 0 s2 _ s2.toks st (Nat.le_refl _) fun b _ o e => Heap.get?_push_of_some _ e) rfl (Heap.get?_push_size _ rfl) fun v s' mv hv => ?_⟩
  exact fin v s' (Moved.drop_new (tk := s2.toks) mv (Nat.le_refl _)) hv
end
theorem ints_nth {its : List Value} {ns : List Int} (h : PyProof.Rows.IntsAre its ns) : ∀ {i : Nat} {v : Value}, its[i]? = some v → ∃ t, v = Value.int (ns.getD i 0) t := by
  induction h with
  | nil => intro i v e; cases i <;> cases e
  | cons x t h ih =>
    intro i v e
    cases i with
    | zero =>
      cases e
      exact ⟨_, rfl⟩
    | succ i =>
      obtain ⟨t2, e2⟩ := ih e
      exact ⟨t2, e2⟩
theorem snocG {α : Type} {P : List α → Prop} (h0 : P []) (hs : ∀ l x, P l → P (l ++ [x])) (l : List α) : P l := by
  have key : ∀ m : List α, P m.reverse := by
    intro m
    induction m with
    | nil => exact h0
    | cons x r ih =>
      rw [List.reverse_cons]
      exact hs _ _ ih
  have := key l.reverse
  rwa [List.reverse_reverse] at this
section
open PySem.Spec PyProof.Rows
def mxL (d : Int) (ns : List Int) : Int := (mxTo (fun i => ns.getD i 0) ns.length).getD d
def mnL (d : Int) (ns : List Int) : Int := (mnTo (fun i => ns.getD i 0) ns.length).getD d
/-- the whole numbers that a walk over it gives -/
def IntsAt (K : PySem.W.Frag) (H : Hp) (a : Addr) (ns : List Int) : Prop := SqL K H a (ns.map V.int) ∨ ∃ kvs : List (Key × V), H a = some (.dK kvs) ∧ kvs.map Prod.fst = ns.map Sum.inl
@[irreducible] def mMaxD (K : PySem.W.Frag) : List V → List V → Hp → VK → Prop := fun vs zs H Q => ∃ (a : Addr) (ns : List Int) (d : Int), vs = [.ref a] ∧ zs = [.int d] ∧ IntsAt K H a ns ∧ Q (.int (mxL d ns)) H
@[irreducible] def mMinD (K : PySem.W.Frag) : List V → List V → Hp → VK → Prop := fun vs zs H Q => ∃ (a : Addr) (ns : List Int) (d : Int), vs = [.ref a] ∧ zs = [.int d] ∧ IntsAt K H a ns ∧ Q (.int (mnL d ns)) H
section
variable {K : PySem.W.Frag} {H : Hp} {Q : VK} {a : Addr} {ns : List Int} {d : Int}
theorem rd_maxD (h : IntsAt K H a ns) (q : Q (.int (mxL d ns)) H) : mMaxD K [.ref a] [.int d] H Q := by
  unfold mMaxD
  exact ⟨a, ns, d, rfl, rfl, h, q⟩
theorem rd_minD (h : IntsAt K H a ns) (q : Q (.int (mnL d ns)) H) : mMinD K [.ref a] [.int d] H Q := by
  unfold mMinD
  exact ⟨a, ns, d, rfl, rfl, h, q⟩
end
/-- such a walk, laid -/
theorem ints_walk {X : Cx} {pins : List (Addr × Obj)} {σ : L2.St} {H : Hp} {s : Shared} {a : Addr} {ns : List Int} {R : Value → Shared → Prop} {Er : Value → Shared → Prop} (hc : X.calm = true) (I : Inv X pins σ H s) (h : IntsAt X.K H a ns)
    (k : ∀ (J : Addr) (fp wr : List Addr) (n : Nat) (P : Nat → Value → Prop) (St : Nat → Shared → Prop) (s2 : Shared), n = ns.length → WalksS X.prog X.w X.A.in1 J fp wr (fun x y => y = x) n P St → St 0 s2 → (∀ b ∈ fp, b < s2.heap.objs.size) → (∀ i v, P i v → ∃ t, v = Value.int (ns.getD i 0) t) →
      (∀ s', Moved wr (fun x y => y = x) s2 s' → Inv X pins σ H s') → R (.ref J) s2) : wpAny (model X.prog X.w) X.A.in1 (pyIter (.ref a)) R Er s := by
  have hh : X.A.in1.handled = none := I.ok.hd hc
  -- the walk's own new object is all that moves
  have old : ∀ (o : Obj) (s' : Shared), Moved [s.heap.objs.size] (fun x y => y = x) { s with heap := s.heap.push o } s' → Inv X pins σ H s' := fun o s' mv => by
    obtain ⟨hp, gs, dr, tk, os⟩ := s'
    obtain ⟨h1, h2, h3, h4, h5⟩ := mv
    dsimp only at h1 h2 h3 h4 h5
    subst h2 h3 h4
    exact I.kept (t' := tk) fun b ob e => h1 b ob (fun z => by
      have := Heap.lt_size e
      rw [List.mem_singleton.mp z] at this
      exact Nat.lt_irrefl _ this) (Heap.get?_push_of_some _ e)
  rcases h with h | ⟨kvs, h, hk⟩
  · obtain ⟨its, rv, hl, _⟩ := I.list h
    have hI := rv.ints
    have ha : a < s.heap.objs.size := by
      obtain ⟨_, _, e, _⟩ := hl
      exact Heap.lt_size e
    have hlen : its.length = ns.length := hI.length
    refine wpAny_pyIter_list hl.isList ?_
    have W := (Walks.list (prog := X.prog) (w := X.w) (A := X.A.in1) hh s.heap.objs.size a (Nat.ne_of_lt ha) its.toArray).toS
    have en : its.toArray.size = ns.length := by
      rw [List.size_toArray]
      exact hlen
    refine k s.heap.objs.size _ _ _ _ _ _ en W ⟨⟨_, Heap.get?_push_size _ rfl, rfl, rfl⟩, hl.isList.push _⟩ (fun b hb => ?_) (fun i v e => ?_) (old _)
    · show b < (s.heap.push _).objs.size
      rw [Heap.size_push]
      rcases List.mem_cons.mp hb with z | z
      · exact z ▸ Nat.lt_succ_self _
      · exact List.mem_singleton.mp z ▸ Nat.lt_succ_of_lt ha
    · rw [List.getElem?_toArray] at e
      have hi : i < its.length := (List.getElem?_eq_some_iff.mp e).1
      obtain ⟨t, e2⟩ := ints_nth hI e
      exact ⟨t, e2⟩
  · obtain ⟨hz, hd, vs, rel, dd⟩ := dk_of I.hok h
    obtain ⟨es, ep, hr, hsz, hen⟩ := Heap.DictOf.raw dd
    have hkeys : vs.map Prod.fst = ns.map Sum.inl := rel.keys.symm.trans hk
    have hl : vs.length = ns.length := by
      have e := congrArg List.length hkeys
      rw [List.length_map, List.length_map] at e
      exact e
    have ha : a < s.heap.objs.size := by
      obtain ⟨o, e, _⟩ := id hr
      exact Heap.lt_size e
    refine wpAny_pyIter_dict_raw hd hr ?_
    have W := (Walks.rawKeys (prog := X.prog) (w := X.w) (A := X.A.in1) hh s.heap.objs.size a (Nat.ne_of_lt ha) es ep).toS
    refine k s.heap.objs.size _ _ _ _ _ _ (hsz.trans hl) W ⟨?_, ?_⟩ (fun b hb => ?_) (fun i v e => ?_) (old _)
    · exact ⟨_, Heap.get?_push_size _ rfl, rfl, rfl⟩
    · exact hr.at fun o e => Heap.get?_push_of_some _ e
    · show b < (s.heap.push _).objs.size
      rw [Heap.size_push]
      rcases List.mem_cons.mp hb with z | z
      · exact z ▸ Nat.lt_succ_self _
      · exact List.mem_singleton.mp z ▸ Nat.lt_succ_of_lt ha
    · obtain ⟨hi, rfl⟩ := e
      have hi2 : i < vs.length := by omega
      have hi3 : i < ns.length := by omega
      have h1 : (mixKind X.prog X.w).is vs[i].1 es[i].key = true := (hen i hi _ _ (List.getElem?_eq_getElem hi2)).1
      have e3 : vs[i].1 = Sum.inl ns[i] := by
        have z : (vs.map Prod.fst)[i]? = (ns.map (Sum.inl (β := Str)))[i]? := by rw [hkeys]
        rw [List.getElem?_map, List.getElem?_map, List.getElem?_eq_getElem hi2, List.getElem?_eq_getElem hi3] at z
        exact Option.some.inj z
      rw [e3] at h1
      obtain ⟨t, e4⟩ := relV_key (k := .inl ns[i]) h1
      refine ⟨t, ?_⟩
      rw [e4, List.getD_eq_getElem?_getD, List.getElem?_eq_getElem hi3]
      rfl
section
variable {X : Cx}
theorem cr_maxDf (hc : X.calm = true) : CallRK X (.builtin "max") [Str.ofString "default"] (mMaxD X.K) := by
  intro pins s σ H vs zs us ws Q I r rz h
  unfold mMaxD at h
  obtain ⟨a, ns, d, rfl, rfl, hn, q⟩ := h
  obtain rfl := Vals.ref1 r
  obtain ⟨w1, rfl, t1, e1⟩ := vals1 rz
  subst e1
  refine mx_kw (dv := .int d t1) (ints_walk hc I hn fun J fp wr n P St s2 en W st hfp hv hI => ⟨J, fp, wr, _, n, P, St, fun i => ns.getD i 0, rfl, W, st, hfp, hv, fun v s' mv hv' => ?_⟩)
  refine ⟨.int (mxL d ns), H, hI _ mv, ?_, q⟩
  unfold mxL
  unfold endsIn at hv'
  rw [en] at hv'
  split at hv'
  · rename_i e
    rw [e]
    exact ⟨t1, hv'⟩
  · rename_i m e
    rw [e]
    exact hv'
theorem cr_minDf (hc : X.calm = true) : CallRK X (.builtin "min") [Str.ofString "default"] (mMinD X.K) := by
  intro pins s σ H vs zs us ws Q I r rz h
  unfold mMinD at h
  obtain ⟨a, ns, d, rfl, rfl, hn, q⟩ := h
  obtain rfl := Vals.ref1 r
  obtain ⟨w1, rfl, t1, e1⟩ := vals1 rz
  subst e1
  refine mn_kw (dv := .int d t1) (ints_walk hc I hn fun J fp wr n P St s2 en W st hfp hv hI => ⟨J, fp, wr, _, n, P, St, fun i => ns.getD i 0, rfl, W, st, hfp, hv, fun v s' mv hv' => ?_⟩)
  refine ⟨.int (mnL d ns), H, hI _ mv, ?_, q⟩
  unfold mnL
  unfold endsIn at hv'
  rw [en] at hv'
  split at hv'
  · rename_i e
    rw [e]
    exact ⟨t1, hv'⟩
  · rename_i m e
    rw [e]
    exact hv'
end
theorem mxTo_ok (val : Nat → Int) : ∀ n : Nat, 0 < n → ∃ m, mxTo val n = some m ∧ (∃ i, i < n ∧ m = val i) ∧ ∀ i, i < n → val i ≤ m := by
  intro n
  induction n with
  | zero => exact fun h => absurd h (Nat.lt_irrefl _)
  | succ n ih =>
    intro _
    by_cases hn : 0 < n
    · obtain ⟨m, e, ⟨i, hi, ei⟩, hm⟩ := ih hn
      refine ⟨if val n > m then val n else m, ?_, ?_, fun j hj => ?_⟩
      · show some (match mxTo val n with | none => val n | some m => if val n > m then val n else m) = _
        rw [e]
      · split
        · exact ⟨n, by omega, rfl⟩
        · exact ⟨i, by omega, ei⟩
      · by_cases hjn : j < n
        · have := hm j hjn
          split <;> omega
        · have : j = n := by omega
          subst this
          split <;> omega
    · have : n = 0 := by omega
      subst this
      refine ⟨val 0, rfl, ⟨0, by omega, rfl⟩, fun j hj => ?_⟩
      obtain rfl : j = 0 := by omega
      exact Int.le_refl _
theorem mnTo_ok (val : Nat → Int) : ∀ n : Nat, 0 < n → ∃ m, mnTo val n = some m ∧ (∃ i, i < n ∧ m = val i) ∧ ∀ i, i < n → m ≤ val i := by
  intro n
  induction n with
  | zero => exact fun h => absurd h (Nat.lt_irrefl _)
  | succ n ih =>
    intro _
    by_cases hn : 0 < n
    · obtain ⟨m, e, ⟨i, hi, ei⟩, hm⟩ := ih hn
      refine ⟨if val n < m then val n else m, ?_, ?_, fun j hj => ?_⟩
      · show some (match mnTo val n with | none => val n | some m => if val n < m then val n else m) = _
        rw [e]
      · split
        · exact ⟨n, by omega, rfl⟩
        · exact ⟨i, by omega, ei⟩
      · by_cases hjn : j < n
        · have := hm j hjn
          split <;> omega
        · have : j = n := by omega
          subst this
          split <;> omega
    · have : n = 0 := by omega
      subst this
      refine ⟨val 0, rfl, ⟨0, by omega, rfl⟩, fun j hj => ?_⟩
      obtain rfl : j = 0 := by omega
      exact Int.le_refl _
theorem mxL_nil {d : Int} : mxL d [] = d := rfl
theorem mnL_nil {d : Int} : mnL d [] = d := rfl
theorem mxL_ok {d : Int} {ns : List Int} (h : ns ≠ []) : mxL d ns ∈ ns ∧ ∀ y ∈ ns, y ≤ mxL d ns := by
  obtain ⟨m, e, ⟨i, hi, ei⟩, hm⟩ := mxTo_ok (fun i => ns.getD i 0) ns.length (List.length_pos_iff.mpr h)
  unfold mxL
  rw [e]
  refine ⟨?_, fun y hy => ?_⟩
  · show m ∈ ns
    rw [ei]
    show ns.getD i 0 ∈ ns
    rw [List.getD_eq_getElem?_getD, List.getElem?_eq_getElem hi]
    exact List.getElem_mem hi
  · obtain ⟨j, hj, ej⟩ := List.mem_iff_getElem.mp hy
    have := hm j hj
    rw [List.getD_eq_getElem?_getD, List.getElem?_eq_getElem hj, Option.getD_some, ej] at this
    exact this
theorem mnL_ok {d : Int} {ns : List Int} (h : ns ≠ []) : mnL d ns ∈ ns ∧ ∀ y ∈ ns, mnL d ns ≤ y := by
  obtain ⟨m, e, ⟨i, hi, ei⟩, hm⟩ := mnTo_ok (fun i => ns.getD i 0) ns.length (List.length_pos_iff.mpr h)
  unfold mnL
  rw [e]
  refine ⟨?_, fun y hy => ?_⟩
  · show m ∈ ns
    rw [ei]
    show ns.getD i 0 ∈ ns
    rw [List.getD_eq_getElem?_getD, List.getElem?_eq_getElem hi]
    exact List.getElem_mem hi
  · obtain ⟨j, hj, ej⟩ := List.mem_iff_getElem.mp hy
    have := hm j hj
    rw [List.getD_eq_getElem?_getD, List.getElem?_eq_getElem hj, Option.getD_some, ej] at this
    exact this
end
/-! ### lists of a dict's keys; sorted; get and setdefault -/
section
open PySem.Spec PyProof.Rows
variable {X : Cx} {K : PySem.W.Frag} {H : Hp} {Q : VK} {a : Addr} {kvs : List (Key × V)} {ns : List Int} {n : Int} {z v : V}
@[irreducible] def mListD : List V → Hp → VK → Prop := fun xs H Q => ∃ (a : Addr) (kvs : List (Key × V)) (ns : List Int), xs = [.ref a] ∧ H a = some (.dK kvs) ∧ kvs.map Prod.fst = ns.map Sum.inl ∧ NewO (.lst (ns.map V.int)) H Q
theorem rd_listD (h : H a = some (.dK kvs)) (hk : kvs.map Prod.fst = ns.map Sum.inl) (q : NewO (.lst (ns.map V.int)) H Q) : mListD [.ref a] H Q := by
  unfold mListD
  exact ⟨a, kvs, ns, rfl, h, hk, q⟩
theorem keys_vals : ∀ {kvs : List (Key × V)} {ns : List Int}, kvs.map Prod.fst = ns.map Sum.inl → (kvs.map fun kv => kV kv.1) = ns.map V.int
  | [], [], _ => rfl
  | [], _ :: _, h => nomatch h
  | _ :: _, [], h => nomatch h
  | x :: r, n :: ns, h => by
    injection h with h1 h2
    rw [List.map_cons, List.map_cons, keys_vals h2, h1]
    rfl
theorem call_listDM (hc : X.calm = true) : CallR X (.type "list") mListD := fun pins s σ H xs us Q I r q => call_listD hc pins s σ H xs us Q I r (by
  unfold mListD at q
  obtain ⟨a, kvs, ns, e, h, hk, q⟩ := q
  refine ⟨a, kvs, e, .inl h, ?_⟩
  rw [keys_vals hk]
  exact q.go)
@[irreducible] def mSortD : List V → Hp → VK → Prop := fun xs H Q => ∃ (a : Addr) (kvs : List (Key × V)) (ns : List Int), xs = [.ref a] ∧ H a = some (.dK kvs) ∧ kvs.map Prod.fst = ns.map Sum.inl ∧ ns.length < 64 ∧ ∀ ys : List Int, ys.Perm ns → ys.Pairwise (· ≤ ·) → NewO (.lst (ys.map V.int)) H Q
theorem rd_sortD (h : H a = some (.dK kvs)) (hk : kvs.map Prod.fst = ns.map Sum.inl) (hl : ns.length < 64) (q : ∀ ys : List Int, ys.Perm ns → ys.Pairwise (· ≤ ·) → NewO (.lst (ys.map V.int)) H Q) : mSortD [.ref a] H Q := by
  unfold mSortD
  exact ⟨a, kvs, ns, rfl, h, hk, hl, q⟩
theorem call_sortDM (hc : X.calm = true) : CallR X (.builtin "sorted") mSortD := fun pins s σ H xs us Q I r q => call_sortedDI hc pins s σ H xs us Q I r (by
  unfold mSortD at q
  obtain ⟨a, kvs, ns, e, h, hk, hl, q⟩ := q
  exact ⟨a, kvs, ns, e, .inl h, hk, hl, fun ys p hp ho => (q ys hp ho).go p⟩)
@[irreducible] def mSortL (K : PySem.W.Frag) : List V → Hp → VK → Prop := fun xs H Q => ∃ (a : Addr) (ns : List Int), xs = [.ref a] ∧ SqL K H a (ns.map V.int) ∧ ns.length < 64 ∧ ∀ ys : List Int, ys.Perm ns → ys.Pairwise (· ≤ ·) → NewO (.lst (ys.map V.int)) H Q
theorem rd_sortL (h : SqL K H a (ns.map V.int)) (hl : ns.length < 64) (q : ∀ ys : List Int, ys.Perm ns → ys.Pairwise (· ≤ ·) → NewO (.lst (ys.map V.int)) H Q) : mSortL K [.ref a] H Q := by
  unfold mSortL
  exact ⟨a, ns, rfl, h, hl, q⟩
theorem call_sortLM : CallR X (.builtin "sorted") (mSortL X.K) := fun pins s σ H xs us Q I r q => cr_sorted pins s σ H xs us Q I r (by
  unfold mSortL at q
  obtain ⟨a, ns, e, h, hl, q⟩ := q
  exact ⟨a, ns, e, h, hl, fun ys p hp ho => (q ys hp ho).go p⟩)
@[irreducible] def mDGet2 (x y z : V) (H : Hp) (Q : VK) : Prop := ∃ a kvs k, x = .ref a ∧ y = kV k ∧ H a = some (.dK kvs) ∧ Q ((valV kvs k).getD z) H
theorem rd_dget2 (h : H a = some (.dK kvs)) (q : Q ((valV kvs (.inl n)).getD z) H) : mDGet2 (.ref a) (.int n) z H Q := by
  unfold mDGet2
  exact ⟨a, kvs, .inl n, rfl, rfl, h, q⟩
def mDGet2E (td ty tz : TE) : TE := fun σ H Q => td σ H fun x H1 => ∃ a kvs, x = .ref a ∧ H1 a = some (.dK kvs) ∧ ty σ H1 fun y H2 => tz σ H2 fun z H3 => mDGet2 x y z H3 Q
@[irreducible] def mDSetd (x y z : V) (H : Hp) (Q : VK) : Prop := ∃ a kvs k, x = .ref a ∧ y = kV k ∧ H a = some (.dK kvs) ∧ kvs.length < 1000000 ∧ (∀ v, valV kvs k = some v → Q v H) ∧ (valV kvs k = none → Q z (upd H a (.dK (putK kvs k z))))
theorem rd_dsetd (h : H a = some (.dK kvs)) (hl : kvs.length < 1000000) (q1 : ∀ v, valV kvs (.inl n) = some v → Q v H) (q2 : valV kvs (.inl n) = none → Q z (upd H a (.dK (putK kvs (.inl n) z)))) : mDSetd (.ref a) (.int n) z H Q := by
  unfold mDSetd
  exact ⟨a, kvs, .inl n, rfl, rfl, h, hl, q1, q2⟩
def mDSetdE (td ty tz : TE) : TE := fun σ H Q => td σ H fun x H1 => ∃ a kvs, x = .ref a ∧ H1 a = some (.dK kvs) ∧ ty σ H1 fun y H2 => tz σ H2 fun z H3 => mDSetd x y z H3 Q
theorem pe_dget2M {o e f : Expr} {td ty tz : TE} {apos cpos : Pos} (hu : X.A.units + 1 < cLine) (ho : PE X o td) (he : PE X e ty) (hf : PE X f tz) (hbase : attributeBase o "get" X.env (eval o X.env) = eval o X.env := by rfl)
    (hfew : ((backTo cpos (starEach [e, f] X.env)).all (fun x => !x.1) && (backToKw cpos (keywordEach [] X.env)).all (fun x => x.1.isSome) && decide (([e, f] : List Expr).length + ([] : List Keyword).length + (if ([] : List Keyword).isEmpty then 0 else 1) < 30)) = true := by rfl)
    (hline : (apos.endLine == cpos.line) = true := by rfl) (htr : backTo cpos (starEach [e, f] X.env) = [(false, eval e X.env), (false, eval f X.env)] := by rfl) : PE X (.Call (.Attribute o "get" apos) [e, f] [] cpos) (mDGet2E td ty tz) :=
  pe_weak (pe_dget2 hu (pe_c ho) (pe_c he) (pe_c hf) ⟨hbase, hfew, hline, htr⟩) fun σ H Q q => ⟨_, q, fun x H1 r => by
    obtain ⟨a, kvs, rfl, h, r⟩ := r
    refine ⟨a, rfl, .inl ⟨kvs, .inl h⟩, _, r, fun y H2 r => ⟨_, r, fun z H3 r => ?_⟩⟩
    unfold mDGet2 at r
    obtain ⟨a2, kvs2, k, e1, e2, h2, r⟩ := r
    cases e1
    exact ⟨_, e2 ▸ DGet.k h2, r⟩⟩
theorem pe_dsetdM {o e f : Expr} {td ty tz : TE} {apos cpos : Pos} (ho : PE X o td) (he : PE X e ty) (hf : PE X f tz) (hbase : attributeBase o "setdefault" X.env (eval o X.env) = eval o X.env := by rfl)
    (hfew : ((backTo cpos (starEach [e, f] X.env)).all (fun x => !x.1) && (backToKw cpos (keywordEach [] X.env)).all (fun x => x.1.isSome) && decide (([e, f] : List Expr).length + ([] : List Keyword).length + (if ([] : List Keyword).isEmpty then 0 else 1) < 30)) = true := by rfl)
    (hline : (apos.endLine == cpos.line) = true := by rfl) (htr : backTo cpos (starEach [e, f] X.env) = [(false, eval e X.env), (false, eval f X.env)] := by rfl) : PE X (.Call (.Attribute o "setdefault" apos) [e, f] [] cpos) (mDSetdE td ty tz) :=
  pe_weak (pe_dsetd (pe_c ho) (pe_c he) (pe_c hf) ⟨hbase, hfew, hline, htr⟩) fun σ H Q q => ⟨_, q, fun x H1 r => by
    obtain ⟨a, kvs, rfl, h, r⟩ := r
    refine ⟨a, rfl, .inl ⟨kvs, .inl h⟩, _, r, fun y H2 r => ⟨_, r, fun z H3 r => ?_⟩⟩
    unfold mDSetd at r
    obtain ⟨a2, kvs2, k, e1, e2, h2, hl, q1, q2⟩ := r
    cases e1
    exact ⟨kvs2, k, h2, e2, szl hl, q1, q2⟩⟩
/-! ### in, not in: lists of data -/
@[irreducible] def mInD (K : PySem.W.Frag) : R2 := rInD K
@[irreducible] def mNotInD (K : PySem.W.Frag) : R2 := rNotInD K
theorem hu65 {A : Around} {k : Nat} (r : Room k A) : A.units + 65 < cLine := by
  have := r.un
  omega
theorem op_inDM (hu : X.A.units + 65 < cLine) : OpR X (compareOp .In) (mInD X.K) := fun pins s σ H x y v u Q I rx ry q => op_inD hu pins s σ H x y v u Q I rx ry (by
  unfold mInD at q
  exact q)
theorem op_notInDM (hu : X.A.units + 65 < cLine) : OpR X (compareOp .NotIn) (mNotInD X.K) := fun pins s σ H x y v u Q I rx ry q => op_notInD hu pins s σ H x y v u Q I rx ry (by
  unfold mNotInD at q
  exact q)
theorem op_inDK (h : X.K = K) (hu : X.A.units + 65 < cLine) : OpR X (compareOp .In) (mInD K) := h ▸ op_inDM hu
theorem op_notInDK (h : X.K = K) (hu : X.A.units + 65 < cLine) : OpR X (compareOp .NotIn) (mNotInD K) := h ▸ op_notInDM hu
theorem rd_inD {x y : V} {m k : Nat} (d : PyData) (ds : List PyData) (h1 : Dp K H x d) (h2 : Dp K H y (.list ds)) (s1 : Sh m d) (s2 : ShA k ds) (q : Q (.bl (ds.any fun z => PyData.eqv z d)) H) (hm : m ≤ 64 := by decide) (hk : k + 1 ≤ 64 := by decide) : mInD K x y H Q := by
  unfold mInD
  exact ⟨d, ds, h1, h2, s1.shaped hm, (sh_lst s2).shaped hk, q⟩
theorem rd_notInD {x y : V} {m k : Nat} (d : PyData) (ds : List PyData) (h1 : Dp K H x d) (h2 : Dp K H y (.list ds)) (s1 : Sh m d) (s2 : ShA k ds) (q : Q (.bl (!ds.any fun z => PyData.eqv z d)) H) (hm : m ≤ 64 := by decide) (hk : k + 1 ≤ 64 := by decide) : mNotInD K x y H Q := by
  unfold mNotInD
  exact ⟨d, ds, h1, h2, s1.shaped hm, (sh_lst s2).shaped hk, q⟩
theorem any_ints (n : Int) : ∀ ns : List Int, ((ns.map PyData.int).any fun z => PyData.eqv z (.int n)) = decide (n ∈ ns)
  | [] => by simp
  | m :: r => by
    rw [List.map_cons, List.any_cons, any_ints n r, PyData.eqv]
    by_cases h : m = n
    · subst h
      simp
    · have h2 : ¬ n = m := fun e => h e.symm
      simp [h, h2]
theorem rd_inI (h : SqL K H a (ns.map V.int)) (q : Q (.bl (decide (n ∈ ns))) H) : mInD K (.int n) (.ref a) H Q :=
  rd_inD (m := 0) (k := 0) (.int n) (ns.map PyData.int) (.int n) (dp_ints h) sh_int (sh_ints ns) (by rw [any_ints]; exact q)
theorem rd_notInI (h : SqL K H a (ns.map V.int)) (q : Q (.bl (!decide (n ∈ ns))) H) : mNotInD K (.int n) (.ref a) H Q :=
  rd_notInD (m := 0) (k := 0) (.int n) (ns.map PyData.int) (.int n) (dp_ints h) sh_int (sh_ints ns) (by rw [any_ints]; exact q)
end
/-! ### for i, x in enumerate(xs) -/
@[irreducible] def mForE (K : PySem.W.Frag) (ta : TA) (i1 i2 : Nat) (tb : TS) : TS := fun D σ H => ta σ H fun ws H1 => ∃ (a : Addr) (xs : List V) (Pv : Nat → L2.St → Hp → Prop), ws = [.ref a] ∧ SqL K H1 a xs ∧ Pv 0 σ H1 ∧ (∀ i σ' H', i ≤ xs.length → Pv i σ' H' → SqL K H' a xs) ∧
  (∀ i x σ' H' H'', xs[i]? = some x → Pv i σ' H' → Same H' H'' → tb { D with nx := Pv (i + 1), ct := Pv (i + 1), bk := D.nx } ((σ'.set i1 (some (.int (i : Nat)))).set i2 (some x)) H'') ∧ ∀ σ' H', Pv xs.length σ' H' → D.nx σ' H'
theorem rd_forE {K : PySem.W.Frag} {ta : TA} {i1 i2 : Nat} {tb : TS} {D : Ends} {σ : L2.St} {H : Hp} (h : ta σ H fun ws H1 => ∃ (a : Addr) (xs : List V) (Pv : Nat → L2.St → Hp → Prop), ws = [.ref a] ∧ SqL K H1 a xs ∧ Pv 0 σ H1 ∧ (∀ i σ' H', i ≤ xs.length → Pv i σ' H' → SqL K H' a xs) ∧
  (∀ i x σ' H' H'', xs[i]? = some x → Pv i σ' H' → Same H' H'' → tb { D with nx := Pv (i + 1), ct := Pv (i + 1), bk := D.nx } ((σ'.set i1 (some (.int (i : Nat)))).set i2 (some x)) H'') ∧ ∀ σ' H', Pv xs.length σ' H' → D.nx σ' H') : mForE K ta i1 i2 tb D σ H := by
  unfold mForE
  exact h
theorem ps_forE {X : Cx} {ta : TA} {pos : Pos} {e : Expr} {kk : Nat} {p p2 tpos : Pos} {i1 i2 : Nat} {body : List Stmt} {tb : TS} {t1 t2 : Expr} (hp : PassesOwn (model X.prog X.w) X.A X.env X.xe) (hc : X.calm = true) (hg : Gl X "enumerate") (hm : X.mg "enumerate" = none) (ha : PA X [e] ta)
    (hgt : PG X (.Tuple [t1, t2] kk tpos) (gTup X.K 2 (gCons (gName i1) (gCons (gName i2) gNil)))) (hb : PSs X body tb)
    (hs : starEach [e] X.env = [(false, eval e X.env)] := by rfl) (hs2 : ∀ y, foldedSetIterable (.Call (.Name "enumerate" p) [e] [] p2) X.env y = pure y := by intro _; rfl) :
    PS X (.For (.Tuple [t1, t2] kk tpos) (.Call (.Name "enumerate" p) [e] [] p2) body [] pos) (mForE X.K ta i1 i2 tb) :=
  ps_weak (ps_for hp hc (pi_enum hg hm (pa_c ha) hs) hgt hb hs2) fun D σ H q => by
    unfold mForE at q
    refine ⟨_, q, fun ws H1 r => ?_⟩
    obtain ⟨a, xs, Pv, rfl, hx, h0, hq, hs, hd⟩ := r
    refine ⟨a, xs, rfl, hx, ?_⟩
    refine for_it (walk_enum (K := X.K) (a := a) (xs := xs)) Pv h0 hq (fun i x σ' H' H'' hi p y => ?_) hd
    obtain ⟨T, u, v, rfl, hT, rfl, e1, e2⟩ := y
    cases e1
    exact ⟨T, [.int (i : Nat), v], rfl, st_of upd_same, rfl, .int (i : Nat), [v], rfl, v, [], rfl, rfl, hs i v σ' H' _ e2 p (same_upd hT)⟩
/-! ### [e for k in d if t], d a local's dict -/
section
variable {X : Cx} {K : PySem.W.Frag}
theorem im_keys {td : TE} : IMono (iKeys td) (iKeys (cTE td)) := fun σ H R R' h q => ⟨_, q, fun v H' r => by
  obtain ⟨d, o, e, r⟩ := r
  refine ⟨d, o, e, ?_⟩
  rcases r with ⟨kvs, h1, r⟩ | ⟨kvs, h1, r⟩
  · exact .inl ⟨kvs, h1, h _ _ r⟩
  · exact .inr ⟨kvs, h1, h _ _ r⟩⟩
@[irreducible] def mLcK (i j : Nat) (tt : TT) (te : TE) : TE := fun σ H Q => ∃ (d : Addr) (kvs : List (Key × V)) (ns : List Int) (keep : Int → Bool) (f : Int → V), σ[i]? = some (some (.ref d)) ∧ H d = some (.dK kvs) ∧ kvs.map Prod.fst = ns.map Sum.inl ∧ ns.length ≤ 100000 ∧
  (∀ n, n ∈ ns → ∀ H', (∀ b o, b ≠ d → H b = some o → H' b = some o) → tt ((wipe σ [j]).set j (some (.int n))) H' fun b H2 => Same H' H2 ∧ b = keep n ∧ (b = true → te ((wipe σ [j]).set j (some (.int n))) H2 fun v H3 => Same H2 H3 ∧ v = f n)) ∧ NewO (.lst ((ns.filter keep).map f)) H Q
theorem rd_lcK {i j : Nat} {tt : TT} {te : TE} {σ : L2.St} {H : Hp} {Q : VK} (d : Addr) (kvs : List (Key × V)) (ns : List Int) (keep : Int → Bool) (f : Int → V) (h1 : σ[i]? = some (some (.ref d))) (h2 : H d = some (.dK kvs)) (h3 : kvs.map Prod.fst = ns.map Sum.inl) (h4 : ns.length ≤ 100000)
    (h5 : ∀ n, n ∈ ns → ∀ H', (∀ b o, b ≠ d → H b = some o → H' b = some o) → tt ((wipe σ [j]).set j (some (.int n))) H' fun b H2 => Same H' H2 ∧ b = keep n ∧ (b = true → te ((wipe σ [j]).set j (some (.int n))) H2 fun v H3 => Same H2 H3 ∧ v = f n))
    (q : NewO (.lst ((ns.filter keep).map f)) H Q) : mLcK i j tt te σ H Q := by
  unfold mLcK
  exact ⟨d, kvs, ns, keep, f, h1, h2, h3, h4, h5, q⟩
theorem filter_idx {α β : Type} (keep : α → Bool) (f : α → β) (d : α) : ∀ l : List α, ((List.range l.length).filter fun i => keep (l.getD i d)).map (fun i => f (l.getD i d)) = (l.filter keep).map f := by
  refine snocG ?_ ?_
  · rfl
  · intro l x ih
    rw [List.length_append, List.length_singleton, List.range_succ, List.filter_append, List.map_append, List.filter_append, List.map_append, ← ih]
    have hx : (l ++ [x]).getD l.length d = x := by
      rw [List.getD_eq_getElem?_getD, List.getElem?_append_right (Nat.le_refl _), Nat.sub_self]
      rfl
    have hl : ∀ i, i ∈ List.range l.length → (l ++ [x]).getD i d = l.getD i d := fun i hi => by
      rw [List.getD_eq_getElem?_getD, List.getD_eq_getElem?_getD, List.getElem?_append_left (List.mem_range.mp hi)]
    congr 1
    · have e1 : (List.range l.length).filter (fun i => keep ((l ++ [x]).getD i d)) = (List.range l.length).filter (fun i => keep (l.getD i d)) := List.filter_congr fun i hi => by rw [hl i hi]
      rw [e1]
      exact List.map_congr_left fun i hi => by rw [hl i (List.mem_filter.mp hi).1]
    · rw [List.filter_cons, List.filter_cons, hx]
      cases keep x with
      | true => simp only [if_true, List.filter_nil, List.map_cons, List.map_nil, hx]
      | false => rfl
theorem pe_lcK {elt it : Expr} {scope : Scope} {i j : Nat} {x : Str} {xpos pos : Pos} {ifs : List Expr} {tt : TT} {te : TE} (hc : X.calm = true) (hN : X.N.Nodup) (ha : PE X it (fun σ H Q => ∃ v, σ[i]? = some (some v) ∧ Q v H)) (ok : BlkOk X.N X.env.scope scope [(x, j)])
    (hgt : ∀ (s : Shared) (H : Hp) (C : Addr) (cl : List (Str × Addr)) (fp : List Addr), PG (X.blk s H scope (compEnvC scope cl C X.env) fp) (.Name x xpos) (gName j))
    (ht : ∀ (s : Shared) (H : Hp) (C : Addr) (cl : List (Str × Addr)) (fp : List Addr), PTs (X.blk s H scope (compEnvC scope cl C X.env) fp) ifs tt)
    (he : ∀ (s : Shared) (H : Hp) (C : Addr) (cl : List (Str × Addr)) (fp : List Addr), PE (X.blk s H scope (compEnvC scope cl C X.env) fp) elt te) (hs2 : ∀ y, foldedSetIterable it X.env y = pure y := by intro _; rfl) :
    PE X (.ListComp elt [⟨.Name x xpos, it, ifs, 0⟩] scope pos) (mLcK i j tt te) :=
  pe_weak (pe_lock (pe_lcP (wi' := iKeys fun σ H Q => ∃ v, σ[i]? = some (some v) ∧ Q v H) [j] im_keys hc hN (pi_keys (pe_c ha)) ok hgt (fun s H C cl fp => pts_c (ht s H C cl fp)) (fun s H C cl fp => pe_c (he s H C cl fp)) rfl hs2)) fun σ H Q q => by
    unfold mLcK at q
    obtain ⟨d, kvs, ns, keep, f, h1, h2, h3, h4, h5, q⟩ := q
    have hkl : kvs.length = ns.length := by
      have e := congrArg List.length h3
      rw [List.length_map, List.length_map] at e
      exact e
    refine ⟨d, .dK kvs, h2, trivial, fun od => ?_⟩
    unfold mLcP
    refine ⟨.ref d, h1, d, od, rfl, .inl ⟨kvs, upd_same, ?_⟩⟩
    have nd : ∀ {p : Addr}, (upd H d (.frz od (.dK kvs))) p = none → p ≠ d := fun z e => by
      rw [e, upd_same] at z
      cases z
    refine ⟨kvs.length, _, _, fun k => keep (ns.getD k 0), fun k => f (ns.getD k 0), walk_keys (d := d) (o := od) (kvs := kvs), by omega, fun H' s => s _ _ upd_same, fun D hD k y H' H'' hk p w => ?_, fun p H' np s e => ?_⟩
    · obtain ⟨rfl, ky, vy, hkv, rfl⟩ := w
      have hk2 : k < ns.length := by omega
      have ek : ky = Sum.inl (ns.getD k 0) := by
        have z : (kvs.map Prod.fst)[k]? = (ns.map (Sum.inl (β := Str)))[k]? := by rw [h3]
        rw [List.getElem?_map, List.getElem?_map, hkv, List.getElem?_eq_getElem hk2] at z
        rw [List.getD_eq_getElem?_getD, List.getElem?_eq_getElem hk2]
        exact Option.some.inj z
      subst ek
      have hin : ns.getD k 0 ∈ ns := by
        rw [List.getD_eq_getElem?_getD, List.getElem?_eq_getElem hk2]
        exact List.getElem_mem hk2
      have base : ∀ b o, b ≠ d → H b = some o → H'' b = some o := fun b o hb e => p.sm _ _ (by rw [upd_ne hb]; exact e)
      have hh := h5 _ hin H'' base
      refine ⟨wipe_set rfl, _, hh, fun b H2 r => ?_⟩
      obtain ⟨s1, rfl, r⟩ := r
      cases hb : keep (ns.getD k 0) with
      | true =>
        refine br_T ⟨_, r hb, fun v H3 r2 => ?_⟩
        obtain ⟨s2, rfl⟩ := r2
        exact p.put hD (by omega) (s1.trans s2) hb rfl
      | false => exact br_F (p.skip s1 hb)
    · have hpd : p ≠ d := nd np
      rw [hkl, filter_idx keep f 0 ns] at e
      refine ⟨s _ _ upd_same, q p (upd H' d (.dK kvs)) (by rw [upd_ne hpd] at np; exact np) (fun b o hb => ?_) (by rw [upd_ne hpd]; exact e)⟩
      by_cases hbd : b = d
      · subst hbd
        rw [upd_same]
        rw [h2] at hb
        exact hb
      · rw [upd_ne hbd]
        exact s _ _ (by rw [upd_ne hbd]; exact hb)
end
/-! ### new tuples, told to be new -/
def EltF (te : TE) (σ : L2.St) (H : Hp) (xs : List V) : Prop := ∀ H', Same H H' → te σ H' fun v H'' => Same H' H'' ∧ ∃ p, v = .ref p ∧ H' p = none ∧ H'' p = some (.tup xs)
def NewTF (n : Nat) (f : Nat → List V) (H : Hp) (Q : VK) : Prop := ∀ (D : Addr) (H' : Hp) (ps : List Addr), H D = none → Same H H' → H' D = some (.lst (ps.map V.ref)) → ps.length = n → (∀ i p, ps[i]? = some p → H p = none ∧ H' p = some (.tup (f i))) → Q (.ref D) H'
def TsF (H1 : Hp) (D : Addr) (f : Nat → List V) (i : Nat) (H' : Hp) : Prop := Same H1 H' ∧ ∃ ps : List Addr, H' D = some (.lst (ps.map V.ref)) ∧ ps.length = i ∧ ∀ k p, ps[k]? = some p → H1 p = none ∧ H' p = some (.tup (f k))
theorem TsF.next {H1 H' H'' : Hp} {D p : Addr} {f : Nat → List V} {i : Nat} (hD : H1 D = none) (w : TsF H1 D f i H') (s : Same H' H'') (hn : H' p = none) (hp : H'' p = some (.tup (f i))) : ∃ acc, H'' D = some (.lst acc) ∧ acc.length = i ∧ TsF H1 D f (i + 1) (upd H'' D (.lst (acc ++ [.ref p]))) := by
  obtain ⟨sm, ps, hd, hl, ht⟩ := w
  have hd2 := s _ _ hd
  have ne : ∀ {q : Addr} {xs : List V}, H'' q = some (.tup xs) → q ≠ D := fun {q xs} h e => by
    rw [e, hd2] at h
    cases h
  refine ⟨_, hd2, by rw [List.length_map, hl], same_mut (sm.trans s) hD, ps ++ [p], ?_, by rw [List.length_append, List.length_singleton, hl], fun k q hk => ?_⟩
  · rw [upd_same, List.map_append]
    rfl
  · by_cases h : k < ps.length
    · rw [List.getElem?_append_left h] at hk
      have h2 := ht k q hk
      have h3 := s _ _ h2.2
      refine ⟨h2.1, ?_⟩
      rw [upd_ne (ne h3)]
      exact h3
    · rw [List.getElem?_append_right (by omega)] at hk
      have h0 : k - ps.length = 0 := by
        cases e : k - ps.length with
        | zero => rfl
        | succ m => rw [e] at hk; simp at hk
      rw [h0] at hk
      have e : p = q := Option.some.inj hk
      have ek : k = i := by omega
      subst e
      rw [ek, upd_ne (ne hp)]
      exact ⟨same_none sm hn, hp⟩
/-! ### [(..) for x in range(a, b)] -/
@[irreducible] def mLcTR2 (ta : TA) (j : Nat) (te : TE) (vs : List Nat) : TE := fun σ H Q => ta σ H fun ws H1 => ∃ (lo hi : Int) (f : Nat → List V), ws = [.int lo, .int hi] ∧ (-100000 ≤ lo ∧ lo ≤ 100000 ∧ -100000 ≤ hi ∧ hi ≤ 100000) ∧ (∀ i, i < (hi - lo).toNat → EltF te ((wipe σ vs).set j (some (.int (lo + (i : Int))))) H1 (f i)) ∧ NewTF (hi - lo).toNat f H1 Q
theorem rd_lcTR2 {ta : TA} {j : Nat} {te : TE} {vs : List Nat} {σ : L2.St} {H : Hp} {Q : VK} (h : ta σ H fun ws H1 => ∃ (lo hi : Int) (f : Nat → List V), ws = [.int lo, .int hi] ∧ (-100000 ≤ lo ∧ lo ≤ 100000 ∧ -100000 ≤ hi ∧ hi ≤ 100000) ∧ (∀ i, i < (hi - lo).toNat → EltF te ((wipe σ vs).set j (some (.int (lo + (i : Int))))) H1 (f i)) ∧ NewTF (hi - lo).toNat f H1 Q) : mLcTR2 ta j te vs σ H Q := by
  unfold mLcTR2
  exact h
theorem lcTR2_of {ta : TA} {j : Nat} {te : TE} {vs : List Nat} {σ : L2.St} {H : Hp} {Q : VK} (hj : vs = [j]) (q : mLcTR2 ta j te vs σ H Q) : tLc (iRng2 (cTA ta)) (gName j) tYes (cTE te) vs σ H Q := by
  unfold mLcTR2 at q
  refine ⟨_, q, fun ws H1 r => ?_⟩
  obtain ⟨lo, hi, f, rfl, ⟨h1, h2, h3, h4⟩, he, hq⟩ := r
  have big : (2 : Int) ^ 62 = 4611686018427387904 := by decide
  refine ⟨lo, hi, rfl, ⟨by omega, by omega, by omega, by omega⟩, fun D hD => ?_⟩
  refine lc_range (lo := lo) (n := (hi - lo).toNat) (fun i H' => TsF H1 D f i H') ⟨same_upd hD, [], upd_same, rfl, fun k p h => by cases h⟩ (fun i H' hi w => ⟨wipe_set hj, _, he i hi H' w.1, fun v H'' r => ?_⟩) fun H' w => ?_
  · obtain ⟨s, p, rfl, hn, hp⟩ := r
    obtain ⟨acc, k1, k2, k3⟩ := w.next hD s hn hp
    exact ⟨acc, k1, szl (by omega), k3⟩
  · obtain ⟨sm, ps, hd, hl, ht⟩ := w
    exact hq D H' ps hD sm hd hl ht
section
variable {X : Cx} {te : TE} {ta : TA} {pos : Pos}
theorem pe_lcTR2 {elt : Expr} {scope : Scope} {j : Nat} {x : Str} {a b : Expr} {p p2 xpos : Pos} (hc : X.calm = true) (hN : X.N.Nodup) (hg : Gl X "range") (hm : X.mg "range" = none) (ha : PA X [a, b] ta) (ok : BlkOk X.N X.env.scope scope [(x, j)])
    (hgt : ∀ (s : Shared) (H : Hp) (C : Addr) (cl : List (Str × Addr)) (fp : List Addr), PG (X.blk s H scope (compEnvC scope cl C X.env) fp) (.Name x xpos) (gName j))
    (he : ∀ (s : Shared) (H : Hp) (C : Addr) (cl : List (Str × Addr)) (fp : List Addr), PE (X.blk s H scope (compEnvC scope cl C X.env) fp) elt te)
    (hs : starEach [a, b] X.env = [(false, eval a X.env), (false, eval b X.env)] := by rfl) (hs3 : starEach [b] X.env = [(false, eval b X.env)] := by rfl) (hs2 : ∀ y, foldedSetIterable (.Call (.Name "range" p) [a, b] [] p2) X.env y = pure y := by intro _; rfl) :
    PE X (.ListComp elt [⟨.Name x xpos, .Call (.Name "range" p) [a, b] [] p2, [], 0⟩] scope pos) (mLcTR2 ta j te [j]) :=
  pe_weak (pe_lc hc hN (pi_range2 hg hm (pa_c ha) hs hs3) ok hgt (fun _ _ _ _ _ => pts_nil) (fun s H C cl fp => pe_c (he s H C cl fp)) hs2) fun _ _ _ q => lcTR2_of rfl q
end
/-- new objects join what stays -/
theorem Own.adopt {S B0 B H H' : Hp} {as : List Addr} {l : List (Addr × HO)} (w : Own S B0 as B l H) (s : Same H H') (ps : List Addr) (hp : ∀ p ∈ ps, H p = none ∧ H' p ≠ none) : ∃ B', Same B B' ∧ (∀ p ∈ ps, B' p = H' p) ∧ Own S B0 as B' l H' := by
  have hB : ∀ p ∈ ps, B p = none := fun p h => w.frB (hp p h).1
  have sb : Same B (fun b => if b ∈ ps then H' b else B b) := fun b o h => by
    show (if b ∈ ps then H' b else B b) = some o
    rw [if_neg (fun z => by rw [hB b z] at h; cases h)]
    exact h
  refine ⟨fun b => if b ∈ ps then H' b else B b, sb, fun p h => if_pos h, ⟨fun a u h => s _ _ (w.c.cell a u h), w.c.nd, fun b u h => ?_, fun a u h => ?_⟩, fun b u hb h => s _ _ (w.kept b u hb h), w.own, w.grow.trans sb, fun b h k => ?_, fun a h e => w.there a h (same_none s e)⟩
  · have h2 : (if b ∈ ps then H' b else B b) = some u := h
    split at h2
    · exact h2
    · exact s _ _ (w.c.imm _ _ h2)
  · show (if a ∈ ps then H' a else B a) = none
    rw [if_neg (fun z => w.notin (hp a z).1 h)]
    exact w.c.dis a u h
  · by_cases hb : b ∈ ps
    · exact (w.frS (hp b hb).1).1
    · have k2 : (if b ∈ ps then H' b else B b) ≠ none := k
      rw [if_neg hb] at k2
      exact w.new b h k2
theorem br_or {c d : Bool} {Q : VK} {H : Hp} {B : Prop} (hB : Q (.bl d) H → B) (q : Q (.bl (c || d)) H) : Br c (Q (.bl true) H) B := by
  cases c with
  | true => exact br_T q
  | false => exact br_F (hB q)
theorem rd_dget2P {a : Addr} {kvs : List (Key × V)} {n : Int} {z : V} {H : Hp} {Q : VK} (P : V → Hp → Prop) (h : H a = some (.dK kvs)) (p : P ((valV kvs (.inl n)).getD z) H) (k : ∀ v H', P v H' → Q v H') : mDGet2 (.ref a) (.int n) z H Q := rd_dget2 h (k _ _ p)
theorem Own.perm {S B0 B H : Hp} {as : List Addr} {l l' : List (Addr × HO)} (w : Own S B0 as B l H) (h : l'.Perm l) : Own S B0 as B l' H := w.sub (fun _ hc => h.mem_iff.mp hc) ((h.map _).nodup_iff.mpr w.c.nd)
/-! ### [(..) for target in xs]: new tuples -/
@[irreducible] def mLcTG (K : PySem.W.Frag) (tl : TE) (g : TG) (te : TE) (vs : List Nat) : TE := fun σ H Q => tl σ H fun x H1 => ∃ (a : Addr) (xs : List V) (f : Nat → List V), x = .ref a ∧ SqL K H1 a xs ∧ xs.length ≤ 1000 ∧
  (∀ i y, xs[i]? = some y → ∀ H', Same H1 H' → g y (wipe σ vs) H' fun σ2 H2 => wipe σ2 vs = wipe σ vs ∧ te σ2 H2 fun v H3 => Same H' H3 ∧ ∃ p, v = .ref p ∧ H3 p = some (.tup (f i))) ∧ NewTs xs.length f H1 Q
theorem rd_lcTG {K : PySem.W.Frag} {tl : TE} {g : TG} {te : TE} {vs : List Nat} {σ : L2.St} {H : Hp} {Q : VK} (h : tl σ H fun x H1 => ∃ (a : Addr) (xs : List V) (f : Nat → List V), x = .ref a ∧ SqL K H1 a xs ∧ xs.length ≤ 1000 ∧
  (∀ i y, xs[i]? = some y → ∀ H', Same H1 H' → g y (wipe σ vs) H' fun σ2 H2 => wipe σ2 vs = wipe σ vs ∧ te σ2 H2 fun v H3 => Same H' H3 ∧ ∃ p, v = .ref p ∧ H3 p = some (.tup (f i))) ∧ NewTs xs.length f H1 Q) : mLcTG K tl g te vs σ H Q := by
  unfold mLcTG
  exact h
theorem lcTG_of {K : PySem.W.Frag} {tl : TE} {g : TG} {te : TE} {vs : List Nat} {σ : L2.St} {H : Hp} {Q : VK} (q : mLcTG K tl g te vs σ H Q) : tLc (iList K (cTE tl)) (cTG g) tYes (cTE te) vs σ H Q := by
  unfold mLcTG at q
  refine ⟨_, q, fun x H1 r => ?_⟩
  obtain ⟨a, xs, f, rfl, hx, hn, he, hq⟩ := r
  refine ⟨a, rfl, ⟨xs, hx⟩, fun D hD => ?_⟩
  refine lc_list (xs := xs) (fun i H' => TsW H1 D f i H') ⟨same_upd hD, [], upd_same, rfl, fun k p h => by cases h⟩ (fun i H' _ w => w.1.seq hx) (fun i y H' hi w => ⟨_, he i y hi H' w.1, fun σ2 H2 r => ⟨r.1, _, r.2, fun v H3 r2 => ?_⟩⟩) fun H' w => ?_
  · obtain ⟨s, p, rfl, hp⟩ := r2
    obtain ⟨acc, h1, h2, h3⟩ := w.next hD s hp
    have hl : i < xs.length := (List.getElem?_eq_some_iff.mp hi).1
    exact ⟨acc, h1, szl (by omega), h3⟩
  · obtain ⟨sm, ps, hd, hl, ht⟩ := w
    exact hq D H' ps hD sm hd hl ht
theorem pe_lcTG {X : Cx} {tg elt it : Expr} {scope : Scope} {own : List (Str × Nat)} {g : TG} {te tl : TE} {pos : Pos} (vs : List Nat) (hc : X.calm = true) (hN : X.N.Nodup) (ha : PE X it tl) (ok : BlkOk X.N X.env.scope scope own)
    (hgt : ∀ (s : Shared) (H : Hp) (C : Addr) (cl : List (Str × Addr)) (fp : List Addr), PG (X.blk s H scope (compEnvC scope cl C X.env) fp) tg g)
    (he : ∀ (s : Shared) (H : Hp) (C : Addr) (cl : List (Str × Addr)) (fp : List Addr), PE (X.blk s H scope (compEnvC scope cl C X.env) fp) elt te) (hvs : own.map (·.2) = vs := by rfl) (hs2 : ∀ y, foldedSetIterable it X.env y = pure y := by intro _; rfl) :
    PE X (.ListComp elt [⟨tg, it, [], 0⟩] scope pos) (mLcTG X.K tl g te vs) :=
  pe_weak (pe_lc hc hN (pi_list (pe_c ha)) ok (fun s H C cl fp => pg_c (hgt s H C cl fp)) (fun _ _ _ _ _ => pts_nil) (fun s H C cl fp => pe_c (he s H C cl fp)) hs2) fun _ _ _ q => by
    rw [hvs]
    exact lcTG_of q
/-! ### x or y as a value, y a name -/
@[irreducible] def OrB (x : V) (σ : L2.St) (j : Nat) (H : Hp) (Q : VK) : Prop := ∃ c d, x = .bl c ∧ σ[j]? = some (some (.bl d)) ∧ Q (.bl (c || d)) H
def mOrB (ta : TE) (j : Nat) : TE := fun σ H Q => ta σ H fun x H1 => OrB x σ j H1 Q
theorem pe_orB {X : Cx} {a b : Expr} {ta : TE} {j : Nat} {pos : Pos} (ha : PE X a ta) (hb : PE X b (fun σ H Q => ∃ v, σ[j]? = some (some v) ∧ Q v H)) : PE X (.BoolOp .Or [a, b] pos) (mOrB ta j) :=
  pe_weak (pe_orM (pe_c ha) (pe_one hb)) fun σ H Q q => ⟨_, q, fun x H1 r => by
    unfold OrB at r
    obtain ⟨c, d, e, hd, r⟩ := r
    cases c with
    | true => exact ⟨true, e, br_T r⟩
    | false => exact ⟨false, e, br_F ⟨.bl d, hd, r⟩⟩⟩
theorem rd_orB {c d : Bool} {σ : L2.St} {j : Nat} {H : Hp} {Q : VK} (hd : σ[j]? = some (some (.bl d))) (q : Q (.bl (c || d)) H) : OrB (.bl c) σ j H Q := by
  unfold OrB
  exact ⟨c, d, rfl, hd, q⟩
/-- a and b as a test, told as one truth value -/
@[irreducible] def AndP (c : Bool) (u : TT) (σ : L2.St) (H : Hp) (Q : Bool → Hp → Prop) : Prop := ∃ d : Bool, (c = true → u σ H fun d' H2 => d' = d ∧ H2 = H) ∧ Q (c && d) H
def mAndP (t u : TT) : TT := fun σ H Q => t σ H fun c H1 => AndP c u σ H1 Q
theorem pw_andP {X : Cx} {a b : Expr} {tA tB : TT} {pos : Pos} (ha : PT X a tA) (hb : PT X b tB) : PW X (.BoolOp .And [a, b] pos) (mAndP tA tB) :=
  pw_weak (pw_andM (pt_c ha) (pw_and1 (pt_c hb))) fun σ H Q q => ⟨_, q, fun c H1 r => by
    unfold AndP at r
    obtain ⟨d, h1, h2⟩ := r
    cases c with
    | true => exact br_T ⟨_, h1 rfl, fun d' H2 z => by
        obtain ⟨rfl, rfl⟩ := z
        exact h2⟩
    | false => exact br_F h2⟩
theorem rd_andP {c : Bool} {u : TT} {σ : L2.St} {H : Hp} {Q : Bool → Hp → Prop} (d : Bool) (h : c = true → u σ H fun d' H2 => d' = d ∧ H2 = H) (q : Q (c && d) H) : AndP c u σ H Q := by
  unfold AndP
  exact ⟨d, h, q⟩
end My
namespace My
open PySem L2
/-! ### a comprehension told by what holds between its turns -/
theorem im_rng3 {ta : TA} : IMono (iRng3 ta) (iRng3 (cTA ta)) := fun σ H R R' h q => ⟨_, q, fun v H' r => by
  obtain ⟨i, j, c, n, e, h1, r⟩ := r
  exact ⟨i, j, c, n, e, h1, h _ _ r⟩⟩
/-- acc: what the new list holds so far; the turn may change the heap, the new list aside -/
def LcWT (D : Addr) (acc : List V) (P : List V → Hp → Prop) (y : V) (H4 : Hp) : Prop := H4 D = some (.lst acc) ∧ P (acc ++ [y]) (upd H4 D (.lst (acc ++ [y])))
def LcWS (D : Addr) (acc : List V) (P : List V → Hp → Prop) (H4 : Hp) : Prop := H4 D = some (.lst acc) ∧ P acc H4
@[irreducible] def LcWP (J : It) (g : TG) (tt : TT) (te : TE) (vs : List Nat) (σ : L2.St) (Q : VK) (H1 : Hp) : Prop := ∃ (n : Nat) (G : Hp → Prop) (Y : Nat → Hp → V → Hp → Prop), Walk J n G Y ∧ n ≤ 100000 ∧ ∀ D, H1 D = none → ∃ Pv : Nat → List V → Hp → Prop, Pv 0 [] (upd H1 D (.lst [])) ∧
  (∀ i acc H', i ≤ n → acc.length ≤ i → H' D = some (.lst acc) → Pv i acc H' → G H') ∧
  (∀ i acc x H' H'', i < n → acc.length ≤ i → H' D = some (.lst acc) → Pv i acc H' → Y i H' x H'' → g x (wipe σ vs) H'' fun σ2 H2 => wipe σ2 vs = wipe σ vs ∧ tt σ2 H2 fun b H3 => Br b (te σ2 H3 fun y H4 => LcWT D acc (Pv (i + 1)) y H4) (LcWS D acc (Pv (i + 1)) H3)) ∧
  ∀ acc H', acc.length ≤ n → H' D = some (.lst acc) → Pv n acc H' → Q (.ref D) H'
@[irreducible] def mLcW (wi : TI) (g : TG) (tt : TT) (te : TE) (vs : List Nat) : TE := fun σ H Q => wi σ H fun J H1 => LcWP J g tt te vs σ Q H1
theorem lcW_of {g : TG} {tt : TT} {te : TE} {wi wi' : TI} {vs : List Nat} {σ : L2.St} {H : Hp} {Q : VK} (hw : IMono wi' wi) (q : mLcW wi' g tt te vs σ H Q) : tLc wi (cTG g) (cTT tt) (cTE te) vs σ H Q := by
  unfold mLcW at q
  refine hw _ _ _ _ (fun J H1 r => ?_) q
  unfold LcWP at r
  obtain ⟨n, G, Y, w, hn, r⟩ := r
  intro D hD
  obtain ⟨Pv, h0, hG, ht, hq⟩ := r D hD
  refine lc_it w (fun i H' => ∃ acc : List V, acc.length ≤ i ∧ H' D = some (.lst acc) ∧ Pv i acc H') ⟨[], Nat.le_refl _, upd_same, h0⟩ (fun i H' hi p => ?_) (fun i x H' H'' hi p y => ?_) fun H' p => ?_
  · obtain ⟨acc, h1, h2, h3⟩ := p
    exact hG i acc H' hi h1 h2 h3
  · obtain ⟨acc, h1, h2, h3⟩ := p
    refine ⟨_, ht i acc x H' H'' hi h1 h2 h3 y, fun σ2 H2 r => ⟨r.1, _, r.2, fun b H3 r => ?_⟩⟩
    cases b with
    | true =>
      refine iteT ⟨_, (r.un : if true = true then _ else _), fun y2 H4 z => ⟨acc, z.1, szl (by omega), acc ++ [y2], ?_, upd_same, z.2⟩⟩
      rw [List.length_append, List.length_singleton]
      omega
    | false => exact iteF (by
        have z : LcWS D acc (Pv (i + 1)) H3 := (r.un : if false = true then _ else _)
        exact ⟨acc, by omega, z.1, z.2⟩)
  · obtain ⟨acc, h1, h2, h3⟩ := p
    exact hq acc H' h1 h2 h3
section
variable {X : Cx} {e tg : Expr} {ifs : List Expr} {g : TG} {tt : TT} {te : TE}
theorem pe_lcW {iter elt : Expr} {scope : Scope} {own : List (Str × Nat)} {pos : Pos} {wi wi' : TI} (vs : List Nat) (hw : IMono wi' wi) (hc : X.calm = true) (hN : X.N.Nodup) (hi : PI X tg iter wi) (ok : BlkOk X.N X.env.scope scope own)
    (hg : ∀ (s : Shared) (H : Hp) (C : Addr) (cl : List (Str × Addr)) (fp : List Addr), PG (X.blk s H scope (compEnvC scope cl C X.env) fp) tg g) (ht : ∀ (s : Shared) (H : Hp) (C : Addr) (cl : List (Str × Addr)) (fp : List Addr), PTs (X.blk s H scope (compEnvC scope cl C X.env) fp) ifs tt)
    (he : ∀ (s : Shared) (H : Hp) (C : Addr) (cl : List (Str × Addr)) (fp : List Addr), PE (X.blk s H scope (compEnvC scope cl C X.env) fp) elt te) (hvs : own.map (·.2) = vs := by rfl) (hs : ∀ x, foldedSetIterable iter X.env x = pure x := by intro _; rfl) :
    PE X (.ListComp elt [⟨tg, iter, ifs, 0⟩] scope pos) (mLcW wi' g tt te vs) :=
  pe_weak (pe_lc hc hN hi ok (fun s H C cl fp => pg_c (hg s H C cl fp)) (fun s H C cl fp => pts_c (ht s H C cl fp)) (fun s H C cl fp => pe_c (he s H C cl fp)) hs) fun _ _ _ q => by
    rw [hvs]
    exact lcW_of hw q
theorem ps_setLcW {i : Nat} {y : Str} {py : Pos} {iter elt : Expr} {scope : Scope} {own : List (Str × Nat)} {pos spos : Pos} {wi wi' : TI} (vs : List Nat) (hw : IMono wi' wi) (hc : X.calm = true) (hN : X.N.Nodup) (hy : X.N[i]? = some y) (hyl : X.env.scope.names.lookup y = some .local)
    (hsw : swapsWith (.ListComp elt [⟨tg, iter, ifs, 0⟩] scope pos) (some (.Name y py)) spos.line X.env = pure true) (hi : PI X tg iter wi) (ok : BlkOk X.N X.env.scope scope own)
    (hg : ∀ (s : Shared) (H : Hp) (C : Addr) (cl : List (Str × Addr)) (fp : List Addr), PG (X.blk s H scope (compEnvC scope cl C X.env) fp) tg g) (ht : ∀ (s : Shared) (H : Hp) (C : Addr) (cl : List (Str × Addr)) (fp : List Addr), PTs (X.blk s H scope (compEnvC scope cl C X.env) fp) ifs tt)
    (he : ∀ (s : Shared) (H : Hp) (C : Addr) (cl : List (Str × Addr)) (fp : List Addr), PE (X.blk s H scope (compEnvC scope cl C X.env) fp) elt te) (hvs : own.map (·.2) = vs := by rfl) (hs : ∀ x, foldedSetIterable iter X.env x = pure x := by intro _; rfl) :
    PS X (.Assign [.Name y py] (.ListComp elt [⟨tg, iter, ifs, 0⟩] scope pos) spos) (tAsg (mLcW wi' g tt te vs) (gName i)) :=
  ps_weak (ps_setLc hc hN hy hyl hsw hi ok (fun s H C cl fp => pg_c (hg s H C cl fp)) (fun s H C cl fp => pts_c (ht s H C cl fp)) (fun s H C cl fp => pe_c (he s H C cl fp)) hs) fun _ _ _ q => by
    rw [hvs]
    exact lcW_of hw q
end
/-! ### its walks: a list, a range -/
theorem rd_lcW {wi : TI} {g : TG} {tt : TT} {te : TE} {vs : List Nat} {σ : L2.St} {H : Hp} {Q : VK} (h : wi σ H fun J H1 => LcWP J g tt te vs σ Q H1) : mLcW wi g tt te vs σ H Q := by
  unfold mLcW
  exact h
section
variable {K : PySem.W.Frag} {g : TG} {tt : TT} {te : TE} {vs : List Nat} {σ : L2.St} {H1 : Hp} {Q : VK}
theorem wl_list {a : Addr} (xs : List V) (hn : xs.length ≤ 100000) (r : ∀ D, H1 D = none → ∃ Pv : Nat → List V → Hp → Prop, Pv 0 [] (upd H1 D (.lst [])) ∧
    (∀ i acc H', i ≤ xs.length → acc.length ≤ i → H' D = some (.lst acc) → Pv i acc H' → SqL K H' a xs) ∧
    (∀ i acc x H', xs[i]? = some x → acc.length ≤ i → H' D = some (.lst acc) → Pv i acc H' → g x (wipe σ vs) H' fun σ2 H2 => wipe σ2 vs = wipe σ vs ∧ tt σ2 H2 fun b H3 => Br b (te σ2 H3 fun y H4 => LcWT D acc (Pv (i + 1)) y H4) (LcWS D acc (Pv (i + 1)) H3)) ∧
    ∀ acc H', acc.length ≤ xs.length → H' D = some (.lst acc) → Pv xs.length acc H' → Q (.ref D) H') :
    LcWP (Itl K a) g tt te vs σ Q H1 := by
  unfold LcWP
  refine ⟨xs.length, _, _, walk_list (K := K) (a := a) (xs := xs), hn, fun D hD => ?_⟩
  obtain ⟨Pv, h0, hG, ht, hq⟩ := r D hD
  refine ⟨Pv, h0, hG, fun i acc x H' H'' hi h1 h2 h3 y => ?_, hq⟩
  obtain ⟨rfl, hx2⟩ := y
  exact ht i acc x _ hx2 h1 h2 h3
/-- for x in range(lo, ..), n turns -/
theorem wl_rng {lo : Int} {n : Nat} (hn : n ≤ 100000) (r : ∀ D, H1 D = none → ∃ Pv : Nat → List V → Hp → Prop, Pv 0 [] (upd H1 D (.lst [])) ∧
    (∀ (i : Nat) acc H', i < n → acc.length ≤ i → H' D = some (.lst acc) → Pv i acc H' → g (.int (lo + (i : Nat))) (wipe σ vs) H' fun σ2 H2 => wipe σ2 vs = wipe σ vs ∧ tt σ2 H2 fun b H3 => Br b (te σ2 H3 fun y H4 => LcWT D acc (Pv (i + 1)) y H4) (LcWS D acc (Pv (i + 1)) H3)) ∧
    ∀ acc H', acc.length ≤ n → H' D = some (.lst acc) → Pv n acc H' → Q (.ref D) H') :
    LcWP (Itr lo n) g tt te vs σ Q H1 := by
  unfold LcWP
  refine ⟨n, _, _, walk_range (lo := lo) (n := n), hn, fun D hD => ?_⟩
  obtain ⟨Pv, h0, ht, hq⟩ := r D hD
  refine ⟨Pv, h0, fun _ _ _ _ _ _ _ => trivial, fun i acc x H' H'' hi h1 h2 h3 y => ?_, hq⟩
  obtain ⟨rfl, rfl⟩ := y
  exact ht i acc _ hi h1 h2 h3
end
/-! ### lists of lists of whole numbers -/
inductive LLs (H : Hp) : List Addr → List (List Int) → Prop
  | nil : LLs H [] []
  | cons {p : Addr} {ps : List Addr} {x : List Int} {r : List (List Int)} (h : H p = some (.lst (x.map V.int))) (t : LLs H ps r) : LLs H (p :: ps) (x :: r)
section
variable {H H' : Hp} {ps : List Addr} {xss : List (List Int)} {p : Addr} {x : List Int}
theorem LLs.mono (h : LLs H ps xss) (s : Same H H') : LLs H' ps xss := by
  induction h with
  | nil => exact .nil
  | cons h _ ih => exact .cons (s _ _ h) ih
/-- where only the addresses told stay as they were -/
theorem LLs.stay (h : LLs H ps xss) (s : ∀ p ∈ ps, H' p = H p) : LLs H' ps xss := by
  induction h with
  | nil => exact .nil
  | cons h _ ih => exact .cons ((s _ List.mem_cons_self).trans h) (ih fun p hp => s p (List.mem_cons_of_mem _ hp))
theorem LLs.snoc (h : LLs H ps xss) (e : H p = some (.lst (x.map V.int))) : LLs H (ps ++ [p]) (xss ++ [x]) := by
  induction h with
  | nil => exact .cons e .nil
  | cons h _ ih => exact .cons h ih
theorem LLs.len (h : LLs H ps xss) : ps.length = xss.length := by
  induction h with
  | nil => rfl
  | cons _ _ ih => rw [List.length_cons, List.length_cons, ih]
theorem LLs.at (h : LLs H ps xss) {i : Nat} (hp : ps[i]? = some p) : ∃ x, xss[i]? = some x ∧ H p = some (.lst (x.map V.int)) := by
  induction h generalizing i with
  | nil => cases hp
  | cons h _ ih =>
    cases i with
    | zero => exact ⟨_, rfl, (Option.some.inj hp) ▸ h⟩
    | succ i => exact ih hp
theorem LLs.mem (h : LLs H ps xss) (hp : p ∈ ps) : ∃ x ∈ xss, H p = some (.lst (x.map V.int)) := by
  obtain ⟨i, hi⟩ := List.getElem?_of_mem hp
  obtain ⟨x, h1, h2⟩ := h.at hi
  exact ⟨x, List.mem_of_getElem? h1, h2⟩
theorem LLs.take (h : LLs H ps xss) (n : Nat) : LLs H (ps.take n) (xss.take n) := by
  induction h generalizing n with
  | nil => rw [List.take_nil, List.take_nil]; exact .nil
  | cons h _ ih =>
    cases n with
    | zero => exact .nil
    | succ n => exact .cons h (ih n)
theorem LLs.drop (h : LLs H ps xss) (n : Nat) : LLs H (ps.drop n) (xss.drop n) := by
  induction h generalizing n with
  | nil => rw [List.drop_nil, List.drop_nil]; exact .nil
  | cons h t ih =>
    cases n with
    | zero => exact .cons h t
    | succ n => exact ih n
theorem LLs.app {qs : List Addr} {yss : List (List Int)} (h : LLs H ps xss) (k : LLs H qs yss) : LLs H (ps ++ qs) (xss ++ yss) := by
  induction h with
  | nil => exact k
  | cons h _ ih => exact .cons h ih
theorem LLs.dps {K : PySem.W.Frag} (h : LLs H ps xss) : DpAll K H (ps.map V.ref) (xss.map fun l => PyData.list (l.map PyData.int)) := by
  induction h with
  | nil => exact .nil
  | cons h _ ih => exact .cons (dp_ints (sq_of h)) ih
theorem dp_lls {K : PySem.W.Frag} {a : Addr} (ha : SqL K H a (ps.map V.ref)) (h : LLs H ps xss) : Dp K H (.ref a) (.list (xss.map fun l => PyData.list (l.map PyData.int))) := .lst ha h.dps
end
def llD (xss : List (List Int)) : PyData := .list (xss.map fun l => PyData.list (l.map PyData.int))
theorem sh_lls {n : Nat} (xss : List (List Int)) : Sh (n + 2) (llD xss) := sh_lst (sh_map (fun l => sh_lst (sh_ints l)) xss)
theorem eqvLL : ∀ xss yss : List (List Int), PyData.eqvAll (xss.map fun l => PyData.list (l.map PyData.int)) (yss.map fun l => PyData.list (l.map PyData.int)) = decide (xss = yss)
  | [], [] => rfl
  | [], _ :: _ => rfl
  | _ :: _, [] => rfl
  | x :: xs, y :: ys => by
    show ((PyData.eqv (.list (x.map PyData.int)) (.list (y.map PyData.int))) && PyData.eqvAll (xs.map fun l => PyData.list (l.map PyData.int)) (ys.map fun l => PyData.list (l.map PyData.int))) = _
    rw [eqvLL xs ys]
    have e : PyData.eqv (.list (x.map PyData.int)) (.list (y.map PyData.int)) = decide (x = y) := eqvAll_ints x y
    rw [e]
    by_cases h1 : x = y
    · by_cases h2 : xs = ys
      · rw [decide_eq_true h1, decide_eq_true h2, h1, h2]
        exact (decide_eq_true rfl).symm
      · rw [decide_eq_false h2, Bool.and_false]
        exact (decide_eq_false fun z => h2 (List.cons.inj z).2).symm
    · rw [decide_eq_false h1, Bool.false_and]
      exact (decide_eq_false fun z => h1 (List.cons.inj z).1).symm
theorem eqv_llD (xss yss : List (List Int)) : PyData.eqv (llD xss) (llD yss) = decide (xss = yss) := eqvLL xss yss
section
variable {K : PySem.W.Frag} {H : Hp} {Q : VK} {a b : Addr} {ps qs : List Addr} {xss yss : List (List Int)}
theorem rd_eqLL (h1 : SqL K H a (ps.map V.ref)) (l1 : LLs H ps xss) (h2 : SqL K H b (qs.map V.ref)) (l2 : LLs H qs yss) (h : Q (.bl (decide (xss = yss))) H) : mEqD K (.ref a) (.ref b) H Q :=
  rd_eqA (n := 2) (m := 2) (llD xss) (llD yss) (dp_lls h1 l1) (dp_lls h2 l2) (sh_lls _) (sh_lls _) (by rw [eqv_llD]; exact h)
theorem rd_neLL (h1 : SqL K H a (ps.map V.ref)) (l1 : LLs H ps xss) (h2 : SqL K H b (qs.map V.ref)) (l2 : LLs H qs yss) (h : Q (.bl (!decide (xss = yss))) H) : mNeD K (.ref a) (.ref b) H Q :=
  rd_neA (n := 2) (m := 2) (llD xss) (llD yss) (dp_lls h1 l1) (dp_lls h2 l2) (sh_lls _) (sh_lls _) (by rw [eqv_llD]; exact h)
end
/-! ### [list(x) for x in xs], each a copy of its own -/
/-- the new list at D, the copies at qs -/
structure Cpy (H1 : Hp) (D : Addr) (qs : List Addr) (xss : List (List Int)) (H' : Hp) : Prop where
  sm : Same H1 H'
  at' : H' D = some (.lst (qs.map V.ref))
  ls : LLs H' qs xss
  fr : ∀ q ∈ qs, H1 q = none ∧ q ≠ D
  nd : qs.Nodup
theorem Cpy.next {H1 H' H'' : Hp} {D p : Addr} {qs : List Addr} {xss : List (List Int)} {x : List Int} (w : Cpy H1 D qs xss H') (hD : H1 D = none) (np : H' p = none) (s : Same H' H'') (e : H'' p = some (.lst (x.map V.int))) :
    Cpy H1 D (qs ++ [p]) (xss ++ [x]) (upd H'' D (.lst (qs.map V.ref ++ [.ref p]))) := by
  have hpD : p ≠ D := fun z => by
    rw [z, w.at'] at np
    cases np
  have hin : ∀ q ∈ qs, q ≠ p := fun q hq z => by
    obtain ⟨y, _, hy⟩ := w.ls.mem hq
    rw [z, np] at hy
    cases hy
  refine ⟨same_mut (w.sm.trans s) hD, ?_, ?_, fun q hq => ?_, ?_⟩
  · rw [upd_same, List.map_append]
    rfl
  · refine LLs.snoc ((w.ls.mono s).stay fun q hq => upd_ne (w.fr q hq).2) ?_
    rw [upd_ne hpD]
    exact e
  · rcases List.mem_append.mp hq with h | h
    · exact w.fr q h
    · rw [List.mem_singleton.mp h]
      exact ⟨same_none w.sm np, hpD⟩
  · refine List.nodup_append.mpr ⟨w.nd, List.nodup_cons.mpr ⟨fun h => (nomatch h), List.nodup_nil⟩, fun q hq r hr => ?_⟩
    rw [List.mem_singleton.mp hr]
    exact hin q hq
def cpOf (te : TE) (σ : L2.St) (H : Hp) (x : List Int) : Prop := ∀ (H' : Hp) (R : VK), Same H H' → NewO (.lst (x.map V.int)) H' R → te σ H' R
theorem wl_copy {K : PySem.W.Frag} {j : Nat} {te : TE} {σ : L2.St} {H1 : Hp} {Q : VK} {a : Addr} (xs : List V) (xss : List (List Int)) (hx : SqL K H1 a xs) (hl : xs.length = xss.length) (hn : xs.length ≤ 100000)
    (ht : ∀ (i : Nat) (y : V) (x : List Int), xs[i]? = some y → xss[i]? = some x → cpOf te ((wipe σ [j]).set j (some y)) H1 x) (hq : ∀ D qs H', H1 D = none → Cpy H1 D qs xss H' → Q (.ref D) H') :
    LcWP (Itl K a) (gName j) tYes te [j] σ Q H1 := by
  refine wl_list xs hn fun D hD => ⟨fun i acc H' => ∃ qs, acc = qs.map V.ref ∧ Cpy H1 D qs (xss.take i) H', ⟨[], rfl, same_upd hD, upd_same, .nil, fun q hq => (nomatch hq), List.nodup_nil⟩, fun i acc H' _ _ _ p => ?_, fun i acc y H' hi ha h2 p => ?_, fun acc H' ha h2 p => ?_⟩
  · obtain ⟨qs, rfl, p⟩ := p
    exact p.sm.seq hx
  · obtain ⟨qs, rfl, p⟩ := p
    have hi2 : i < xss.length := by
      have := (List.getElem?_eq_some_iff.mp hi).1
      omega
    have hi3 : xss[i]? = some xss[i] := List.getElem?_eq_getElem hi2
    show _ ∧ _
    refine ⟨wipe_set rfl, ?_⟩
    show Br true _ _
    refine br_T (ht i y _ hi hi3 H' _ p.sm fun q H'' nq s eq => ?_)
    refine ⟨s _ _ h2, qs ++ [q], by rw [List.map_append]; rfl, ?_⟩
    rw [take_snoc hi3]
    exact p.next hD nq s eq
  · obtain ⟨qs, rfl, p⟩ := p
    rw [hl, List.take_length] at p
    exact hq D qs H' hD p
/-! ### xs[lo:hi] = ys, the bounds left out or whole numbers -/
section
open PySem.Spec PyProof.Rows
theorem spl_arr (u v : List Value) (a c : Nat) : u.toArray.extract 0 a ++ v.toArray ++ u.toArray.extract c u.toArray.size = (u.take a ++ v ++ u.drop c).toArray := by
  apply Array.toList_inj.mp
  simp [List.take_of_length_le]
theorem setSl_at {prog : Program} {w : World} {A : Around} {E : Value → Shared → Prop} {s : Shared} {l b g : Addr} {us vs : Array Value} {n n2 : Nat} {v1 v2 : Value} {lo hi : Option Int} {Q : Unit → Shared → Prop}
    (hus : s.heap.get? l = some { cls := .type "list", data := .seq us n }) (hvs : s.heap.get? b = some { cls := .type "list", data := .seq vs n2 }) (hlb : l ≠ b)
    (hg : s.heap.IsSliceOf g v1 v2 .none) (p1 : IsPart v1 lo) (p2 : IsPart v2 hi) (hz : us.size + vs.size ≤ sizeLine)
    (k : Q () { s with heap := s.heap.update l (Obj.mapSeq fun xs => xs.extract 0 (PySem.W.kms_lo lo us.size) ++ vs ++ xs.extract (max (PySem.W.kms_lo lo us.size) (PySem.W.kms_hi hi us.size)) xs.size) }) :
    wpAny (model prog w) A (setItem (.ref l) (.ref g) (.ref b)) Q E s := by
  have tl : s.heap.IsList l us := PySem.IsL.isList hus
  have tb : s.heap.IsList b vs := PySem.IsL.isList hvs
  obtain ⟨og, hog, hgc, hgd⟩ := id hg
  have tg : s.TypeIs (.ref g) "slice" := ⟨og, hog, hgc⟩
  have hne : Builtin.List.listSameRef (.ref l) (.ref b) = false := by
    unfold Builtin.List.listSameRef
    exact beq_eq_false_iff_ne.mpr hlb
  have mx : ∀ a c : Nat, (max (a : Int) (c : Int)).toNat = max a c := fun a c => by omega
  generalize ha : PySem.W.kms_lo lo us.size = a at k
  generalize hc : PySem.W.kms_hi hi us.size = c at k
  have hb : sliceBounds lo hi none us.size = ((a : Int), (c : Int), 1) := by
    rw [← ha, ← hc]
    exact PySem.W.kms_bounds lo hi us.size
  have ham : a ≤ us.size := by
    rw [← ha]
    unfold PySem.W.kms_lo
    cases lo with
    | none => exact Nat.zero_le _
    | some x =>
      show (if x < 0 then us.size - (-x).toNat else min x.toNat us.size) ≤ us.size
      split <;> omega
  have hz2 : ((fun xs : Array Value => xs.extract 0 a ++ vs ++ xs.extract (max a c) xs.size) us).size ≤ sizeLine + 1 := by
    show (us.extract 0 a ++ vs ++ us.extract (max a c) us.size).size ≤ _
    rw [Array.size_append, Array.size_append, Array.size_extract, Array.size_extract]
    omega
  unfold setItem
  (try with_reducible refine wpAny_holding ?_)
  refine wpAny_bind (wpAny_sequenceKey tl.typeIs (by decide) ?_)
  refine wpAny_bind (wpAny_callSpecial?_slot (name := Str.ofString "__setitem__") tl.typeIs slot_list_setitem (wpAny_call_entry slot_list_setitem tl.typeIs entry_list_setitem ?_ (args_list_setitem _ _ _)))
  show wpAny _ _ (Builtin.List.listSubscript? (.ref g) >>= _) _ _ s
  refine wpAny_bind ?_
  unfold Builtin.List.listSubscript?
  refine wpAny_bind (wpAny_specialOf tg slice_no_index ?_)
  rw [if_pos (show (none : Option Value).isNone = true from rfl)]
  refine wpAny_pure ?_
  show wpAny _ _ (typeOf (.ref g) >>= _) _ _ s
  refine wpAny_bind (wpAny_typeOf tg ?_)
  rw [if_neg (by decide), listSliceParts_eq]
  refine wpAny_bind (wpAny_bind (wpAny_field hog hgd (x := .none) rfl (wpAny_bind (wpAny_listPart .none ?_))))
  rw [if_neg (show ¬ (rawPart none == rawInt 0) = true from Bool.false_ne_true)]
  refine wpAny_bind (wpAny_field hog hgd (x := v1) rfl (wpAny_bind (wpAny_listPart p1 ?_)))
  refine wpAny_bind (wpAny_field hog hgd (x := v2) rfl (wpAny_bind (wpAny_listPart p2 (wpAny_pure ?_))))
  refine PySem.W.KFB.if_not hne ?_
  refine wpAny_bind (m := Builtin.List.listAllItems (.ref b) "must assign iterable to extended slice") ?_
  unfold Builtin.List.listAllItems
  refine wpAny_bind (wpAny_typeOf tb.typeIs ?_)
  refine PySem.W.KFB.if_so (by decide) ?_
  unfold Builtin.List.listItems
  refine wpAny_bind (wpAny_seqItems hvs rfl (wpAny_pure ?_))
  refine wpAny_bind (wpAny_bind (wpAny_seqItems hus rfl (wpAny_pure ?_)))
  refine wpAny_bind (wpAny_of_eq ((sliceIndices_raw lo hi none us.size (by simp)).trans (congrArg (pure : Int × Int × Int → Sem (Int × Int × Int)) hb)) ?_)
  show wpAny _ _ (if ((1 : Int) == 1) = true then _ else _) _ _ s
  rw [if_pos (by decide)]
  refine wpAny_bind (wpAny_rule ?_)
  refine PySem.W.KFB.if_not (notLongL hz) ?_
  try refine wpAny_bind (wpAny_pure ?_)
  show wpAny _ _ (updateSeq l (fun xs => xs.extract 0 ((a : Int)).toNat ++ vs ++ xs.extract (max (a : Int) (c : Int)).toNat xs.size) >>= _) _ _ s
  rw [mx, Int.toNat_natCast]
  refine wpAny_bind (wpAny_updateSeq (hz := Nat.le_trans (Nat.le_add_right _ _) hz) (_hz' := hz2) hus rfl ?_)
  refine wpAny_bind (wpAny_letGo ?_)
  first
    | exact wpAny_pure ⟨.none, rfl, wpAny_pure k⟩
    | exact wpAny_bind (wpAny_pure (wpAny_pure ⟨.none, rfl, wpAny_pure k⟩))
/-- what becomes of a list -/
def splV (xs ys : List V) (lo hi : Option Int) : List V := xs.take (PySem.W.kms_lo lo xs.length) ++ ys ++ xs.drop (max (PySem.W.kms_lo lo xs.length) (PySem.W.kms_hi hi xs.length))
@[irreducible] def mSetSl (o : V) (lo hi : Option Int) (v : V) (H : Hp) (Q : Hp → Prop) : Prop := ∃ l b xs ys, o = .ref l ∧ v = .ref b ∧ H l = some (.lst xs) ∧ H b = some (.lst ys) ∧ l ≠ b ∧ xs.length + ys.length ≤ 1000000 ∧ Q (upd H l (.lst (splV xs ys lo hi)))
theorem rd_setSl {l b : Addr} {xs ys : List V} {lo hi : Option Int} {H : Hp} {Q : Hp → Prop} (h1 : H l = some (.lst xs)) (h2 : H b = some (.lst ys)) (h3 : l ≠ b) (hz : xs.length + ys.length ≤ 1000000) (q : Q (upd H l (.lst (splV xs ys lo hi)))) : mSetSl (.ref l) lo hi (.ref b) H Q := by
  unfold mSetSl
  exact ⟨l, b, xs, ys, rfl, rfl, h1, h2, h3, hz, q⟩
def gSl (to : TE) (tl th : TO) : TG := fun v σ H Q => to σ H fun o H1 => tl σ H1 fun lo H2 => th σ H2 fun hi H3 => mSetSl o lo hi v H3 fun H4 => Q σ H4
theorem pg_sl {X : Cx} {o : Expr} {lo hi : Option Expr} {to : TE} {tl th : TO} {pos p2 : Pos} (ho : PE X o to) (hl : PO X lo tl) (hu : PO X hi th)
    (ha : ∀ v, assign (.Subscript o (.Slice lo hi none p2) pos) X.env v = (do
      let a ← holding [v] (eval o X.env)
      let b ← holding [v, a] (eval (.Slice lo hi none p2) X.env)
      standAt pos
      holding [v, a, b] (setItem a b v)
      release [b, v, a] []) := by intro _; rfl) : PG X (.Subscript o (.Slice lo hi none p2) pos) (gSl to tl th) := by
  refine ⟨fun pins s σ H v u Q I r h => ?_⟩
  rw [ha]
  refine wpAny_bind (wpAny_holding (thn (ho.run pins s σ H _ I h) fun ov s1 ⟨x, H1, I1, r1, q1⟩ => ?_))
  refine wpAny_bind (wpAny_holding (wpAny_Slice (thn (hl.run pins s1 σ H1 _ I1 q1) fun vl s2 ⟨lo', H2, I2, pl, q2⟩ => thn (hu.run pins s2 σ H2 _ I2 q2) fun vu s3 ⟨hi', H3, I3, pu, q3⟩ => ?_)))
  rw [evalPart_none]
  refine wpAny_pure ?_
  unfold mSetSl at q3
  obtain ⟨l, b, xs, ys, rfl, rfl, h1, h2, h3, hz, q⟩ := q3
  have I4 : Inv X pins σ H3 { s3 with heap := s3.heap.push { cls := .type "slice", data := .fields #[vl, vu, .none] } } := I3.kept (t' := s3.toks) fun b ob q => Heap.get?_push_of_some _ q
  cases r1
  cases r
  obtain ⟨z, its, n, rv, hl1, e1⟩ := I4.lstM h1
  obtain ⟨z2, its2, n2, rv2, hl2, e2⟩ := I4.lstM h2
  have hn1 : its.toArray.size = xs.length := by rw [List.size_toArray]; exact rv.length.symm
  have hn2 : its2.toArray.size = ys.length := by rw [List.size_toArray]; exact rv2.length.symm
  refine wpAny_bind (wpAny_standAt (wpAny_bind (wpAny_holding ?_)))
  refine setSl_at e1 e2 h3 (Heap.IsSliceOf.new ..) pl pu (by rw [hn1, hn2]; exact sz hz) ?_
  rw [hn1]
  refine wpAny_release ⟨σ, _, I4.lset (its' := its.take (PySem.W.kms_lo lo' xs.length) ++ its2 ++ its.drop (max (PySem.W.kms_lo lo' xs.length) (PySem.W.kms_hi hi' xs.length))) (t' := s3.toks) h1 e1 ?_ (Vals.append (Vals.append (rv.take _) rv2) (rv.drop _)) ?_, q⟩
  · exact spl_arr its its2 _ _
  · have e3 := List.length_take_le (PySem.W.kms_lo lo' xs.length) xs
    refine sz ?_
    rw [List.length_append, List.length_append, List.length_take, List.length_drop]
    omega
end
theorem splV_all (xs ys : List V) : splV xs ys none none = ys := by
  show xs.take 0 ++ ys ++ xs.drop (max 0 xs.length) = ys
  rw [Nat.zero_max, List.drop_length, List.take_zero, List.append_nil, List.nil_append]
theorem splV_to (xs ys : List V) {k : Int} (h : 0 ≤ k) : splV xs ys none (some k) = ys ++ xs.drop k.toNat := by
  have e : PySem.W.kms_hi (some k) xs.length = min k.toNat xs.length := by
    show (if k < 0 then _ else _) = _
    rw [if_neg (by omega)]
  show xs.take 0 ++ ys ++ xs.drop (max 0 (PySem.W.kms_hi (some k) xs.length)) = _
  rw [e, Nat.zero_max, List.take_zero, List.nil_append]
  by_cases h2 : k.toNat ≤ xs.length
  · rw [Nat.min_eq_left h2]
  · rw [Nat.min_eq_right (by omega), List.drop_length, List.drop_of_length_le (by omega)]
/-- objects that came with the last step join what stays -/
theorem Own.adopt2 {S B0 B H : Hp} {as : List Addr} {l : List (Addr × HO)} (w : Own S B0 as B l H) (ps : List Addr) (hp : ∀ p ∈ ps, S p = none ∧ H p ≠ none ∧ p ∉ l.map Prod.fst) : ∃ B', Same B B' ∧ (∀ p ∈ ps, B' p = H p) ∧ Own S B0 as B' l H := by
  have sb : Same B (fun b => if b ∈ ps then H b else B b) := fun b o h => by
    show (if b ∈ ps then H b else B b) = some o
    split
    · exact w.c.imm _ _ h
    · exact h
  refine ⟨fun b => if b ∈ ps then H b else B b, sb, fun p h => if_pos h, ⟨w.c.cell, w.c.nd, fun b u h => ?_, fun a u h => ?_⟩, w.kept, w.own, w.grow.trans sb, fun b h k => ?_, w.there⟩
  · have h2 : (if b ∈ ps then H b else B b) = some u := h
    split at h2
    · exact h2
    · exact w.c.imm _ _ h2
  · show (if a ∈ ps then H a else B a) = none
    rw [if_neg (fun z => (hp a z).2.2 (mem_fst h))]
    exact w.c.dis a u h
  · by_cases hb : b ∈ ps
    · exact (hp b hb).1
    · have k2 : (if b ∈ ps then H b else B b) ≠ none := k
      rw [if_neg hb] at k2
      exact w.new b h k2
/-- a list of copies: it is a cell, the copies stay -/
theorem Own.cpy {S B0 B H H' : Hp} {as : List Addr} {l : List (Addr × HO)} {D : Addr} {qs : List Addr} {xss : List (List Int)} (w : Own S B0 as B l H) (hD : H D = none) (c : Cpy H D qs xss H') :
    ∃ B', Same B B' ∧ LLs B' qs xss ∧ Own S B0 as B' ((D, .lst (qs.map V.ref)) :: l) H' := by
  have w1 := w.add hD c.sm c.at'
  obtain ⟨B', s, e, w2⟩ := w1.adopt2 qs fun p hp => by
    refine ⟨(w.frS (c.fr p hp).1).1, ?_, fun h => ?_⟩
    · obtain ⟨x, _, hx⟩ := c.ls.mem hp
      rw [hx]
      exact fun z => (nomatch z)
    · rcases List.mem_cons.mp h with h | h
      · exact (c.fr p hp).2 h
      · obtain ⟨o, h⟩ := fst_mem h
        exact w.notin (c.fr p hp).1 h
  exact ⟨B', s, c.ls.stay e, w2⟩
/-- a list of copies, all of it stays -/
theorem Own.cpyR {S B0 B H H' : Hp} {as : List Addr} {l : List (Addr × HO)} {D : Addr} {qs : List Addr} {xss : List (List Int)} (w : Own S B0 as B l H) (hD : H D = none) (c : Cpy H D qs xss H') :
    ∃ B', Same B B' ∧ LLs B' qs xss ∧ B' D = some (.lst (qs.map V.ref)) ∧ Own S B0 as B' l H' := by
  obtain ⟨B', s, h, w2⟩ := w.cpy hD c
  obtain ⟨B2, s2, e2, w3⟩ := w2.ice (w.frS hD).1
  exact ⟨B2, s.trans s2, h.mono s2, e2, w3⟩
/-- [e for x in xs], each element a value, the heap grown at most -/
theorem wl_vals {K : PySem.W.Frag} {j : Nat} {te : TE} {σ : L2.St} {H1 : Hp} {Q : VK} {a : Addr} (xs : List V) (f : Nat → V) (hx : SqL K H1 a xs) (hn : xs.length ≤ 100000)
    (ht : ∀ (i : Nat) (y : V), xs[i]? = some y → ∀ (H' : Hp) (R : VK), Same H1 H' → (∀ H'', Same H' H'' → R (f i) H'') → te ((wipe σ [j]).set j (some y)) H' R) (hq : NewO (.lst ((List.range xs.length).map f)) H1 Q) :
    LcWP (Itl K a) (gName j) tYes te [j] σ Q H1 := by
  refine wl_list xs hn fun D hD => ⟨fun i acc H' => acc = (List.range i).map f ∧ Same H1 H', ⟨rfl, same_upd hD⟩, fun i acc H' _ _ _ p => p.2.seq hx, fun i acc y H' hi ha h2 p => ?_, fun acc H' ha h2 p => ?_⟩
  · obtain ⟨rfl, p⟩ := p
    show _ ∧ _
    refine ⟨wipe_set rfl, ?_⟩
    show Br true _ _
    refine br_T (ht i y hi H' _ p fun H'' s => ⟨s _ _ h2, ?_, same_mut (p.trans s) hD⟩)
    rw [List.range_succ, List.map_append]
    rfl
  · obtain ⟨rfl, p⟩ := p
    exact hq D H' hD p h2
section
variable {X : Cx} {K : PySem.W.Frag}
theorem call_listK (h : X.K = K) : CallR X (.type "list") (mListOf K) := h ▸ call_listM
theorem sl_listK (h : X.K = K) : SlR X (mSlL K) := h ▸ sl_listM
theorem call_tupOfK (h : X.K = K) : CallR X (.type "tuple") (mTupOf K) := h ▸ call_tupOfM
end
theorem snocI (ns : List Int) (n : Int) : ns.map V.int ++ [V.int n] = (ns ++ [n]).map V.int := by
  rw [List.map_append]
  rfl
theorem snocR (ns : List Addr) (n : Addr) : ns.map V.ref ++ [V.ref n] = (ns ++ [n]).map V.ref := by
  rw [List.map_append]
  rfl
/-- a name is set: the frame as it stands then -/
theorem frG {i : Nat} {v : V} {σ σ' : L2.St} {H : Hp} {D : L2.St → Hp → Prop} (e : σ.set i (some v) = σ') (h : D σ' H) : gName i v σ H D := by
  subst e
  exact h
/-! ### lists of new tuples -/
inductive TLs (H : Hp) : List Addr → List (List V) → Prop
  | nil : TLs H [] []
  | cons {p : Addr} {ps : List Addr} {x : List V} {r : List (List V)} (h : H p = some (.tup x)) (t : TLs H ps r) : TLs H (p :: ps) (x :: r)
section
variable {H H' : Hp} {ps : List Addr} {xs : List (List V)} {p : Addr} {x : List V}
theorem TLs.mono (h : TLs H ps xs) (s : Same H H') : TLs H' ps xs := by
  induction h with
  | nil => exact .nil
  | cons h _ ih => exact .cons (s _ _ h) ih
theorem TLs.stay (h : TLs H ps xs) (s : ∀ p ∈ ps, H' p = H p) : TLs H' ps xs := by
  induction h with
  | nil => exact .nil
  | cons h _ ih => exact .cons ((s _ List.mem_cons_self).trans h) (ih fun p hp => s p (List.mem_cons_of_mem _ hp))
theorem TLs.snoc (h : TLs H ps xs) (e : H p = some (.tup x)) : TLs H (ps ++ [p]) (xs ++ [x]) := by
  induction h with
  | nil => exact .cons e .nil
  | cons h _ ih => exact .cons h ih
theorem TLs.len (h : TLs H ps xs) : ps.length = xs.length := by
  induction h with
  | nil => rfl
  | cons _ _ ih => rw [List.length_cons, List.length_cons, ih]
theorem TLs.mem (h : TLs H ps xs) (hp : p ∈ ps) : ∃ x ∈ xs, H p = some (.tup x) := by
  induction h with
  | nil => cases hp
  | cons h _ ih =>
    rcases List.mem_cons.mp hp with e | z
    · rw [e]
      exact ⟨_, .head _, h⟩
    · obtain ⟨y, h1, h2⟩ := ih z
      exact ⟨y, .tail _ h1, h2⟩
theorem TLs.at (h : TLs H ps xs) {i : Nat} (hp : ps[i]? = some p) : ∃ x, xs[i]? = some x ∧ H p = some (.tup x) := by
  induction h generalizing i with
  | nil => cases hp
  | cons h _ ih =>
    cases i with
    | zero => exact ⟨_, rfl, (Option.some.inj hp) ▸ h⟩
    | succ i => exact ih hp
theorem TLs.app {qs : List Addr} {ys : List (List V)} (h : TLs H ps xs) (k : TLs H qs ys) : TLs H (ps ++ qs) (xs ++ ys) := by
  induction h with
  | nil => exact k
  | cons h _ ih => exact .cons h ih
end
structure NT (H1 : Hp) (D : Addr) (ps : List Addr) (xs : List (List V)) (H' : Hp) : Prop where
  sm : Same H1 H'
  at' : H' D = some (.lst (ps.map V.ref))
  ls : TLs H' ps xs
  fr : ∀ p ∈ ps, H1 p = none
theorem NT.start {H1 : Hp} {D : Addr} (hD : H1 D = none) : NT H1 D [] [] (upd H1 D (.lst [])) := ⟨same_upd hD, upd_same, .nil, fun p hp => (nomatch hp)⟩
theorem NT.next {H1 H' H2 : Hp} {D t : Addr} {ps : List Addr} {xs : List (List V)} {x : List V} (w : NT H1 D ps xs H') (hD : H1 D = none) (nt : H' t = none) (s : Same H' H2) (e : H2 t = some (.tup x)) :
    NT H1 D (ps ++ [t]) (xs ++ [x]) (upd H2 D (.lst (ps.map V.ref ++ [.ref t]))) := by
  have hD2 := s _ _ w.at'
  have htD : ∀ {q : Addr} {y : List V}, H2 q = some (.tup y) → q ≠ D := fun {q y} h z => by
    rw [z, hD2] at h
    cases h
  refine ⟨same_mut (w.sm.trans s) hD, ?_, ?_, fun y hy => ?_⟩
  · rw [upd_same, List.map_append]
    rfl
  · refine TLs.snoc ((w.ls.mono s).stay fun y hy => upd_ne ?_) ?_
    · obtain ⟨z, _, h⟩ := w.ls.mem hy
      exact htD (s _ _ h)
    · rw [upd_ne (htD e)]
      exact e
  · rcases List.mem_append.mp hy with h | h
    · exact w.fr y h
    · rw [List.mem_singleton.mp h]
      exact same_none w.sm nt
theorem NT.back {H0 H1 H' : Hp} {D : Addr} {ps : List Addr} {xs : List (List V)} (w : NT H1 D ps xs H') (s : Same H0 H1) : NT H0 D ps xs H' := ⟨s.trans w.sm, w.at', w.ls, fun p hp => same_none s (w.fr p hp)⟩
/-- all of a list of new tuples stays -/
theorem Own.nt {S B0 B H H' : Hp} {as : List Addr} {l : List (Addr × HO)} {D : Addr} {ps : List Addr} {xs : List (List V)} (w : Own S B0 as B l H) (hD : H D = none) (c : NT H D ps xs H') :
    ∃ B', Same B B' ∧ B' D = some (.lst (ps.map V.ref)) ∧ TLs B' ps xs ∧ Own S B0 as B' l H' := by
  obtain ⟨B', s, e, w2⟩ := (w.more c.sm).adopt2 (D :: ps) fun p hp => by
    have hn : H p = none ∧ H' p ≠ none := by
      rcases List.mem_cons.mp hp with h | h
      · rw [h]
        exact ⟨hD, by rw [c.at']; exact fun z => (nomatch z)⟩
      · obtain ⟨x, _, hx⟩ := c.ls.mem h
        exact ⟨c.fr p h, by rw [hx]; exact fun z => (nomatch z)⟩
    refine ⟨(w.frS hn.1).1, hn.2, fun h => ?_⟩
    obtain ⟨o, h⟩ := fst_mem h
    exact w.notin hn.1 h
  exact ⟨B', s, (e D (.head _)).trans c.at', c.ls.stay fun p hp => e p (.tail _ hp), w2⟩
/-- [(..) for x in xs]: the i-th tuple is f i -/
theorem wl_tups {K : PySem.W.Frag} {j : Nat} {te : TE} {σ : L2.St} {H1 : Hp} {Q : VK} {a : Addr} (xs : List V) (f : Nat → List V) (hx : SqL K H1 a xs) (hn : xs.length ≤ 100000)
    (ht : ∀ (i : Nat) (y : V), xs[i]? = some y → ∀ (H' : Hp) (R : VK), Same H1 H' → NewO (.tup (f i)) H' R → te ((wipe σ [j]).set j (some y)) H' R) (hq : ∀ D ps H', H1 D = none → NT H1 D ps ((List.range xs.length).map f) H' → Q (.ref D) H') :
    LcWP (Itl K a) (gName j) tYes te [j] σ Q H1 := by
  refine wl_list xs hn fun D hD => ⟨fun i acc H' => ∃ ps, acc = ps.map V.ref ∧ NT H1 D ps ((List.range i).map f) H', ⟨[], rfl, NT.start hD⟩, fun i acc H' _ _ _ p => ?_, fun i acc y H' hi ha h2 p => ?_, fun acc H' ha h2 p => ?_⟩
  · obtain ⟨ps, rfl, p⟩ := p
    exact p.sm.seq hx
  · obtain ⟨ps, rfl, p⟩ := p
    show _ ∧ _
    refine ⟨wipe_set rfl, ?_⟩
    show Br true _ _
    refine br_T (ht i y hi H' _ p.sm fun t H'' nt s e => ⟨s _ _ h2, ps ++ [t], by rw [List.map_append]; rfl, ?_⟩)
    rw [List.range_succ, List.map_append]
    exact p.next hD nt s e
  · obtain ⟨ps, rfl, p⟩ := p
    exact hq D ps H' hD p
/-! ### a comprehension over a dict, which is locked meanwhile -/
@[irreducible] def mLcD (i : Nat) (g : TG) (tt : TT) (te : TE) (vs : List Nat) : TE := tLockE (mLcW (iKeys fun σ H Q => ∃ v, σ[i]? = some (some v) ∧ Q v H) g tt te vs)
theorem pe_lcD {X : Cx} {tg it elt : Expr} {ifs : List Expr} {scope : Scope} {own : List (Str × Nat)} {g : TG} {tt : TT} {te : TE} {i : Nat} {pos : Pos} (vs : List Nat) (hc : X.calm = true) (hN : X.N.Nodup) (ha : PE X it (fun σ H Q => ∃ v, σ[i]? = some (some v) ∧ Q v H)) (ok : BlkOk X.N X.env.scope scope own)
    (hg : ∀ (s : Shared) (H : Hp) (C : Addr) (cl : List (Str × Addr)) (fp : List Addr), PG (X.blk s H scope (compEnvC scope cl C X.env) fp) tg g) (ht : ∀ (s : Shared) (H : Hp) (C : Addr) (cl : List (Str × Addr)) (fp : List Addr), PTs (X.blk s H scope (compEnvC scope cl C X.env) fp) ifs tt)
    (he : ∀ (s : Shared) (H : Hp) (C : Addr) (cl : List (Str × Addr)) (fp : List Addr), PE (X.blk s H scope (compEnvC scope cl C X.env) fp) elt te) (hvs : own.map (·.2) = vs := by rfl) (hs : ∀ x, foldedSetIterable it X.env x = pure x := by intro _; rfl) :
    PE X (.ListComp elt [⟨tg, it, ifs, 0⟩] scope pos) (mLcD i g tt te vs) :=
  pe_weak (pe_lock (pe_lcW vs im_keys hc hN (pi_keys (pe_c ha)) ok hg ht he hvs hs)) fun σ H Q q => by
    unfold mLcD at q
    exact q
/-- what the turns see: the dict to be read, all else that was there -/
structure DSee (d : Addr) (kvs : List (Key × V)) (H H' : Hp) : Prop where
  rd : Rd H' d (.dK kvs)
  but : ∀ b o, b ≠ d → H b = some o → H' b = some o
theorem DSee.more {d : Addr} {kvs : List (Key × V)} {H H' H2 : Hp} (w : DSee d kvs H H') (s : Same H' H2) : DSee d kvs H H2 := ⟨by
  rcases w.rd with h | ⟨o, h⟩
  · exact .inl (s _ _ h)
  · exact .inr ⟨o, s _ _ h⟩, fun b o hb h => s _ _ (w.but b o hb h)⟩
theorem rd_lcDT {i j : Nat} {tt : TT} {te : TE} {σ : L2.St} {H : Hp} {Q : VK} (d : Addr) (kvs : List (Key × V)) (ns : List Int) (keep : Int → Bool) (f : Int → List V) (h1 : σ[i]? = some (some (.ref d))) (h2 : H d = some (.dK kvs)) (h3 : kvs.map Prod.fst = ns.map Sum.inl) (h4 : ns.length ≤ 100000)
    (ht : ∀ n, n ∈ ns → ∀ (H' : Hp) (R : Bool → Hp → Prop), DSee d kvs H H' → (∀ H'', Same H' H'' → R (keep n) H'') → tt ((wipe σ [j]).set j (some (.int n))) H' R)
    (he : ∀ n, n ∈ ns → keep n = true → ∀ (H' : Hp) (R : VK), DSee d kvs H H' → NewO (.tup (f n)) H' R → te ((wipe σ [j]).set j (some (.int n))) H' R)
    (hq : ∀ D ps H', H D = none → NT H D ps ((ns.filter keep).map f) H' → Q (.ref D) H') : mLcD i (gName j) tt te [j] σ H Q := by
  unfold mLcD
  have hkl : kvs.length = ns.length := by
    have e := congrArg List.length h3
    rw [List.length_map, List.length_map] at e
    exact e
  refine ⟨d, .dK kvs, h2, trivial, fun od => ?_⟩
  unfold mLcW
  refine ⟨.ref d, h1, d, od, rfl, .inl ⟨kvs, upd_same, ?_⟩⟩
  have nd : ∀ {p : Addr}, (upd H d (.frz od (.dK kvs))) p = none → p ≠ d := fun z e => by
    rw [e, upd_same] at z
    cases z
  have see : ∀ {H'}, Same (upd H d (.frz od (.dK kvs))) H' → DSee d kvs H H' := fun s => ⟨.inr ⟨od, s _ _ upd_same⟩, fun b o hb h => s _ _ (by rw [upd_ne hb]; exact h)⟩
  unfold LcWP
  refine ⟨kvs.length, _, _, walk_keys (d := d) (o := od) (kvs := kvs), by omega, fun D hD => ⟨fun k acc H' => ∃ ps, acc = ps.map V.ref ∧ NT (upd H d (.frz od (.dK kvs))) D ps (((ns.take k).filter keep).map f) H', ⟨[], rfl, NT.start hD⟩, fun k acc H' _ _ _ p => ?_, fun k acc y H' H'' hk ha h5 p w => ?_, fun acc H' ha h5 p => ?_⟩⟩
  · obtain ⟨ps, rfl, p⟩ := p
    exact p.sm _ _ upd_same
  · obtain ⟨ps, rfl, p⟩ := p
    obtain ⟨rfl, ky, vy, hkv, rfl⟩ := w
    have hk2 : k < ns.length := by omega
    have hn : ns[k]? = some ns[k] := List.getElem?_eq_getElem hk2
    have ek : ky = Sum.inl ns[k] := by
      have z : (kvs.map Prod.fst)[k]? = (ns.map (Sum.inl (β := Str)))[k]? := by rw [h3]
      rw [List.getElem?_map, List.getElem?_map, hkv, hn] at z
      exact Option.some.inj z
    subst ek
    have hin : ns[k] ∈ ns := List.getElem_mem hk2
    show _ ∧ _
    refine ⟨wipe_set rfl, ?_⟩
    refine ht _ hin _ _ (see p.sm) fun H2 s2 => ?_
    have st : ns.take (k + 1) = ns.take k ++ [ns[k]] := take_snoc hn
    cases hb : keep ns[k] with
    | true =>
      refine br_T (he _ hin hb H2 _ (see (p.sm.trans s2)) fun t H3 nt s3 e3 => ⟨s3 _ _ (s2 _ _ h5), ps ++ [t], by rw [List.map_append]; rfl, ?_⟩)
      have p2 : NT (upd H d (.frz od (.dK kvs))) D ps (((ns.take k).filter keep).map f) H2 := ⟨p.sm.trans s2, s2 _ _ p.at', p.ls.mono s2, p.fr⟩
      have e4 : ((ns.take (k + 1)).filter keep).map f = ((ns.take k).filter keep).map f ++ [f ns[k]] := by
        rw [st, List.filter_append, List.map_append, List.filter_cons, if_pos hb]
        rfl
      rw [e4]
      exact p2.next hD nt s3 e3
    | false =>
      refine br_F ⟨s2 _ _ h5, ps, rfl, ?_⟩
      have e4 : ((ns.take (k + 1)).filter keep).map f = ((ns.take k).filter keep).map f := by
        rw [st, List.filter_append, List.filter_cons, if_neg (by rw [hb]; decide), List.filter_nil, List.append_nil]
      rw [e4]
      exact ⟨p.sm.trans s2, s2 _ _ p.at', p.ls.mono s2, p.fr⟩
  · obtain ⟨ps, rfl, p⟩ := p
    rw [hkl, List.take_length] at p
    have hDd : D ≠ d := nd hD
    have hps : ∀ q ∈ ps, q ≠ d := fun q hq => nd (p.fr q hq)
    refine ⟨p.sm _ _ upd_same, hq D ps _ (by rw [upd_ne hDd] at hD; exact hD) ⟨fun b o hb => ?_, ?_, ?_, fun q hq => ?_⟩⟩
    · by_cases hbd : b = d
      · subst hbd
        rw [upd_same]
        rw [h2] at hb
        exact hb
      · rw [upd_ne hbd]
        exact p.sm _ _ (by rw [upd_ne hbd]; exact hb)
    · rw [upd_ne hDd]
      exact p.at'
    · exact p.ls.stay fun q hq => upd_ne (hps q hq)
    · have := p.fr q hq
      rw [upd_ne (hps q hq)] at this
      exact this
/-- dict(ps), ps a list of pairs -/
@[irreducible] def mDictP (K : PySem.W.Frag) : List V → Hp → VK → Prop := fun xs H Q => ∃ (a : Addr) (ps : List Addr) (kvs : List (Key × V)), xs = [.ref a] ∧ SqL K H a (ps.map V.ref) ∧ Paired (fun p kv => SqT K H p [kV kv.1, kv.2]) ps kvs ∧ NewO (.dK (mergeK [] kvs)) H Q
theorem call_dictPM {X : Cx} (hc : X.calm = true) : CallR X (.type "dict") (mDictP X.K) := fun pins s σ H xs us Q I r q => call_dictP hc pins s σ H xs us Q I r (by
  unfold mDictP at q
  obtain ⟨a, ps, kvs, e, h1, h2, h3⟩ := q
  exact ⟨a, ps, kvs, e, h1, h2, h3.go⟩)
theorem paired_tls {K : PySem.W.Frag} {H : Hp} : ∀ {ps : List Addr} {kvs : List (Key × V)}, TLs H ps (kvs.map fun kv => [kV kv.1, kv.2]) → Paired (fun p kv => SqT K H p [kV kv.1, kv.2]) ps kvs
  | _, [], h => by
    cases h
    exact .nil
  | _, kv :: r, h => by
    cases h with
    | cons h t => exact .cons (st_of h) (paired_tls t)
theorem putK_app : ∀ {kvs more : List (Key × V)} {k : Key} {v : V}, k ∉ kvs.map Prod.fst → putK kvs k v = kvs ++ [(k, v)] := fun {kvs more k v} h => putK_new _ (by
  induction kvs with
  | nil => rfl
  | cons x r ih =>
    rw [List.map_cons] at h
    rw [valV_neg (fun e => h (e ▸ .head _))]
    exact ih fun z => h (.tail _ z))
theorem mergeK_app : ∀ (kvs more : List (Key × V)), ((kvs ++ more).map Prod.fst).Nodup → mergeK kvs more = kvs ++ more
  | kvs, [], _ => by rw [List.append_nil]; rfl
  | kvs, (k, v) :: r, nd => by
    have h : k ∉ kvs.map Prod.fst := fun z => by
      rw [List.map_append] at nd
      exact (List.nodup_append.mp nd).2.2 k z k (.head _) rfl
    show mergeK (putK kvs k v) r = _
    rw [putK_app (more := []) h]
    have e : kvs ++ (k, v) :: r = (kvs ++ [(k, v)]) ++ r := by rw [List.append_assoc]; rfl
    rw [e] at nd ⊢
    exact mergeK_app _ r nd
theorem rd_dictP {K : PySem.W.Frag} {H : Hp} {Q : VK} {a : Addr} {ps : List Addr} {kvs : List (Key × V)} (h1 : SqL K H a (ps.map V.ref)) (h2 : TLs H ps (kvs.map fun kv => [kV kv.1, kv.2])) (nd : (kvs.map Prod.fst).Nodup) (q : NewO (.dK kvs) H Q) : mDictP K [.ref a] H Q := by
  unfold mDictP
  refine ⟨a, ps, kvs, rfl, h1, paired_tls h2, ?_⟩
  rw [mergeK_app [] kvs nd]
  exact q
/-! ### o.m(e, ..) that may raise, within a try -/
def mMethT (C : Addr) (m : Str) (sp : Sp) (E : L2.St → XK) (ta : TE) (t : TA) : TE := fun σ H Q => ta σ H fun x H1 => mIns C m x H1 (t σ H1 fun vs H2 => sp (x :: vs) H2 Q (E σ))
section
open PySem.Spec PyProof.Rows
variable {X : Cx} {CX : CXT} {k : Nat} {C g : Addr} {fd : FuncData} {ps : List Str} {sp : Sp} {E : L2.St → XK} {m : Str} {e o : Expr} {es : List Expr} {ta : TE} {t : TA} {apos cpos : Pos} {pl : Sem Bool}
theorem pe_methT (ho : PE X o ta) (c : Cls X.K C) (hm : Meth X.K C m g) (F : FnOk X.prog X.w X.K X.mg X.base CX k g fd ps sp) (hr : Room k X.A) (hb : Binds X.K fd ps []) (hx : ∀ σ, PassesAt CX X σ (E σ)) (ha : PA X (e :: es) t)
    (hst : starEach (e :: es) X.env = (false, eval e X.env) :: starEach es X.env := by rfl) (hpl : (backTo cpos (starEach es X.env)).any (·.1) = false := by rfl)
    (ht : eval (.Call (.Attribute o m apos) (e :: es) [] cpos) X.env = (do
      let v ← eval o X.env
      standAt apos.atName
      let (a, b) ← holding [v] (getMethod v m pl)
      callWith cpos a b (backTo cpos (starEach (e :: es) X.env)) (backToKw cpos (keywordEach [] X.env))) := by rfl) : PE X (.Call (.Attribute o m apos) (e :: es) [] cpos) (mMethT C m sp E ta t) := by
  refine ⟨fun pins s σ H Q I z => ?_⟩
  refine PySem.W.methodCall_KW (pl := pl) (thn ((pe_c ho).run pins s σ H _ I ⟨_, z, fun v H' y => y⟩) fun u s1 ⟨v, H1, I1, rv, y⟩ => ?_) ht
  unfold mIns at y
  obtain ⟨a, dx, fs, rfl, ea, l, y⟩ := y
  obtain rfl : u = Value.ref a := rv
  refine getmeth_ok I1 ea c hm l ?_
  refine PySem.W.callWith_K (first := [.ref a]) (h₀ := X.base) I.ok.mod.kin hm.kp (thn (ha.run cpos pins s1 σ H1 _ I1 y) fun us s2 ⟨ws, H2, I2, r, y2⟩ => ⟨I2.kIn, ?_⟩) hst hpl
  exact run_fnS (us := .ref a :: us) (vs := .ref a :: ws) F hr hb (hx σ) I2 (.cons rfl r) y2
end
theorem Own.addR {S B0 B H H' : Hp} {as : List Addr} {l : List (Addr × HO)} {p : Addr} {o : HO} (w : Own S B0 as B l H) (n : H p = none) (s : Same H H') (e : H' p = some o) : Own S B0 as B (l ++ [(p, o)]) H' :=
  (w.add n s e).perm List.perm_append_comm
theorem Own.loose {S B0 B H H2 H3 : Hp} {as : List Addr} {l : List (Addr × HO)} (w : Own S B0 as B l H) (s : Same H H2) (ps : List Addr) (hp : ∀ p ∈ ps, H p = none) (k : ∀ b o, b ∉ ps → H2 b = some o → H3 b = some o) : Own S B0 as B l H3 := by
  have old : ∀ {b o}, H b = some o → H3 b = some o := fun {b o} h => k b o (fun z => by rw [hp b z] at h; cases h) (s _ _ h)
  refine ⟨⟨fun a u h => old (w.c.cell a u h), w.c.nd, fun b u h => old (w.c.imm b u h), w.c.dis⟩, fun b u hb h => old (w.kept b u hb h), w.own, w.grow, w.new, fun a h e => ?_⟩
  have h2 := w.there a h
  cases e2 : H a with
  | none => exact h2 e2
  | some u =>
    rw [old e2] at e
    cases e
theorem Own.dropR {S B0 B H : Hp} {as : List Addr} {l : List (Addr × HO)} {c : Addr × HO} (w : Own S B0 as B (l ++ [c]) H) : Own S B0 as B l H :=
  w.sub (fun _ h => List.mem_append_left _ h) (by
    have nd := w.c.nd
    rw [List.map_append] at nd
    exact (List.nodup_append.mp nd).1)
theorem LLs.nil_of {H : Hp} {xss : List (List Int)} (h : LLs H [] xss) : xss = [] := by
  cases h
  rfl
theorem LLs.nil_of' {H : Hp} {ps : List Addr} (h : LLs H ps []) : ps = [] := by
  cases h
  rfl
theorem LLs.un {H : Hp} {p : Addr} {ps : List Addr} {xss : List (List Int)} (h : LLs H (p :: ps) xss) : ∃ x r, xss = x :: r ∧ H p = some (.lst (x.map V.int)) ∧ LLs H ps r := by
  cases h with
  | cons h t => exact ⟨_, _, rfl, h, t⟩
theorem LLs.un' {H : Hp} {ps : List Addr} {x : List Int} {r : List (List Int)} (h : LLs H ps (x :: r)) : ∃ p ps', ps = p :: ps' ∧ H p = some (.lst (x.map V.int)) ∧ LLs H ps' r := by
  cases h with
  | cons h t => exact ⟨_, _, rfl, h, t⟩
theorem LLs.setAt {H : Hp} {ps : List Addr} {xss : List (List Int)} {p : Addr} {x : List Int} (h : LLs H ps xss) (e : H p = some (.lst (x.map V.int))) (i : Nat) : LLs H (ps.set i p) (xss.set i x) := by
  induction h generalizing i with
  | nil => exact .nil
  | cons h t ih =>
    cases i with
    | zero => exact .cons e t
    | succ i => exact .cons h (ih i)
theorem LLs.erase {H : Hp} {ps : List Addr} {xss : List (List Int)} (h : LLs H ps xss) (i : Nat) : LLs H (ps.eraseIdx i) (xss.eraseIdx i) := by
  induction h generalizing i with
  | nil => exact .nil
  | cons h t ih =>
    cases i with
    | zero => exact t
    | succ i => exact .cons h (ih i)
theorem LLs.get' {H : Hp} {ps : List Addr} {xss : List (List Int)} (h : LLs H ps xss) {i : Int} (h0 : 0 ≤ i) (h1 : i < (ps.length : Int)) : ∃ (p : Addr) (x : List Int), x ∈ xss ∧ ps[i.toNat]? = some p ∧ atI (ps.map V.ref) i = some (.ref p) ∧ H p = some (.lst (x.map V.int)) := by
  have h2 : i.toNat < ps.length := by omega
  have e := List.getElem?_eq_getElem h2
  obtain ⟨x, hm, hx⟩ := h.at e
  refine ⟨_, x, List.mem_of_getElem? hm, e, at_of (j := i.toNat) (by omega) ?_, hx⟩
  rw [List.getElem?_map, e]
  rfl
/-! ### min and max of one list of whole numbers -/
@[irreducible] def mMinL (K : PySem.W.Frag) : List V → Hp → VK → Prop := fun xs H Q => ∃ (a : Addr) (ns : List Int), xs = [.ref a] ∧ SqL K H a (ns.map V.int) ∧ 0 < ns.length ∧ ∀ m, m ∈ ns → (∀ y ∈ ns, m ≤ y) → Q (.int m) H
@[irreducible] def mMaxL (K : PySem.W.Frag) : List V → Hp → VK → Prop := fun xs H Q => ∃ (a : Addr) (ns : List Int), xs = [.ref a] ∧ SqL K H a (ns.map V.int) ∧ 0 < ns.length ∧ ∀ m, m ∈ ns → (∀ y ∈ ns, y ≤ m) → Q (.int m) H
theorem rd_minL {K : PySem.W.Frag} {H : Hp} {Q : VK} {a : Addr} {ns : List Int} (h : SqL K H a (ns.map V.int)) (hn : 0 < ns.length) (q : ∀ m, m ∈ ns → (∀ y ∈ ns, m ≤ y) → Q (.int m) H) : mMinL K [.ref a] H Q := by
  unfold mMinL
  exact ⟨a, ns, rfl, h, hn, q⟩
theorem rd_maxL {K : PySem.W.Frag} {H : Hp} {Q : VK} {a : Addr} {ns : List Int} (h : SqL K H a (ns.map V.int)) (hn : 0 < ns.length) (q : ∀ m, m ∈ ns → (∀ y ∈ ns, y ≤ m) → Q (.int m) H) : mMaxL K [.ref a] H Q := by
  unfold mMaxL
  exact ⟨a, ns, rfl, h, hn, q⟩
theorem call_minLM {X : Cx} (hc : X.calm = true) : CallR X (.builtin "min") (mMinL X.K) := fun pins s σ H xs us Q I r q => cr_min hc pins s σ H xs us Q I r (by
  unfold mMinL at q
  exact q)
theorem call_maxLM {X : Cx} (hc : X.calm = true) : CallR X (.builtin "max") (mMaxL X.K) := fun pins s σ H xs us Q I r q => cr_max hc pins s σ H xs us Q I r (by
  unfold mMaxL at q
  exact q)
/-! ### d.pop(k), k there -/
@[irreducible] def mDPop (x y : V) (H : Hp) (Q : VK) : Prop := ∃ a kvs k v, x = .ref a ∧ y = kV k ∧ H a = some (.dK kvs) ∧ valV kvs k = some v ∧ Q v (upd H a (.dK (dropK kvs k)))
theorem rd_dpop {a : Addr} {kvs : List (Key × V)} {n : Int} {v : V} {H : Hp} {Q : VK} (h : H a = some (.dK kvs)) (e : valV kvs (.inl n) = some v) (q : Q v (upd H a (.dK (dropK kvs (.inl n))))) : mDPop (.ref a) (.int n) H Q := by
  unfold mDPop
  exact ⟨a, kvs, .inl n, v, rfl, rfl, h, e, q⟩
def mDPopE (td ty : TE) : TE := fun σ H Q => td σ H fun x H1 => ∃ a kvs, x = .ref a ∧ H1 a = some (.dK kvs) ∧ ty σ H1 fun y H2 => mDPop x y H2 Q
theorem pe_dpopM {X : Cx} {o e : Expr} {td ty : TE} {apos cpos : Pos} (ho : PE X o td) (he : PE X e ty) (hbase : attributeBase o "pop" X.env (eval o X.env) = eval o X.env := by rfl)
    (hfew : ((backTo cpos (starEach [e] X.env)).all (fun x => !x.1) && (backToKw cpos (keywordEach [] X.env)).all (fun x => x.1.isSome) && decide (([e] : List Expr).length + ([] : List Keyword).length + (if ([] : List Keyword).isEmpty then 0 else 1) < 30)) = true := by rfl)
    (hline : (apos.endLine == cpos.line) = true := by rfl) (htr : backTo cpos (starEach [e] X.env) = [(false, eval e X.env)] := by rfl) : PE X (.Call (.Attribute o "pop" apos) [e] [] cpos) (mDPopE td ty) :=
  pe_weak (pe_dpop1 (pe_c ho) (pe_c he) ⟨hbase, hfew, hline, htr⟩) fun σ H Q q => ⟨_, q, fun x H1 r => by
    obtain ⟨a, kvs, rfl, h, r⟩ := r
    refine ⟨a, rfl, .inl ⟨kvs, .inl h⟩, _, r, fun y H2 r => ?_⟩
    unfold mDPop at r
    obtain ⟨a2, kvs2, k, v, e1, e2, h2, e3, r⟩ := r
    cases e1
    exact ⟨kvs2, k, v, h2, e2, e3, r⟩⟩
/-! ### more walks of a comprehension -/
section
variable {K : PySem.W.Frag} {tt : TT} {te : TE} {σ : L2.St} {H1 : Hp} {Q : VK} {j : Nat}
/-- [new list for x in range(lo, ..)] -/
theorem wl_newR {lo : Int} {n : Nat} (f : Nat → List Int) (hn : n ≤ 100000) (ht : ∀ i : Nat, i < n → ∀ (H' : Hp) (R : VK), Same H1 H' → NewO (.lst ((f i).map V.int)) H' R → te ((wipe σ [j]).set j (some (.int (lo + (i : Nat))))) H' R)
    (hq : ∀ D qs H', H1 D = none → Cpy H1 D qs ((List.range n).map f) H' → Q (.ref D) H') : LcWP (Itr lo n) (gName j) tYes te [j] σ Q H1 := by
  refine wl_rng hn fun D hD => ⟨fun i acc H' => ∃ qs, acc = qs.map V.ref ∧ Cpy H1 D qs ((List.range i).map f) H', ⟨[], rfl, same_upd hD, upd_same, .nil, fun q hq => (nomatch hq), List.nodup_nil⟩, fun i acc H' hi ha h2 p => ?_, fun acc H' ha h2 p => ?_⟩
  · obtain ⟨qs, rfl, p⟩ := p
    show _ ∧ _
    refine ⟨wipe_set rfl, ?_⟩
    show Br true _ _
    refine br_T (ht i hi H' _ p.sm fun q H'' nq s eq => ⟨s _ _ h2, qs ++ [q], by rw [List.map_append]; rfl, ?_⟩)
    rw [List.range_succ, List.map_append]
    exact p.next hD nq s eq
  · obtain ⟨qs, rfl, p⟩ := p
    exact hq D qs H' hD p
/-- [x for x in cs if t], whole numbers -/
theorem wl_filtI {a : Addr} (cs : List Int) (keep : Int → Bool) (hx : SqL K H1 a (cs.map V.int)) (hn : cs.length ≤ 100000) (ht : ∀ n, n ∈ cs → ∀ (H' : Hp) (R : Bool → Hp → Prop), Same H1 H' → (∀ H'', Same H' H'' → R (keep n) H'') → tt ((wipe σ [j]).set j (some (.int n))) H' R)
    (he : ∀ n, n ∈ cs → ∀ (H' : Hp) (R : VK), R (.int n) H' → te ((wipe σ [j]).set j (some (.int n))) H' R) (hq : NewO (.lst ((cs.filter keep).map V.int)) H1 Q) : LcWP (Itl K a) (gName j) tt te [j] σ Q H1 := by
  refine wl_list (cs.map V.int) (by rw [List.length_map]; exact hn) fun D hD => ⟨fun i acc H' => acc = ((cs.take i).filter keep).map V.int ∧ Same H1 H', ⟨rfl, same_upd hD⟩, fun i acc H' _ _ _ p => p.2.seq hx, fun i acc y H' hi ha h2 p => ?_, fun acc H' ha h2 p => ?_⟩
  · obtain ⟨rfl, p⟩ := p
    rw [List.getElem?_map] at hi
    obtain ⟨n, hn2, rfl⟩ := Option.map_eq_some_iff.mp hi
    have hin := List.mem_of_getElem? hn2
    show _ ∧ _
    refine ⟨wipe_set rfl, ht n hin H' _ p fun H2 s2 => ?_⟩
    cases hb : keep n with
    | true =>
      refine br_T (he n hin H2 _ ⟨s2 _ _ h2, ?_, same_mut (p.trans s2) hD⟩)
      rw [take_snoc hn2, List.filter_append, List.map_append, List.filter_cons, if_pos hb]
      rfl
    | false =>
      refine br_F ⟨s2 _ _ h2, ?_, p.trans s2⟩
      rw [take_snoc hn2, List.filter_append, List.filter_cons, if_neg (by rw [hb]; decide), List.filter_nil, List.append_nil]
  · obtain ⟨rfl, p⟩ := p
    rw [List.length_map, List.take_length] at h2
    exact hq D H' hD p h2
end
/-- all numbers below n stand in a list: it is as long -/
theorem below_len : ∀ (n : Nat) (cs : List Int), (∀ m : Nat, m < n → (m : Int) ∈ cs) → n ≤ cs.length
  | 0, _, _ => Nat.zero_le _
  | n + 1, cs, h => by
    have h1 : (n : Int) ∈ cs := h n (Nat.lt_succ_self n)
    have h2 := below_len n (cs.erase (n : Int)) fun m hm => (List.mem_erase_of_ne (by omega)).mpr (h m (by omega))
    have h3 := List.length_erase_of_mem h1
    have h4 : 0 < cs.length := List.length_pos_of_mem h1
    omega
/-! ### an if whose test is told by what it comes to -/
@[irreducible] def mIfC (c : TT) (t u : TS) : TS := fun D σ H => ∃ R : Bool → Hp → Prop, c σ H R ∧ ∀ b H1, R b H1 → Br b (t D σ H1) (u D σ H1)
theorem rd_ifC {c : TT} {t u : TS} {D : Ends} {σ : L2.St} {H : Hp} (R : Bool → Hp → Prop) (h : c σ H R) (k : ∀ b H1, R b H1 → Br b (t D σ H1) (u D σ H1)) : mIfC c t u D σ H := by
  unfold mIfC
  exact ⟨R, h, k⟩
theorem ps_ifC {X : Cx} {c : Expr} {bs us : List Stmt} {pos : Pos} {tt : TT} {t u : TS} (hc : PT X c tt) (ha : PSs X bs t) (hb : PSs X us u) : PS X (.If c bs us pos) (mIfC tt t u) := ps_weak (ps_if (pt_c hc) ha hb) fun D σ H q => by
  unfold mIfC at q
  obtain ⟨R, h, k⟩ := q
  exact ⟨R, h, fun b H1 r => (k b H1 r).un⟩
/-! ### an if whose test is told by what it comes to, and whose ends are joined -/
@[irreducible] def mIfCJ (c : TT) (t u : TS) : TS := fun D σ H => ∃ (R : Bool → Hp → Prop) (P : L2.St → Hp → Prop), c σ H R ∧ (∀ H1, R true H1 → t { D with nx := P } σ H1) ∧ (∀ H1, R false H1 → u { D with nx := P } σ H1) ∧ ∀ σ' H', P σ' H' → D.nx σ' H'
theorem rd_ifCJ {c : TT} {t u : TS} {D : Ends} {σ : L2.St} {H : Hp} (R : Bool → Hp → Prop) (P : L2.St → Hp → Prop) (h : c σ H R) (h1 : ∀ H1, R true H1 → t { D with nx := P } σ H1) (h2 : ∀ H1, R false H1 → u { D with nx := P } σ H1) (k : ∀ σ' H', P σ' H' → D.nx σ' H') : mIfCJ c t u D σ H := by
  unfold mIfCJ
  exact ⟨R, P, h, h1, h2, k⟩
theorem ps_ifCJ {X : Cx} {c : Expr} {bs us : List Stmt} {pos : Pos} {tt : TT} {t u : TS} (hc : PT X c tt) (ha : PSs X bs t) (hb : PSs X us u) : PS X (.If c bs us pos) (mIfCJ tt t u) := ps_weak (ps_if (pt_c hc) (pss_c ha) (pss_c hb)) fun D σ H q => by
  unfold mIfCJ at q
  obtain ⟨R, P, h, h1, h2, k⟩ := q
  refine ⟨R, h, fun b H1 r => ?_⟩
  cases b with
  | true => exact iteT ⟨P, h1 H1 r, k⟩
  | false => exact iteF ⟨P, h2 H1 r, k⟩
end My
namespace My
open PySem L2
/-! ### C(e, ..) that may raise, within a try -/
def tMakeS (C : Addr) (sp : Sp) (E : L2.St → XK) (t : TA) : TE := fun σ H Q => t σ H fun vs H1 => ∀ x dx, H1 x = none → H1 dx = none → dx ≠ x → sp (.ref x :: vs) (upd (upd H1 dx (.own x)) x (.ins C dx [])) (fun v H2 => v = .non ∧ Q (.ref x) H2) (E σ)
section
open PySem.Spec PyProof.Rows
variable {X : Cx} {CX : CXT} {k : Nat} {C f : Addr} {fd : FuncData} {ps : List Str} {sp : Sp} {E : L2.St → XK} {x : Str} {e : Expr} {es : List Expr} {t : TA} {p pos : Pos}
theorem run_makeS {pins : List (Addr × Obj)} {σ : L2.St} {H : Hp} {s : Shared} {Q : VK} {us : List Value} {vs : List V} (M : Mk X.K C f) (F : FnOk X.prog X.w X.K X.mg X.base CX k f fd ps sp) (hr : Room (k + 1) X.A) (hb : Binds X.K fd ps [])
    (hx : PassesAt CX X σ (E σ)) (I : Inv X pins σ H s) (r : Vals vs us)
    (h : ∀ x dx, H x = none → H dx = none → dx ≠ x → sp (.ref x :: vs) (upd (upd H dx (.own x)) x (.ins C dx [])) (fun v H2 => v = .non ∧ Q (.ref x) H2) (E σ)) :
    wpAny (model X.prog X.w) X.A (call (.ref C) us) (EP X pins σ Q) X.xe s := by
  have hq := h (s.heap.objs.size + 1) s.heap.objs.size (I.hok.fresh (Nat.le_succ _)) (I.hok.fresh (Nat.le_refl _)) (Nat.ne_of_lt (Nat.lt_succ_self _))
  have I2 := Inv.made (C := C) I
  have r2 : Vals (V.ref (s.heap.objs.size + 1) :: vs) (Value.ref (s.heap.objs.size + 1) :: us) := .cons rfl r
  have hl : (Value.ref (s.heap.objs.size + 1) :: us ++ []).length = ps.length := by
    have e := r2.length
    rw [F.len _ _ _ _ hq] at e
    rw [List.append_nil]
    exact e.symm
  have b := hb _ (Value.ref (s.heap.objs.size + 1) :: us) I2.kIn hl
  rw [List.append_nil] at b
  refine wpAny_call (make_map (f := f) I.kIn M.makes M.init (beq_iff_eq.mp M.fn) (codeAny_mono (F.run _ X.stack _ _ ⟨Value.ref (s.heap.objs.size + 1) :: us, []⟩ (Value.ref (s.heap.objs.size + 1) :: us) _ _ (E σ) (hr.make C us [])
    (I2.env0.make C us []) b r2 hq) fun r s' hq' => ?_))
  cases r with
  | error e => exact hx pins _ _ e s' I2 hq'
  | ok fl =>
    cases fl with
    | ret u =>
      obtain ⟨v, H', I3, rv, ev, q3⟩ := I2.after hq'
      subst ev
      exact ⟨rv, ⟨V.ref (s.heap.objs.size + 1), H', I3, rfl, q3⟩⟩
    | next => exact False.elim hq'
    | brk => exact False.elim hq'
    | cont => exact False.elim hq'
theorem pe_makeS (M : Mk X.K C f) (F : FnOk X.prog X.w X.K X.mg X.base CX k f fd ps sp) (hr : Room (k + 1) X.A) (hg : Gl X x) (hm : X.mg x = some (.ref C)) (hb : Binds X.K fd ps []) (hx : ∀ σ, PassesAt CX X σ (E σ))
    (ha : PA X (e :: es) t) (hdb : (x == ("__debug__" : Str)) = false := by decide) (he : starEach (e :: es) X.env = (false, eval e X.env) :: starEach es X.env := by rfl) (hpl : (backTo pos (starEach es X.env)).any (·.1) = false := by rfl) :
    PE X (.Call (.Name x p) (e :: es) [] pos) (tMakeS C sp E t) := by
  refine ⟨fun pins s σ H Q I h => ?_⟩
  refine wpAny_Call_Name_kw (ld_glob I hg hm ?_ hdb)
  refine PySem.W.callWith_K (h₀ := X.base) I.ok.mod.kin M.kp (thn (ha.run pos pins s σ H _ I h) fun us s1 ⟨vs, H1, I1, r, q⟩ => ⟨I1.kIn, ?_⟩) he hpl
  exact run_makeS M F hr hb (hx σ) I1 r q
end
/-! ### an expression told by what it comes to -/
@[irreducible] def mSay (te : TE) : TE := cTE te
theorem pe_say {X : Cx} {e : Expr} {te : TE} (h : PE X e te) : PE X e (mSay te) := by
  unfold mSay
  exact pe_c h
theorem rd_say {te : TE} {σ : L2.St} {H : Hp} {Q : VK} (P : VK) (h : te σ H P) (k : ∀ v H', P v H' → Q v H') : mSay te σ H Q := by
  unfold mSay
  exact ⟨P, h, k⟩
/-! ### the places of a list of truths that are true -/
def trues (ws : List Bool) : List Nat := (List.range ws.length).filter fun i => ws.getD i false
abbrev natI (as : List Nat) : List Int := as.map fun i : Nat => (i : Int)
theorem wl_enumB {K : PySem.W.Frag} {i1 i2 : Nat} {tt : TT} {te : TE} {σ : L2.St} {H1 : Hp} {Q : VK} {a : Addr} (ws : List Bool) (hx : SqL K H1 a (ws.map V.bl)) (hn : ws.length ≤ 100000) (h12 : i1 ≠ i2)
    (ht : ∀ (i : Nat) (b : Bool), ws[i]? = some b → ∀ (H' : Hp) (R : Bool → Hp → Prop), Same H1 H' → (∀ H'', Same H' H'' → R b H'') → tt (((wipe σ [i1, i2]).set i1 (some (.int (i : Nat)))).set i2 (some (.bl b))) H' R)
    (he : ∀ (i : Nat) (b : Bool), ws[i]? = some b → ∀ (H' : Hp) (R : VK), R (.int (i : Nat)) H' → te (((wipe σ [i1, i2]).set i1 (some (.int (i : Nat)))).set i2 (some (.bl b))) H' R)
    (hq : NewO (.lst ((natI (trues ws)).map V.int)) H1 Q) : LcWP (Ite K a) (gTup K 2 (gCons (gName i1) (gCons (gName i2) gNil))) tt te [i1, i2] σ Q H1 := by
  unfold LcWP
  refine ⟨(ws.map V.bl).length, _, _, walk_enum (K := K) (a := a) (xs := ws.map V.bl), by rw [List.length_map]; exact hn, fun D hD => ?_⟩
  refine ⟨fun i acc H' => acc = (natI ((List.range i).filter fun k => ws.getD k false)).map V.int ∧ Same H1 H', ⟨rfl, same_upd hD⟩, fun i acc H' _ _ _ p => p.2.seq hx, fun i acc x H' H'' hi ha h2 p y => ?_, fun acc H' ha h2 p => ?_⟩
  · obtain ⟨rfl, p⟩ := p
    obtain ⟨T, u, v, rfl, hT, rfl, e1, e2⟩ := y
    cases e1
    have e2 : (ws.map V.bl)[i]? = some v := e2
    rw [List.getElem?_map] at e2
    obtain ⟨b, hb, rfl⟩ := Option.map_eq_some_iff.mp e2
    have eb : ws.getD i false = b := by
      rw [List.getD_eq_getElem?_getD, hb]
      rfl
    have hDT : D ≠ T := fun e => by
      rw [e, hT] at h2
      cases h2
    refine ⟨T, [.int (i : Nat), .bl b], rfl, st_of upd_same, rfl, .int (i : Nat), [.bl b], rfl, .bl b, [], rfl, rfl, wipe2 h12, ?_⟩
    have s1 : Same H' (upd H' T (.tup [.int (i : Nat), .bl b])) := same_upd hT
    refine ht i b hb _ _ (p.trans s1) fun H2 s2 => ?_
    cases b with
    | true =>
      refine br_T (he i true hb H2 _ ⟨s2 _ _ (s1 _ _ h2), ?_, same_mut ((p.trans s1).trans s2) hD⟩)
      rw [List.range_succ, List.filter_append, List.filter_cons, if_pos eb]
      simp
    | false =>
      refine br_F ⟨s2 _ _ (s1 _ _ h2), ?_, (p.trans s1).trans s2⟩
      rw [List.range_succ, List.filter_append, List.filter_cons, if_neg (by rw [eb]; decide), List.filter_nil, List.append_nil]
  · obtain ⟨rfl, p⟩ := p
    rw [List.length_map] at h2
    exact hq D H' hD p h2
theorem nodup_lt : ∀ (n : Nat) (as : List Nat), as.Nodup → (∀ a ∈ as, a < n) → as.length ≤ n
  | 0, [], _, _ => Nat.le_refl _
  | 0, a :: _, _, h => absurd (h a (.head _)) (Nat.not_lt_zero _)
  | n + 1, as, nd, h => by
    have h2 := nodup_lt n (as.erase n) (nd.erase n) fun a ha => by
      have h3 := (nd.mem_erase_iff).mp ha
      have h4 := h a h3.2
      have h5 := h3.1
      omega
    by_cases hm : n ∈ as
    · rw [List.length_erase_of_mem hm] at h2
      omega
    · rw [List.erase_of_not_mem hm] at h2
      omega
theorem trues_nd (ws : List Bool) : (trues ws).Nodup := List.nodup_range.filter _
theorem trues_lt {ws : List Bool} {i : Nat} (h : i ∈ trues ws) : i < ws.length := List.mem_range.mp (List.mem_filter.mp h).1
theorem trues_at {ws : List Bool} {i : Nat} : i ∈ trues ws ↔ i < ws.length ∧ ws.getD i false = true := by
  unfold trues
  rw [List.mem_filter, List.mem_range]
theorem trues_len (ws : List Bool) : (trues ws).length ≤ ws.length := nodup_lt _ _ (trues_nd ws) fun a h => trues_lt h
theorem range_map_getD {α β : Type} (l : List α) (d : α) (f : α → β) : (List.range l.length).map (fun i => f (l.getD i d)) = l.map f := by
  apply List.ext_getElem?
  intro i
  rw [List.getElem?_map, List.getElem?_map]
  by_cases h : i < l.length
  · rw [List.getElem?_range h, List.getElem?_eq_getElem h]
    show some (f (l.getD i d)) = some (f l[i])
    rw [List.getD_eq_getElem?_getD, List.getElem?_eq_getElem h]
    rfl
  · rw [List.getElem?_eq_none (by rw [List.length_range]; omega), List.getElem?_eq_none (by omega)]
    rfl
theorem at_get {xs : List V} {k : Nat} {v : V} (h : xs[k]? = some v) : atI xs (k : Int) = some v := at_of (j := k) (by omega) h
theorem at_bl {ws : List Bool} {k : Nat} (h : k < ws.length) : atI (ws.map V.bl) (k : Int) = some (V.bl (ws.getD k false)) := by
  refine at_get ?_
  rw [List.getElem?_map, List.getElem?_eq_getElem h, List.getD_eq_getElem?_getD, List.getElem?_eq_getElem h]
  rfl
theorem wl_rngF {j : Nat} {tt : TT} {te : TE} {σ : L2.St} {H1 : Hp} {Q : VK} {n : Nat} (keep : Nat → Bool) (hn : n ≤ 100000) (ht : ∀ i : Nat, i < n → ∀ (H' : Hp) (R : Bool → Hp → Prop), Same H1 H' → (∀ H'', Same H' H'' → R (keep i) H'') → tt ((wipe σ [j]).set j (some (.int (i : Nat)))) H' R)
    (he : ∀ i : Nat, i < n → ∀ (H' : Hp) (R : VK), R (.int (i : Nat)) H' → te ((wipe σ [j]).set j (some (.int (i : Nat)))) H' R) (hq : NewO (.lst ((natI ((List.range n).filter keep)).map V.int)) H1 Q) : LcWP (Itr 0 n) (gName j) tt te [j] σ Q H1 := by
  refine wl_rng hn fun D hD => ⟨fun i acc H' => acc = (natI ((List.range i).filter keep)).map V.int ∧ Same H1 H', ⟨rfl, same_upd hD⟩, fun i acc H' hi ha h2 p => ?_, fun acc H' ha h2 p => ?_⟩
  · obtain ⟨rfl, p⟩ := p
    rw [Int.zero_add]
    show _ ∧ _
    refine ⟨wipe_set rfl, ht i hi H' _ p fun H2 s2 => ?_⟩
    cases hb : keep i with
    | true =>
      refine br_T (he i hi H2 _ ⟨s2 _ _ h2, ?_, same_mut (p.trans s2) hD⟩)
      rw [List.range_succ, List.filter_append, List.filter_cons, if_pos hb]
      simp
    | false =>
      refine br_F ⟨s2 _ _ h2, ?_, p.trans s2⟩
      rw [List.range_succ, List.filter_append, List.filter_cons, if_neg (by rw [hb]; decide), List.filter_nil, List.append_nil]
  · obtain ⟨rfl, p⟩ := p
    exact hq D H' hD p h2
theorem rd_isiNB {K : PySem.W.Frag} {H : Hp} {Q : VK} (h : Q (.bl false) H) : mIsi K [.non, .ty "bool"] H Q := by
  unfold mIsi
  exact ⟨_, _, _, _, false, rfl, ClsV.ty _, TyX.base TyOf.non, by rfl, h⟩
theorem sum_set : ∀ (l : List Int) (i : Nat) (x : Int), i < l.length → (l.set i x).sum = l.sum - l.getD i 0 + x
  | [], i, x, h => absurd h (Nat.not_lt_zero _)
  | a :: l, 0, x, _ => by
    rw [List.set_cons_zero, List.sum_cons, List.sum_cons]
    show x + l.sum = a + l.sum - a + x
    omega
  | a :: l, i + 1, x, h => by
    have h2 := sum_set l i x (Nat.lt_of_succ_lt_succ h)
    rw [List.set_cons_succ, List.sum_cons, List.sum_cons, h2]
    show a + (l.sum - l.getD i 0 + x) = a + l.sum - l.getD i 0 + x
    omega
theorem rng1_ok {n : Nat} {A : Prop} (h : n ≤ 100000) (hA : A) : -(2 ^ 62) ≤ (n : Int) ∧ (n : Int) < 2 ^ 62 ∧ A := by
  have big : (2 : Int) ^ 62 = 4611686018427387904 := by decide
  rw [big]
  exact ⟨by omega, by omega, hA⟩
theorem rng2_ok {i j : Int} {A : Prop} (h : -100000 ≤ i ∧ i ≤ 100000 ∧ -100000 ≤ j ∧ j ≤ 100000) (hA : A) : (-(2 ^ 62) ≤ i ∧ i < 2 ^ 62 ∧ -(2 ^ 62) ≤ j ∧ j < 2 ^ 62) ∧ A := by
  have big : (2 : Int) ^ 62 = 4611686018427387904 := by decide
  rw [big]
  exact ⟨⟨by omega, by omega, by omega, by omega⟩, hA⟩
theorem map_getD_range {α : Type} (l : List α) (d : α) : (List.range l.length).map (fun i => l.getD i d) = l := (range_map_getD l d id).trans (List.map_id l)
/-- what is owned, in another order (is: the places) -/
theorem Own.reorder {S B0 B H : Hp} {as : List Addr} {l : List (Addr × HO)} (w : Own S B0 as B l H) (is : List Nat) (hn : l.length = is.length := by rfl) (h : is.Perm (List.range is.length) := by decide +kernel) : Own S B0 as B (is.map fun i => l.getD i (0, .lst [])) H := by
  refine w.perm ((h.map _).trans ?_)
  rw [← hn, map_getD_range]
theorem Own.pre {S B0 B H : Hp} {as : List Addr} {l l2 : List (Addr × HO)} (w : Own S B0 as B (l ++ l2) H) : Own S B0 as B l H := w.sub (fun _ hc => List.mem_append_left _ hc) (by
  have nd := w.c.nd
  rw [List.map_append] at nd
  exact (List.nodup_append.mp nd).1)
/-- some of what is owned (is: their places; rest: the others') -/
theorem Own.pick {S B0 B H : Hp} {as : List Addr} {l : List (Addr × HO)} (w : Own S B0 as B l H) (is rest : List Nat) (hn : l.length = (is ++ rest).length := by rfl) (h : (is ++ rest).Perm (List.range (is ++ rest).length) := by decide +kernel) : Own S B0 as B (is.map fun i => l.getD i (0, .lst [])) H := by
  have w2 := w.reorder _ hn h
  rw [List.map_append] at w2
  exact w2.pre
/-! ### for x in range(lo, hi, c) -/
@[irreducible] def mForR3 (ta : TA) (j : Nat) (tb : TS) : TS := fun D σ H => ta σ H fun ws H1 => ∃ (lo hi c : Int) (n : Nat) (Pv : Nat → L2.St → Hp → Prop), ws = [.int lo, .int hi, .int c] ∧ RgC lo hi c n ∧ Pv 0 σ H1 ∧
  (∀ i σ' H', i < n → Pv i σ' H' → tb { D with nx := Pv (i + 1), ct := Pv (i + 1), bk := D.nx } (σ'.set j (some (.int (lo + (i : Nat) * c)))) H') ∧ ∀ σ' H', Pv n σ' H' → D.nx σ' H'
theorem rd_forR3 {ta : TA} {j : Nat} {tb : TS} {D : Ends} {σ : L2.St} {H : Hp} (h : ta σ H fun ws H1 => ∃ (lo hi c : Int) (n : Nat) (Pv : Nat → L2.St → Hp → Prop), ws = [.int lo, .int hi, .int c] ∧ RgC lo hi c n ∧ Pv 0 σ H1 ∧
  (∀ i σ' H', i < n → Pv i σ' H' → tb { D with nx := Pv (i + 1), ct := Pv (i + 1), bk := D.nx } (σ'.set j (some (.int (lo + (i : Nat) * c)))) H') ∧ ∀ σ' H', Pv n σ' H' → D.nx σ' H') : mForR3 ta j tb D σ H := by
  unfold mForR3
  exact h
theorem ps_forR3 {X : Cx} {ta : TA} {pos : Pos} {j : Nat} {x : Str} {a b c : Expr} {body : List Stmt} {tb : TS} {p p2 xpos : Pos} (hp : PassesOwn (model X.prog X.w) X.A X.env X.xe) (hc : X.calm = true) (hg : Gl X "range") (hm : X.mg "range" = none) (ha : PA X [a, b, c] ta) (hgt : PG X (.Name x xpos) (gName j)) (hb : PSs X body tb)
    (hs : starEach [a, b, c] X.env = (false, eval a X.env) :: starEach [b, c] X.env := by rfl) (hpl : (backTo p2 (starEach [b, c] X.env)).any (·.1) = false := by rfl) (hs2 : ∀ y, foldedSetIterable (.Call (.Name "range" p) [a, b, c] [] p2) X.env y = pure y := by intro _; rfl) :
    PS X (.For (.Name x xpos) (.Call (.Name "range" p) [a, b, c] [] p2) body [] pos) (mForR3 ta j tb) :=
  ps_weak (ps_for hp hc (pi_range3 hg hm (pa_c ha) hs hpl) hgt hb hs2) fun D σ H q => by
    unfold mForR3 at q
    refine ⟨_, q, fun ws H1 r => ?_⟩
    obtain ⟨lo, hi, c, n, Pv, rfl, h1, h0, hs, hd⟩ := r
    refine ⟨lo, hi, c, n, rfl, h1, ?_⟩
    refine for_it (walk_rangeC (lo := lo) (c := c) (n := n)) Pv h0 (fun _ _ _ _ _ => trivial) (fun i x σ' H' H'' hi p y => ?_) hd
    obtain ⟨rfl, rfl⟩ := y
    exact hs i σ' _ hi p
end My
namespace My
open PySem L2
/-! ### sorted(d), a dict of whole numbers, any number of them -/
section
open PySem.Spec PyProof.Rows
variable {X : Cx}
theorem call_sortDB (hcl : X.calm = true) : CallR X (.builtin "sorted") (fun xs H Q => ∃ (a : Addr) (kvs : List (Key × V)) (ns : List Int), xs = [.ref a] ∧ H a = some (.dK kvs) ∧ kvs.map Prod.fst = ns.map Sum.inl ∧ ∀ (ys : List Int) (p : Addr), ys.Perm ns → ys.Pairwise (· ≤ ·) → H p = none → Q (.ref p) (upd H p (.lst (ys.map V.int)))) := by
  intro pins st σ H xs vals Q inv rv q
  obtain ⟨a, kvs, ns, rfl, hd, hkn, q⟩ := q
  obtain ⟨u, rfl, ru⟩ := vals1 rv
  cases ru
  obtain ⟨hzl, hlo, ents, hrel, hdd⟩ := dk_rd inv.hok (.inl hd)
  obtain ⟨ep, hat⟩ := hdd.dictAt
  have hek : ents.map (·.1) = ns.map Sum.inl := hrel.keys.symm.trans hkn
  have hen : ents.length = ns.length := by
    have := congrArg List.length hek
    rwa [List.length_map, List.length_map] at this
  have hkn2 : kvs.length = ns.length := by
    have := congrArg List.length hkn
    rwa [List.length_map, List.length_map] at this
  have hsz : ents.length ≤ sizeLine := by omega
  refine (Calls.call_function_entry kind_sorted plain_sorted entry_sorted (args_sorted1 _) ?_)
  unfold Builtin.«sorted»
  refine (wpAny_bind (m := checkCount "sorted" 1 1 _) (wpAny_pure ?_))
  refine (wpAny_bind (PySem.W.kdu_collect (A := X.A.in1) (PySem.W.kdl_dict (knd := mixKind X.prog X.w) (kvs := ents) (ep := ep) hlo) (inv.ok.hd hcl) hat hsz fun h2 tk acc kp hacc => ?_))
  have hal : acc.toList.length = ns.length := by rw [Array.length_toList, hacc.1, hen]
  have hints : IntsAre acc.toList ns := ints_each hal fun j v ej => by
    obtain ⟨k, x, g1, g2⟩ := hacc.2 j v (by rw [← Array.getElem?_toList]; exact ej)
    have g3 : (ents.map (·.1))[j]? = some k := by rw [List.getElem?_map, g1]; rfl
    rw [hek, List.getElem?_map] at g3
    cases g4 : ns[j]? with
    | none => rw [g4] at g3; cases g3
    | some y =>
      rw [g4] at g3
      have g5 : Sum.inl y = k := Option.some.inj g3
      subst g5
      rcases keyIs_shape (show keyIs (Sum.inl y) v = true from g2) with ⟨i, t, ek, ev⟩ | ⟨z, t, ek, ev⟩
      · cases ek
        exact ⟨y, t, rfl, ev⟩
      · cases ek
  have inv2 : Inv X pins σ H { st with heap := h2, toks := tk } := inv.kept kp
  have hal2 : acc.toList.length ≤ sizeLine := by omega
  refine (wpAny_bind (wpAny_newList ?_ hal2))
  have hnew : (h2.push (seqObj "list" acc.toList.toArray 0)).get? h2.objs.size = some (seqObj "list" acc.toList.toArray 0) := Heap.get?_push_size _ rfl
  show wpAny _ _ _ _ _ { st with heap := h2.push (seqObj "list" acc.toList.toArray 0), toks := tk }
  refine (wpAny_bind (wpAny_holding (wpAny_call_entry slot_list_sort ⟨_, hnew, rfl⟩ entry_list_sort
    (SrtO.list_sort_ord (s := { st with heap := h2.push (seqObj "list" acc.toList.toArray 0), toks := tk }) SrtO.swo_int hnew hal2 (fun g2 => SrtO.ints_sortable hints g2) fun out g1 g2 => ⟨_, rfl, ?_⟩) (args_list_sort _))))
  obtain ⟨k1, k2, k3⟩ := SrtO.ints_out hints g1 g2
  obtain ⟨e2, he2⟩ := sortedHeap_at (vs := acc.toList) (out := out.toArray) hnew
  have hyl : ((out.map SrtO.iv).map V.int).length ≤ sizeLine := by
    rw [List.length_map, k2.length_eq]
    omega
  refine wpAny_pure ⟨_, rfl, .ref h2.objs.size, upd H h2.objs.size (.lst ((out.map SrtO.iv).map V.int)), inv2.laid (t' := tk) (fun b u eb => ?_) (Nat.le_refl _)
    (show ObjOk X.prog X.w _ _ _ (.lst ((out.map SrtO.iv).map V.int)) from ⟨hyl, out, e2, vals_of_ints k1, he2⟩), rfl, q _ _ k2 k3 (inv2.hok.fresh (Nat.le_refl _))⟩
  have hbl : b < h2.objs.size := Heap.lt_size eb
  rw [sortedHeap_old (Nat.ne_of_lt hbl) (by rw [Heap.size_push]; exact Nat.lt_succ_of_lt hbl)]
  exact Heap.get?_push_of_some _ eb
end
@[irreducible] def mSortDB : List V → Hp → VK → Prop := fun xs H Q => ∃ (a : Addr) (kvs : List (Key × V)) (ns : List Int), xs = [.ref a] ∧ H a = some (.dK kvs) ∧ kvs.map Prod.fst = ns.map Sum.inl ∧ ∀ ys : List Int, ys.Perm ns → ys.Pairwise (· ≤ ·) → NewO (.lst (ys.map V.int)) H Q
theorem rd_sortDB {H : Hp} {Q : VK} {a : Addr} {kvs : List (Key × V)} {ns : List Int} (h : H a = some (.dK kvs)) (hk : kvs.map Prod.fst = ns.map Sum.inl) (q : ∀ ys : List Int, ys.Perm ns → ys.Pairwise (· ≤ ·) → NewO (.lst (ys.map V.int)) H Q) : mSortDB [.ref a] H Q := by
  unfold mSortDB
  exact ⟨a, kvs, ns, rfl, h, hk, q⟩
theorem call_sortDBM {X : Cx} (hc : X.calm = true) : CallR X (.builtin "sorted") mSortDB := fun pins s σ H xs us Q I r q => call_sortDB hc pins s σ H xs us Q I r (by
  unfold mSortDB at q
  obtain ⟨a, kvs, ns, e, h, hk, q⟩ := q
  exact ⟨a, kvs, ns, e, h, hk, fun ys p hp ho => (q ys hp ho).go p⟩)
/-! ### dict(d): a copy -/
@[irreducible] def mDictD : List V → Hp → VK → Prop := fun xs H Q => ∃ (a : Addr) (kvs : List (Key × V)), xs = [.ref a] ∧ H a = some (.dK kvs) ∧ ∀ p, H p = none → Q (.ref p) (upd H p (.dK kvs))
theorem rd_dictD {H : Hp} {Q : VK} {a : Addr} {kvs : List (Key × V)} (h : H a = some (.dK kvs)) (q : ∀ p, H p = none → Q (.ref p) (upd H p (.dK kvs))) : mDictD [.ref a] H Q := by
  unfold mDictD
  exact ⟨a, kvs, rfl, h, q⟩
theorem call_dictDM {X : Cx} : CallR X (.type "dict") mDictD := fun pins s σ H xs us Q I r q => call_dictD pins s σ H xs us Q I r (by
  unfold mDictD at q
  obtain ⟨a, kvs, e, h, q⟩ := q
  exact ⟨a, kvs, e, .inl h, q⟩)
end My
namespace My
open PySem L2
theorem hu1_of {A : Around} {k : Nat} (hr : Room k A) : A.units < cLine := Nat.lt_of_succ_lt (hu_of hr)
/-! ### {k: v for ..}, the keys tuples -/
section
open PySem.Spec PyProof.Rows
variable {X : Cx}
theorem storeT {pins : List (Addr × Obj)} {σ : L2.St} {H : Hp} {s : Shared} {E : Value → Shared → Prop} {D b : Addr} {kvs : List (List Key × V)} {k : List Key} {v : V} {r : Value} {Q : Unit → Shared → Prop}
    (hu : X.A.units < cLine) (I : Inv X pins σ H s) (hD : H D = some (.dT kvs)) (hb : H b = some (.tup (k.map kV))) (few : kvs.length < sizeLine) (rv : RelV v r)
    (fin : ∀ s', Inv X pins σ (upd H D (.dT (putK kvs k v))) s' → Q () s') : wpAny (model X.prog X.w) X.A (dictSet D (.ref b) r) Q E s := by
  obtain ⟨z, lo, xs, rel, dd⟩ := dt_of I.hok hD
  have few2 : xs.length ≤ sizeLine := (Paired.length rel) ▸ z
  have grown := length_putK kvs k v
  refine wpAny_dictSet_heap (hsz := few2) hu (key_of I.hok hb) dd fun h2 dd2 sb => fin _ ?_
  obtain ⟨o2, es2, ep2, g1, g2, g3, g4, _, g5⟩ := dd2
  have there : ∃ o, h2.get? D = some o := ⟨o2, g1⟩
  have mine : ∀ (c : Addr) (ys : List V), H c = some (.tup ys) → upd H D (.dT (putK kvs k v)) c = some (.tup ys) := fun c ys hh => by
    have hne : c ≠ D := fun e => by
      rw [e, hD] at hh
      cases hh
    rw [upd_ne hne]
    exact hh
  exact d_write I (by rw [hD]; exact True.intro) sb there ⟨by omega, lo, _, (rel.put k hb rv).keeps mine, o2, es2, ep2, g1, g2, g3, g4, g5⟩
def tDcT (wi : TI) (g : TG) (tt : TT) (tk tv : TE) (vs : List Nat) : TE := fun σ H Q => wi σ H fun J Ha => ∀ D, Ha D = none → ∃ W : Nat → Nat → Hp → Prop,
  (∃ m, W 0 m (upd Ha D (.dT []))) ∧ ∀ i m Hb, W i m Hb → (J.stop i Hb ∧ Q (.ref D) Hb) ∨ (J.go i Hb ∧ ∃ Nx : Hp → Prop, (∀ Hc, Nx Hc → ∃ m2, m2 < m ∧ W (i + 1) m2 Hc) ∧
    ∀ x Hc, J.yld i Hb x Hc → g x (wipe σ vs) Hc fun σ2 Hd => wipe σ2 vs = wipe σ vs ∧ tt σ2 Hd fun kept He => if kept = true then
      tk σ2 He fun y Hf => tv σ2 Hf fun z Hg => ∃ (kvs : List (List Key × V)) (k : List Key) (b : Addr), y = .ref b ∧ Hg b = some (.tup (k.map kV)) ∧ Hg D = some (.dT kvs) ∧ kvs.length < sizeLine ∧ Nx (upd Hg D (.dT (putK kvs k z))) else Nx He)
theorem pe_dcT {kx vx tg iter : Expr} {ifs : List Expr} {scope : Scope} {own : List (Str × Nat)} {pos : Pos} {wi : TI} {g : TG} {tt : TT} {tk tv : TE} (hu : X.A.units < cLine) (hc : X.calm = true) (hN : X.N.Nodup) (hi : PI X tg iter wi) (ok : BlkOk X.N X.env.scope scope own)
    (pgs : ∀ (sh : Shared) (Hx : Hp) (C : Addr) (cl : List (Str × Addr)) (fp : List Addr), PG (X.blk sh Hx scope (compEnvC scope cl C X.env) fp) tg g)
    (pts : ∀ (sh : Shared) (Hx : Hp) (C : Addr) (cl : List (Str × Addr)) (fp : List Addr), PTs (X.blk sh Hx scope (compEnvC scope cl C X.env) fp) ifs tt)
    (pks : ∀ (sh : Shared) (Hx : Hp) (C : Addr) (cl : List (Str × Addr)) (fp : List Addr), PE (X.blk sh Hx scope (compEnvC scope cl C X.env) fp) kx tk)
    (pvs : ∀ (sh : Shared) (Hx : Hp) (C : Addr) (cl : List (Str × Addr)) (fp : List Addr), PE (X.blk sh Hx scope (compEnvC scope cl C X.env) fp) vx tv)
    (folded : ∀ x, foldedSetIterable iter X.env x = pure x := by intro _; rfl) : PE X (.DictComp kx vx [⟨tg, iter, ifs, 0⟩] scope pos) (tDcT wi g tt tk tv (own.map (·.2))) := by
  refine ⟨fun pins s σ H Q I h => ?_⟩
  rw [arm_eval_DictComp]
  have cells : ∀ y ∈ scope.names, y.2 = .free → ∃ c, X.env.cells.lookup y.1 = some c := fun y hy e => (ok.free y hy e).elim (fun k => I.ok.has _ (.inl k)) (fun k => I.ok.has _ (.inr k))
  refine wpAny_comprehension_free rfl folded (closure_ok cells) ok.kind (fun y hy e => by rw [ok.uniq y hy, e]) (thn (hi.run pins s σ H _ I h) fun xv s1 hx => thn hx fun itv s2 started => ?_)
  obtain ⟨it, fp, tn, J, Ha, rfl, I2, T, at0, ours, turns⟩ := started
  refine wpAny_newObj_type (newEnv_comp ?_)
  -- the new dict's place
  obtain ⟨D, hD⟩ : ∃ D, D = s2.heap.objs.size := ⟨_, rfl⟩
  obtain ⟨W, ⟨m0, w0⟩, turn⟩ := turns D (I2.hok.fresh (Nat.le_of_eq hD.symm))
  have Inew : Inv X pins σ (upd Ha D (.dT [])) { s2 with heap := s2.heap.push { cls := .type "dict", data := .dict #[] } } := by
    subst hD
    exact I2.laid (t' := s2.toks) (fun b o e => Heap.get?_push_of_some _ e) (Nat.le_refl _) (dt_empty s2.heap I2.big)
  obtain ⟨s3, hs3⟩ : ∃ s3 : Shared, s3 = { s2 with heap := s2.heap.push { cls := .type "dict", data := .dict #[] } } := ⟨_, rfl⟩
  rw [← hs3] at Inew ⊢
  rw [← hD]
  have s3h : s3.heap = s2.heap.push { cls := .type "dict", data := .dict #[] } := congrArg Shared.heap hs3
  have inHeap : ∀ b ∈ fp, b < s2.heap.objs.size := fun b hb => (T.obj _ _ at0 b hb).elim fun o e => Heap.lt_size e.1
  have ours3 : ∀ b ∈ fp, FpOk X pins (upd Ha D (.dT [])) b ∧ b < s3.heap.objs.size := fun b hb => by
    have lt := inHeap b hb
    have ne : b ≠ D := fun e => by
      rw [e, hD] at lt
      exact Nat.lt_irrefl _ lt
    refine ⟨⟨(upd_ne ne).trans (ours b hb).1, (ours b hb).2⟩, ?_⟩
    rw [s3h, Heap.size_push]
    exact Nat.lt_succ_of_lt lt
  have at3 : tn 0 s3.heap := T.keep _ _ _ at0 fun b _ o e => by
    rw [s3h]
    exact Heap.get?_push_of_some _ e
  obtain ⟨H3, hH3⟩ : ∃ H3, H3 = upd Ha D (.dT []) := ⟨_, rfl⟩
  rw [← hH3] at Inew ours3 w0
  have Iblk := block_start Inew ok hN ours3
  obtain ⟨C, hC⟩ : ∃ C, C = s3.heap.objs.size := ⟨_, rfl⟩
  have pg := pgs s3 H3 C (cellsFrom (C + 1) scope.names (cloFrom X.env.cells scope.names [])) fp
  have pt := pts s3 H3 C (cellsFrom (C + 1) scope.names (cloFrom X.env.cells scope.names [])) fp
  have pk := pks s3 H3 C (cellsFrom (C + 1) scope.names (cloFrom X.env.cells scope.names [])) fp
  have pv := pvs s3 H3 C (cellsFrom (C + 1) scope.names (cloFrom X.env.cells scope.names [])) fp
  obtain ⟨ce, hce⟩ : ∃ ce, ce = compEnvC scope (cellsFrom (C + 1) scope.names (cloFrom X.env.cells scope.names [])) C X.env := ⟨_, rfl⟩
  obtain ⟨s4, hs4⟩ : ∃ s4 : Shared, s4 = { s3 with heap := pushCells (s3.heap.push { cls := .type "dict", data := .dict #[] }) scope.names } := ⟨_, rfl⟩
  suffices goal : codeAny (model X.prog X.w) X.A (.compLoop (.DictComp kx vx [⟨tg, iter, ifs, 0⟩] scope pos) 0 (.ref it) (.ref D) ce) (compPost (model X.prog X.w) X.A X.xe none (EP X pins σ Q) (.ref D) C) s4 by
    have at4 : tn 0 s4.heap := T.keep _ _ _ at3 fun b _ o e => by
      rw [hs4]
      exact pushCells_keeps _ _ _ _ (Heap.get?_push_of_some _ e)
    have start := codeAny_compStart_dict goal (T.self X.A 0 _ _ _ at4 goal)
    rw [hce, hC, hs4] at start
    exact start
  have at4 : tn 0 s4.heap := T.keep _ _ _ at3 fun b _ o e => by
    rw [hs4]
    exact pushCells_keeps _ _ _ _ (Heap.get?_push_of_some _ e)
  rw [← hC] at Iblk
  rw [← hce] at Iblk pg pt pk pv
  rw [← hs4] at Iblk
  have atC : ce.locals = C := by rw [hce]; rfl
  have free3 : ∀ b ∈ fp, H3 b = none := fun b hb => (ours3 b hb).1.1
  have stays : ∀ {σx : L2.St} {Hx : Hp} {sx : Shared}, Inv (X.blk s3 H3 scope ce fp) [] σx Hx sx → (∀ b ∈ fp, Hx b = none) → ∀ b ∈ fp, FpOk (X.blk s3 H3 scope ce fp) [] Hx b :=
    fun {σx Hx sx} Ix hn b hb => ⟨hn b hb, (Ix.ok.exf b hb).1, Ix.ok.exfs b hb, .inl hb, fun x c e => (Ix.ok.exf b hb).2 x c e, fun p hp => by
      have : p ∈ ([] : List (Addr × Obj)) ++ [] := hp
      cases this⟩
  refine compLoop_anyD (fun n sx => ∃ i Hx, Inv (X.blk s3 H3 scope ce fp) [] (wipe σ (own.map (·.2))) Hx sx ∧ tn i sx.heap ∧ (∀ b ∈ fp, Hx b = none) ∧ W i n Hx) ?_ m0 ⟨0, H3, Iblk, at4, free3, w0⟩
  intro n s5 hyp
  obtain ⟨i, H5, I5, at5, free5, w5⟩ := hyp
  rcases turn i n H5 w5 with ⟨ends, won⟩ | ⟨goes, Nx, less, step⟩
  · refine thnF (T.done (X.blk s3 H3 scope ce fp) rfl rfl rfl hc i [] s5 _ H5 (fun _ _ => False) I5 (stays I5 free5) at5 ends) fun r s6 over => ?_
    obtain ⟨rfl, I6⟩ := over
    have Iout : Inv X pins σ H5 s6 := Inew.call' (ch := fp) I6.os I6.base I6.hok I6.bare fun b hb => by
      have z := (ours3 b hb).1.2
      exact ⟨z.2.2.1, z.1, z.2.2.2.1, z.2.2.2.2⟩
    have freeC : H5 C = none := atC ▸ I6.free
    obtain ⟨m, ns, _⟩ := I6.loc
    have ns : s6.heap.Ns C m := atC ▸ ns
    refine ⟨m, ns, fun h2 sb => ?_⟩
    obtain ⟨f0, f1, f2, f3, f4, f5⟩ := Inew.fpOk (Nat.le_of_eq hC.symm) freeC
    exact ⟨.ref D, H5, Iout.turned (t' := s6.toks) (fun b o hb e => (sb.2 b hb).trans e) f0 f1 f3 f4 f5, rfl, won⟩
  · refine thnF (T.item (X.blk s3 H3 scope ce fp) rfl rfl rfl hc i [] s5 _ H5 (fun _ _ => False) I5 (stays I5 free5) at5 goes) fun r s6 got => ?_
    obtain ⟨u, rfl, h6⟩ := got
    refine thnF h6 fun _ s7 came => ?_
    obtain ⟨x, H7, I7, r7, y7, at7, free7⟩ := came
    refine thnF (pg.run _ s7 _ H7 x u _ (I7.pinned (stays I7 free7) (T.obj _ _ at7)) r7 (step x H7 y7)) fun _ s8 set8 => ?_
    obtain ⟨σ8, H8, I8, same8, q8⟩ := set8
    refine thnF (pt.run _ s8 σ8 H8 _ I8 q8) fun kept s9 told => ?_
    obtain ⟨H9, I9, q9⟩ := told
    have close : ∀ {sx : Shared} {Hx : Hp}, Inv (X.blk s3 H3 scope ce fp) ([] ++ pinsAt fp s7.heap) σ8 Hx sx → Nx Hx → ∃ m, m < n ∧ ∃ i Hy, Inv (X.blk s3 H3 scope ce fp) [] (wipe σ (own.map (·.2))) Hy sx ∧ tn i sx.heap ∧ (∀ b ∈ fp, Hy b = none) ∧ W i m Hy := fun {sx Hx} Ix nx => by
      obtain ⟨m2, lt2, w2⟩ := less Hx nx
      have pin : ∀ b ∈ fp, ∀ o, s7.heap.get? b = some o → sx.heap.get? b = some o ∧ Hx b = none := fun b hb o e => by
        have z := Ix.pin (b, o) (List.mem_append_right _ (List.mem_append_right _ (mem_pinsAt hb e)))
        exact ⟨z.1, z.2.1⟩
      have len8 : (wipe σ (own.map (·.2))).length = σ8.length := by
        rw [← same8, wipe_length]
      refine ⟨m2, lt2, i + 1, Hx, (Ix.unpinned (pins := [])).weak len8 (fun j v e => ?_), T.keep _ _ _ at7 (fun b hb o e => (pin b hb o e).1), (fun b hb => ?_), w2⟩
      · rw [← same8] at e
        exact (wipe_some e).1
      · obtain ⟨o, e, _⟩ := T.obj _ _ at7 b hb
        exact (pin b hb o e).2
    cases kept with
    | false => exact close I9 q9
    | true =>
      refine thnF (pk.run _ s9 σ8 H9 _ I9 q9) fun z1 s10 key => ?_
      obtain ⟨yk, H10, I10, r10, q10⟩ := key
      refine thnF (pv.run _ s10 σ8 H10 _ I10 q10) fun z2 s11 val => ?_
      obtain ⟨yv, H11, I11, r11, kvs, k, b, rfl, hb11, hD11, few11, nx⟩ := val
      cases (show z1 = Value.ref b from r10)
      exact storeT (X := X.blk s3 H3 scope ce fp) hu I11 hD11 hb11 few11 r11 fun s12 I12 => close I12 nx
end
/-! ### a dict whose keys are pairs of whole numbers, its values whole numbers -/
abbrev PK := (Int × Int) × Int
def kT (p : Int × Int) : List Key := [.inl p.1, .inl p.2]
def kvT (e : PK) : List Key × V := (kT e.1, .int e.2)
def tget (E : List PK) (p : Int × Int) : Option Int := (E.find? fun e => decide (e.1 = p)).map (·.2)
def tput (E : List PK) (p : Int × Int) (v : Int) : List PK := if p ∈ E.map Prod.fst then E.map (fun e => if e.1 = p then (e.1, v) else e) else E ++ [(p, v)]
theorem kT_inj {p q : Int × Int} : kT p = kT q ↔ p = q := by
  constructor
  · intro h
    obtain ⟨a, b⟩ := p
    obtain ⟨c, d⟩ := q
    injection h with h1 h2
    injection h2 with h2 _
    injection h1 with h1
    injection h2 with h2
    have h1 : a = c := h1
    have h2 : b = d := h2
    rw [h1, h2]
  · rintro rfl
    rfl
theorem kT_kV (p : Int × Int) : (kT p).map kV = [.int p.1, .int p.2] := rfl
theorem valV_T (E : List PK) (p : Int × Int) : valV (E.map kvT) (kT p) = (tget E p).map V.int := by
  unfold valV tget
  induction E with
  | nil => rfl
  | cons e r ih =>
    rw [List.map_cons, List.find?_cons, List.find?_cons]
    by_cases h : e.1 = p
    · rw [decide_eq_true h, decide_eq_true (show (kvT e).1 = kT p from kT_inj.mpr h)]
      rfl
    · rw [decide_eq_false h, decide_eq_false (show ¬ (kvT e).1 = kT p from fun z => h (kT_inj.mp z))]
      exact ih
theorem putK_T (E : List PK) (p : Int × Int) (v : Int) : putK (E.map kvT) (kT p) (.int v) = (tput E p v).map kvT := by
  have hany : ((E.map kvT).any fun kv => decide (kv.1 = kT p)) = decide (p ∈ E.map Prod.fst) := by
    induction E with
    | nil => rfl
    | cons e r ih =>
      rw [List.map_cons, List.any_cons, ih]
      have e1 : decide ((kvT e).1 = kT p) = decide (e.1 = p) := decide_eq_decide.mpr kT_inj
      rw [e1, ← Bool.decide_or]
      refine decide_eq_decide.mpr ?_
      rw [List.map_cons, List.mem_cons]
      exact ⟨fun z => z.imp_left Eq.symm, fun z => z.imp_left Eq.symm⟩
  unfold putK tput
  rw [hany]
  by_cases h : p ∈ E.map Prod.fst
  · rw [if_pos (decide_eq_true h), if_pos h, List.map_map, List.map_map]
    refine List.map_congr_left fun e _ => ?_
    show (if (kvT e).1 = kT p then ((kvT e).1, V.int v) else kvT e) = kvT (if e.1 = p then (e.1, v) else e)
    by_cases h2 : e.1 = p
    · rw [if_pos h2, if_pos (show (kvT e).1 = kT p from kT_inj.mpr h2)]
      rfl
    · rw [if_neg h2, if_neg (show ¬ (kvT e).1 = kT p from fun z => h2 (kT_inj.mp z))]
  · rw [if_neg (by rw [decide_eq_false h]; decide), if_neg h, List.map_append]
    rfl
@[irreducible] def mDGetT (x y : V) (H : Hp) (Q : VK) : Prop := ∃ a kvs k b v, x = .ref a ∧ y = .ref b ∧ Rd H a (.dT kvs) ∧ H b = some (.tup (k.map kV)) ∧ valV kvs k = some v ∧ Q v H
@[irreducible] def mDPutT (x y v : V) (H : Hp) (k : Hp → Prop) : Prop := ∃ a kvs key b, x = .ref a ∧ y = .ref b ∧ H a = some (.dT kvs) ∧ H b = some (.tup (key.map kV)) ∧ kvs.length < 1000000 ∧ k (upd H a (.dT (putK kvs key v)))
@[irreducible] def mDGet2T (x y z : V) (H : Hp) (Q : VK) : Prop := ∃ a kvs k b, x = .ref a ∧ y = .ref b ∧ Rd H a (.dT kvs) ∧ H b = some (.tup (k.map kV)) ∧ Q ((valV kvs k).getD z) H
def mDGetTE (td ty : TE) : TE := fun σ H Q => td σ H fun x H1 => ty σ H1 fun y H2 => mDGetT x y H2 Q
def mSDPutT (td ty tv : TE) : TS := fun D σ H => tv σ H fun v H1 => td σ H1 fun x H2 => ty σ H2 fun y H3 => mDPutT x y v H3 fun H4 => D.nx σ H4
@[irreducible] def mIsDT (x : V) (H : Hp) (A : Prop) : Prop := (∃ a kvs, x = .ref a ∧ Rd H a (.dT kvs)) ∧ A
def mDGet2TE (td ty tz : TE) : TE := fun σ H Q => td σ H fun x H1 => mIsDT x H1 (ty σ H1 fun y H2 => tz σ H2 fun z H3 => mDGet2T x y z H3 Q)
section
variable {a b : Addr} {E : List PK} {p : Int × Int} {v : Int} {H : Hp} {Q : VK}
theorem rd_dgetT (h : Rd H a (.dT (E.map kvT))) (hb : H b = some (.tup [.int p.1, .int p.2])) (e : tget E p = some v) (q : Q (.int v) H) : mDGetT (.ref a) (.ref b) H Q := by
  unfold mDGetT
  exact ⟨a, _, kT p, b, .int v, rfl, rfl, h, hb, by rw [valV_T, e]; rfl, q⟩
theorem rd_dget2T (h : Rd H a (.dT (E.map kvT))) (hb : H b = some (.tup [.int p.1, .int p.2])) (q : Q (.int ((tget E p).getD v)) H) : mDGet2T (.ref a) (.ref b) (.int v) H Q := by
  unfold mDGet2T
  refine ⟨a, _, kT p, b, rfl, rfl, h, hb, ?_⟩
  rw [valV_T]
  cases e : tget E p with
  | none => rw [e] at q; exact q
  | some u => rw [e] at q; exact q
theorem rd_dputT {k : Hp → Prop} (h : H a = some (.dT (E.map kvT))) (hb : H b = some (.tup [.int p.1, .int p.2])) (hz : E.length < 1000000) (q : k (upd H a (.dT ((tput E p v).map kvT)))) : mDPutT (.ref a) (.ref b) (.int v) H k := by
  unfold mDPutT
  refine ⟨a, _, kT p, b, rfl, rfl, h, hb, by rw [List.length_map]; exact hz, ?_⟩
  rw [putK_T]
  exact q
theorem rd_isDT {kvs : List (List Key × V)} {A : Prop} (h : Rd H a (.dT kvs)) (q : A) : mIsDT (.ref a) H A := by
  unfold mIsDT
  exact ⟨⟨a, kvs, rfl, h⟩, q⟩
end
section
variable {X : Cx} {o i e f value : Expr} {td ty tz tv : TE} {pos pos' apos cpos : Pos}
theorem pe_dgetTM (hu : X.A.units + 1 < cLine) (ho : PE X o td) (hi : PE X i ty) (hs : NoSl i := by exact fun _ _ => rfl) : PE X (.Subscript o i pos) (mDGetTE td ty) :=
  pe_weak (pe_dget hu (pe_c ho) (pe_c hi) hs) fun σ H Q q => ⟨_, q, fun x H1 r => ⟨_, r, fun y H2 r => by
    unfold mDGetT at r
    obtain ⟨a, kvs, k, b, v, rfl, rfl, h, hb, hv, r⟩ := r
    exact ⟨a, v, rfl, .inr ⟨kvs, k, b, h, rfl, hb, hv.symm⟩, r⟩⟩⟩
theorem ps_dputTM (hu : X.A.units + 1 < cLine) (ho : PE X o td) (hi : PE X i ty) (hv : PE X value tv) (hs : swapsWith value (some (.Subscript o i pos')) pos.line X.env = pure false := by rfl) : PS X (.Assign [.Subscript o i pos'] value pos) (mSDPutT td ty tv) :=
  ps_weak (ps_dput hu (pe_c ho) (pe_c hi) (pe_c hv) hs) fun D σ H q => ⟨_, q, fun v H1 r => ⟨_, r, fun x H2 r => ⟨_, r, fun y H3 r => by
    unfold mDPutT at r
    obtain ⟨a, kvs, k, b, rfl, rfl, h, hb, hl, r⟩ := r
    exact ⟨a, _, rfl, .inr ⟨kvs, k, b, h, rfl, hb, szl hl, rfl⟩, r⟩⟩⟩⟩
theorem pe_dget2TM (hu : X.A.units + 1 < cLine) (ho : PE X o td) (he : PE X e ty) (hf : PE X f tz) (hbase : attributeBase o "get" X.env (eval o X.env) = eval o X.env := by rfl)
    (hfew : ((backTo cpos (starEach [e, f] X.env)).all (fun x => !x.1) && (backToKw cpos (keywordEach [] X.env)).all (fun x => x.1.isSome)
      && decide ([e, f].length + ([] : List Keyword).length + (if ([] : List Keyword).isEmpty then 0 else 1) < 30)) = true := by rfl)
    (hline : (apos.endLine == cpos.line) = true := by rfl) (htr : backTo cpos (starEach [e, f] X.env) = [(false, eval e X.env), (false, eval f X.env)] := by rfl) : PE X (.Call (.Attribute o "get" apos) [e, f] [] cpos) (mDGet2TE td ty tz) :=
  pe_weak (pe_dget2 hu (pe_c ho) (pe_c he) (pe_c hf) ⟨hbase, hfew, hline, htr⟩) fun σ H Q q => ⟨_, q, fun x H1 r => by
    unfold mIsDT at r
    obtain ⟨⟨a, kvs, rfl, h⟩, r⟩ := r
    exact ⟨a, rfl, .inr ⟨kvs, h⟩, _, r, fun y H2 r => ⟨_, r, fun z H3 r => by
      unfold mDGet2T at r
      obtain ⟨a2, kvs2, k, b, e1, rfl, h2, hb, r⟩ := r
      cases e1
      exact ⟨_, .inr ⟨kvs2, k, b, h2, rfl, hb, rfl⟩, r⟩⟩⟩⟩
end
/-! ### its keys, listed and sorted -/
structure PsAt (H : Hp) (bs : List Addr) (ps : List (Int × Int)) : Prop where
  ln : bs.length = ps.length
  at' : ∀ (i : Nat) (b : Addr) (q : Int × Int), bs[i]? = some b → ps[i]? = some q → H b = some (.tup [.int q.1, .int q.2])
theorem PsAt.mono {H H' : Hp} {bs : List Addr} {ps : List (Int × Int)} (h : PsAt H bs ps) (s : Same H H') : PsAt H' bs ps := ⟨h.ln, fun i b q e1 e2 => s _ _ (h.at' i b q e1 e2)⟩
def prAt (H : Hp) (b : Addr) : Int × Int := match H b with
  | some (.tup [.int i, .int j]) => (i, j)
  | _ => (0, 0)
theorem prAt_of {H : Hp} {b : Addr} {q : Int × Int} (h : H b = some (.tup [.int q.1, .int q.2])) : prAt H b = q := by
  unfold prAt
  rw [h]
theorem PsAt.eq {H : Hp} {bs : List Addr} {ps : List (Int × Int)} (h : PsAt H bs ps) : ps = bs.map (prAt H) := by
  refine List.ext_getElem? fun i => ?_
  rw [List.getElem?_map]
  cases e : bs[i]? with
  | none => exact List.getElem?_eq_none (by rw [← h.ln]; exact List.getElem?_eq_none_iff.mp e)
  | some b =>
    have hi := (List.getElem?_eq_some_iff.mp e).1
    rw [h.ln] at hi
    have e2 := List.getElem?_eq_getElem hi
    rw [e2]
    exact congrArg some (prAt_of (h.at' i b _ e e2)).symm
/-- in the order of pairs -/
def leP (p q : Int × Int) : Prop := p.1 < q.1 ∨ (p.1 = q.1 ∧ p.2 ≤ q.2)
@[irreducible] def mListDT : List V → Hp → VK → Prop := fun xs H Q => ∃ (a : Addr) (E : List PK), xs = [.ref a] ∧ Rd H a (.dT (E.map kvT)) ∧ ∀ bs : List Addr, PsAt H bs (E.map Prod.fst) → NewO (.lst (bs.map V.ref)) H Q
@[irreducible] def mSortDT : List V → Hp → VK → Prop := fun xs H Q => ∃ (a : Addr) (E : List PK), xs = [.ref a] ∧ Rd H a (.dT (E.map kvT)) ∧ ∀ (bs : List Addr) (ps : List (Int × Int)), PsAt H bs ps → ps.Perm (E.map Prod.fst) → ps.Pairwise leP → NewO (.lst (bs.map V.ref)) H Q
@[irreducible] def mSortLP (K : PySem.W.Frag) : List V → Hp → VK → Prop := fun xs H Q => ∃ (a : Addr) (bs0 : List Addr) (ps0 : List (Int × Int)), xs = [.ref a] ∧ SqL K H a (bs0.map V.ref) ∧ PsAt H bs0 ps0 ∧ ∀ (bs : List Addr) (ps : List (Int × Int)), PsAt H bs ps → ps.Perm ps0 → ps.Pairwise leP → NewO (.lst (bs.map V.ref)) H Q
section
variable {K : PySem.W.Frag} {H : Hp} {Q : VK} {a : Addr} {E : List PK}
theorem rd_listDT (h : Rd H a (.dT (E.map kvT))) (q : ∀ bs : List Addr, PsAt H bs (E.map Prod.fst) → NewO (.lst (bs.map V.ref)) H Q) : mListDT [.ref a] H Q := by
  unfold mListDT
  exact ⟨a, E, rfl, h, q⟩
theorem rd_sortDT (h : Rd H a (.dT (E.map kvT))) (q : ∀ (bs : List Addr) (ps : List (Int × Int)), PsAt H bs ps → ps.Perm (E.map Prod.fst) → ps.Pairwise leP → NewO (.lst (bs.map V.ref)) H Q) : mSortDT [.ref a] H Q := by
  unfold mSortDT
  exact ⟨a, E, rfl, h, q⟩
theorem rd_sortLP {bs0 : List Addr} {ps0 : List (Int × Int)} (h : SqL K H a (bs0.map V.ref)) (hp : PsAt H bs0 ps0) (q : ∀ (bs : List Addr) (ps : List (Int × Int)), PsAt H bs ps → ps.Perm ps0 → ps.Pairwise leP → NewO (.lst (bs.map V.ref)) H Q) : mSortLP K [.ref a] H Q := by
  unfold mSortLP
  exact ⟨a, bs0, ps0, rfl, h, hp, q⟩
end
theorem keysP {H : Hp} {bs : List Addr} : ∀ {E : List PK}, IsKeys H (E.map kvT) bs → PsAt H bs (E.map Prod.fst) := by
  unfold IsKeys
  intro E
  induction E generalizing bs with
  | nil =>
    intro h
    cases h
    exact ⟨rfl, fun i b q e => by cases e⟩
  | cons e r ih =>
    intro h
    cases h with
    | cons h1 h2 =>
      have k := ih h2
      refine ⟨congrArg Nat.succ k.ln, fun i b q e1 e2 => ?_⟩
      cases i with
      | zero =>
        cases e1
        cases e2
        exact h1
      | succ i => exact k.at' i b q e1 e2
theorem call_listDTM {X : Cx} (hc : X.calm = true) : CallR X (.type "list") mListDT := fun pins s σ H xs us Q I r q => call_list_dT hc pins s σ H xs us Q I r (by
  unfold mListDT at q
  obtain ⟨a, E, e, h, q⟩ := q
  exact ⟨a, _, e, h, fun p bs hp hk => (q bs (keysP hk)).go p hp⟩)
theorem ref_list : ∀ {xs : List V}, (∀ x ∈ xs, ∃ b : Addr, x = .ref b) → ∃ bs : List Addr, xs = bs.map V.ref
  | [], _ => ⟨[], rfl⟩
  | x :: r, h => by
    obtain ⟨b, rfl⟩ := h x (.head _)
    obtain ⟨bs, rfl⟩ := ref_list fun y hy => h y (.tail _ hy)
    exact ⟨b :: bs, rfl⟩
def prV (H : Hp) (v : V) : Int × Int := match v with
  | .ref b => prAt H b
  | _ => (0, 0)
theorem psAt_sub {H : Hp} {bs0 bs : List Addr} {ps0 : List (Int × Int)} (h : PsAt H bs0 ps0) (hs : ∀ b ∈ bs, b ∈ bs0) : PsAt H bs (bs.map (prAt H)) := by
  refine ⟨by rw [List.length_map], fun i b q e1 e2 => ?_⟩
  rw [List.getElem?_map, e1] at e2
  cases e2
  obtain ⟨j, hj⟩ := List.getElem?_of_mem (hs b (List.mem_of_getElem? e1))
  have hjl := (List.getElem?_eq_some_iff.mp hj).1
  rw [h.ln] at hjl
  have z := h.at' j b _ hj (List.getElem?_eq_getElem hjl)
  rw [prAt_of z]
  exact z
theorem leP_no {p q : Int × Int} (h : SrtO.lexB q p = false) : leP p q := by
  have := SrtO.lexB_no.mp h
  unfold leP
  omega
def unref (v : V) : Addr := match v with
  | .ref b => b
  | _ => 0
theorem refs_perm {bs cs : List Addr} (h : (bs.map V.ref).Perm (cs.map V.ref)) : bs.Perm cs := by
  have k := h.map unref
  rw [List.map_map, List.map_map] at k
  have e : ∀ l : List Addr, l.map (unref ∘ V.ref) = l := fun l => by
    induction l with
    | nil => rfl
    | cons x r ih => rw [List.map_cons, ih]; rfl
  rw [e, e] at k
  exact k
theorem call_sortLPM {X : Cx} : CallR X (.builtin "sorted") (mSortLP X.K) := fun pins s σ H xs us Q I r q => cr_sortedPO pins s σ H xs us Q I r (by
  unfold mSortLP at q
  obtain ⟨a, bs0, ps0, e, hs, hp, q⟩ := q
  refine ⟨a, bs0.map V.ref, prV H, e, hs, fun x hx => ?_, fun ys p srt stb hn => ?_⟩
  · obtain ⟨b, hb, rfl⟩ := List.mem_map.mp hx
    obtain ⟨j, hj⟩ := List.getElem?_of_mem hb
    have hjl := (List.getElem?_eq_some_iff.mp hj).1
    rw [hp.ln] at hjl
    have z := hp.at' j b _ hj (List.getElem?_eq_getElem hjl)
    refine ⟨b, rfl, ?_⟩
    show H b = some (.tup [.int (prAt H b).1, .int (prAt H b).2])
    rw [prAt_of z]
    exact z
  · obtain ⟨bs, rfl⟩ := ref_list (xs := ys) fun x hx => by
      obtain ⟨b, _, rfl⟩ := List.mem_map.mp (stb.perm.mem_iff.mp hx)
      exact ⟨b, rfl⟩
    have pm : bs.Perm bs0 := refs_perm stb.perm
    refine (q bs (bs.map (prAt H)) (psAt_sub hp fun b hb => pm.mem_iff.mp hb) ?_ ?_).go p hn
    · rw [hp.eq]
      exact pm.map _
    · have srt2 := List.pairwise_map.mp srt
      exact List.pairwise_map.mpr (srt2.imp fun {x y} h => leP_no h))
theorem ref_vals : ∀ {xs : List Value}, (∀ x ∈ xs, ∃ b : Addr, x = .ref b) → ∃ bs : List Addr, xs = bs.map Value.ref
  | [], _ => ⟨[], rfl⟩
  | x :: r, h => by
    obtain ⟨b, rfl⟩ := h x (.head _)
    obtain ⟨bs, rfl⟩ := ref_vals fun y hy => h y (.tail _ hy)
    exact ⟨b :: bs, rfl⟩
def vunref (v : Value) : Addr := match v with
  | .ref b => b
  | _ => 0
theorem vrefs_perm {bs cs : List Addr} (h : (bs.map Value.ref).Perm (cs.map Value.ref)) : bs.Perm cs := by
  have k := h.map vunref
  rw [List.map_map, List.map_map] at k
  have e : ∀ l : List Addr, l.map (vunref ∘ Value.ref) = l := fun l => by
    induction l with
    | nil => rfl
    | cons x r ih => rw [List.map_cons, ih]; rfl
  rw [e, e] at k
  exact k
section
open PySem.Spec PyProof.Rows
variable {X : Cx}
theorem call_sortDTM (hcl : X.calm = true) : CallR X (.builtin "sorted") mSortDT := by
  intro pins st σ H xs vals Q inv rv q
  unfold mSortDT at q
  obtain ⟨a, E, rfl, hd, q⟩ := q
  obtain ⟨u, rfl, ru⟩ := vals1 rv
  cases ru
  obtain ⟨z, lo, ks, pr, o, es, ep, ho, hx, hdt, he, hn⟩ := (show ObjOk X.prog X.w H st.heap a (.dT (E.map kvT)) from hd.ok inv.hok)
  have l1 : es.size = ks.length := size_of_entries he
  have l2 : (E.map kvT).length = ks.length := Paired.length pr
  have few : es.size ≤ sizeLine := by omega
  refine (Calls.call_function_entry kind_sorted plain_sorted entry_sorted (args_sorted1 _) ?_)
  unfold Builtin.«sorted»
  refine (wpAny_bind (m := checkCount "sorted" 1 1 _) (wpAny_pure ?_))
  refine (wpAny_bind (PySem.W.kdu_collect (A := X.A.in1) (kdl_raw lo hx hdt) (inv.ok.hd hcl) ho few fun h2 tk acc kp hacc => ?_))
  have hal : acc.toList.length = ks.length := by rw [Array.length_toList, hacc.1, l1]
  have eacc : acc.toList = (ks.map fun y => y.2.1).map Value.ref := by
    refine List.ext_getElem? fun j => ?_
    rw [List.getElem?_map, List.getElem?_map]
    cases hj : acc.toList[j]? with
    | none =>
      have hle := List.getElem?_eq_none_iff.mp hj
      rw [List.getElem?_eq_none (show ks.length ≤ j by omega)]
      all_goals rfl
    | some v =>
      obtain ⟨en, hen, hv⟩ := hacc.2 j v (by rw [← Array.getElem?_toList]; exact hj)
      have qe := entry_at he j
      rw [hen] at qe
      cases hb : ks[j]? with
      | none =>
        rw [hb] at qe
        cases (show some en = none from qe)
      | some b =>
        rw [hb] at qe
        rw [hv, Option.some.inj (show some en = some _ from qe)]
        all_goals rfl
  have keysAt : PsAt H (ks.map fun y => y.2.1) (E.map Prod.fst) := keysP (isKeys_of pr)
  generalize (ks.map fun y => y.2.1) = bs0 at eacc keysAt
  have inv2 : Inv X pins σ H { st with heap := h2, toks := tk } := inv.kept kp
  have hal2 : acc.toList.length ≤ sizeLine := by omega
  refine (wpAny_bind (wpAny_newList ?_ hal2))
  have hnew : (h2.push (seqObj "list" acc.toList.toArray 0)).get? h2.objs.size = some (seqObj "list" acc.toList.toArray 0) := Heap.get?_push_size _ rfl
  show wpAny _ _ _ _ _ { st with heap := h2.push (seqObj "list" acc.toList.toArray 0), toks := tk }
  have pairs : ∀ v ∈ acc.toList, Srt.IsPair (h2.push (seqObj "list" acc.toList.toArray 0)) v (prV H (backV v)).1 (prV H (backV v)).2 := fun v hv => by
    rw [eacc] at hv
    obtain ⟨b, hb, rfl⟩ := List.mem_map.mp hv
    obtain ⟨j, hj⟩ := List.getElem?_of_mem hb
    have hjl := (List.getElem?_eq_some_iff.mp hj).1
    rw [keysAt.ln] at hjl
    have zz := keysAt.at' j b _ hj (List.getElem?_eq_getElem hjl)
    have eb : prV H (backV (Value.ref b)) = (E.map Prod.fst)[j] := prAt_of zz
    rw [eb]
    obtain ⟨_, its2, r2, o2, ho2, hc2, n2, hd2⟩ := inv2.hok _ _ zz
    obtain ⟨u1, u2, rfl, ri, rj⟩ := vals2 r2
    obtain ⟨t1, rfl⟩ := ri
    obtain ⟨t2, rfl⟩ := rj
    exact ⟨b, o2, t1, t2, n2, rfl, Heap.get?_push_of_some _ ho2, hc2, hd2⟩
  refine (wpAny_bind (wpAny_holding (wpAny_call_entry slot_list_sort ⟨_, hnew, rfl⟩ entry_list_sort
    (SrtO.list_sort_ord (s := { st with heap := h2.push (seqObj "list" acc.toList.toArray 0), toks := tk }) (SrtO.swo_lex fun u => prV H (backV u)) hnew hal2 (fun g2 => SrtO.pairs_sortableO (by omega) pairs fun o3 e3 c3 => ?_) fun out g1 g2 => ⟨_, rfl, ?_⟩) (args_list_sort _))))
  · cases (show some o3 = some (seqObj "list" acc.toList.toArray 0) from e3.symm.trans hnew)
    exact absurd (Value.type.inj c3) (by decide)
  obtain ⟨e2, he2⟩ := sortedHeap_at (vs := acc.toList) (out := out.toArray) hnew
  have perm := g2.perm
  rw [eacc] at perm
  obtain ⟨bs, rfl⟩ : ∃ bs : List Addr, out = bs.map Value.ref := ref_vals fun x hx => by
    obtain ⟨b, _, rfl⟩ := List.mem_map.mp (perm.mem_iff.mp hx)
    exact ⟨b, rfl⟩
  have pm : bs.Perm bs0 := vrefs_perm perm
  have hyl : (bs.map V.ref).length ≤ sizeLine := by
    rw [List.length_map, pm.length_eq, keysAt.ln, List.length_map, ← List.length_map (f := kvT)]
    omega
  have good : NewO (.lst (bs.map V.ref)) H Q := by
    refine q bs (bs.map (prAt H)) (psAt_sub keysAt fun b hb => pm.mem_iff.mp hb) ?_ ?_
    · rw [keysAt.eq]
      exact pm.map _
    · exact List.pairwise_map.mpr ((List.pairwise_map.mp g1).imp fun {x y} h => leP_no h)
  refine wpAny_pure ⟨_, rfl, .ref h2.objs.size, upd H h2.objs.size (.lst (bs.map V.ref)), inv2.laid (t' := tk) (fun b u eb => ?_) (Nat.le_refl _)
    (show ObjOk X.prog X.w _ _ _ (.lst (bs.map V.ref)) from ⟨hyl, bs.map Value.ref, e2, vals_refs bs, he2⟩), rfl, good.go _ (inv2.hok.fresh (Nat.le_refl _))⟩
  have hbl : b < h2.objs.size := Heap.lt_size eb
  rw [sortedHeap_old (Nat.ne_of_lt hbl) (by rw [Heap.size_push]; exact Nat.lt_succ_of_lt hbl)]
  exact Heap.get?_push_of_some _ eb
end
/-! ### loops over a tuple, and over a dict whose keys are pairs -/
@[irreducible] def mForT (K : PySem.W.Frag) (tl : TE) (j : Nat) (tb : TS) : TS := fun D σ H => tl σ H fun x H1 => ∃ (a : Addr) (xs : List V) (Pv : Nat → L2.St → Hp → Prop), x = .ref a ∧ SqT K H1 a xs ∧ Pv 0 σ H1 ∧ (∀ i σ' H', i ≤ xs.length → Pv i σ' H' → SqT K H' a xs) ∧
  (∀ i y σ' H', xs[i]? = some y → Pv i σ' H' → tb { D with nx := Pv (i + 1), ct := Pv (i + 1), bk := D.nx } (σ'.set j (some y)) H') ∧ ∀ σ' H', Pv xs.length σ' H' → D.nx σ' H'
theorem rd_forT {K : PySem.W.Frag} {tl : TE} {j : Nat} {tb : TS} {D : Ends} {σ : L2.St} {H : Hp} (h : tl σ H fun x H1 => ∃ (a : Addr) (xs : List V) (Pv : Nat → L2.St → Hp → Prop), x = .ref a ∧ SqT K H1 a xs ∧ Pv 0 σ H1 ∧ (∀ i σ' H', i ≤ xs.length → Pv i σ' H' → SqT K H' a xs) ∧
  (∀ i y σ' H', xs[i]? = some y → Pv i σ' H' → tb { D with nx := Pv (i + 1), ct := Pv (i + 1), bk := D.nx } (σ'.set j (some y)) H') ∧ ∀ σ' H', Pv xs.length σ' H' → D.nx σ' H') : mForT K tl j tb D σ H := by
  unfold mForT
  exact h
/-- the ends of what runs while the thing at d is locked -/
def lkE (d : Addr) (f u : HO) (D : Ends) : Ends := ⟨fun σ' H' => H' d = some f ∧ D.nx σ' (upd H' d u), fun v H' => H' d = some f ∧ D.rt v (upd H' d u), fun σ' H' => H' d = some f ∧ D.bk σ' (upd H' d u), fun σ' H' => H' d = some f ∧ D.ct σ' (upd H' d u)⟩
def ForKT (d : Addr) (od : Obj) (E : List PK) (j : Nat) (tb : TS) (D : Ends) (σ : L2.St) (H1 : Hp) : Prop := ∃ Pv : Nat → L2.St → Hp → Prop, Pv 0 σ H1 ∧ (∀ k σ' H', k ≤ E.length → Pv k σ' H' → H' d = some (.frz od (.dT (E.map kvT)))) ∧
  (∀ k b e σ' H', E[k]? = some e → H' b = some (.tup [.int e.1.1, .int e.1.2]) → Pv k σ' H' → tb { lkE d (.frz od (.dT (E.map kvT))) (.dT (E.map kvT)) D with nx := Pv (k + 1), ct := Pv (k + 1), bk := (lkE d (.frz od (.dT (E.map kvT))) (.dT (E.map kvT)) D).nx } (σ'.set j (some (.ref b))) H') ∧
  ∀ σ' H', Pv E.length σ' H' → D.nx σ' (upd H' d (.dT (E.map kvT)))
@[irreducible] def mForKT (te : TE) (j : Nat) (tb : TS) : TS := fun D σ H => ∃ (d : Addr) (E : List PK), H d = some (.dT (E.map kvT)) ∧ ∀ od, te σ (upd H d (.frz od (.dT (E.map kvT)))) fun x H1 => x = .ref d ∧ H1 d = some (.frz od (.dT (E.map kvT))) ∧ ForKT d od E j tb D σ H1
theorem rd_forKT {te : TE} {j : Nat} {tb : TS} {D : Ends} {σ : L2.St} {H : Hp} (d : Addr) (E : List PK) (hd : H d = some (.dT (E.map kvT))) (h : ∀ od, te σ (upd H d (.frz od (.dT (E.map kvT)))) fun x H1 => x = .ref d ∧ H1 d = some (.frz od (.dT (E.map kvT))) ∧ ForKT d od E j tb D σ H1) : mForKT te j tb D σ H := by
  unfold mForKT
  exact ⟨d, E, hd, h⟩
section
variable {X : Cx} {pos : Pos}
theorem ps_forT {j : Nat} {x : Str} {it : Expr} {body : List Stmt} {tb : TS} {tl : TE} {xpos : Pos} (hp : PassesOwn (model X.prog X.w) X.A X.env X.xe) (hc : X.calm = true) (ha : PE X it tl) (hgt : PG X (.Name x xpos) (gName j)) (hb : PSs X body tb)
    (hs2 : ∀ y, foldedSetIterable it X.env y = pure y := by intro _; rfl) : PS X (.For (.Name x xpos) it body [] pos) (mForT X.K tl j tb) :=
  ps_weak (ps_for hp hc (pi_tup (pe_c ha)) hgt hb hs2) fun D σ H q => by
    unfold mForT at q
    refine ⟨_, q, fun x H1 r => ?_⟩
    obtain ⟨a, xs, Pv, rfl, hx, h0, hl, hs, hd⟩ := r
    refine ⟨a, rfl, ⟨xs, hx⟩, for_it walk_tup Pv h0 hl (fun i y σ' H' H'' hi p yy => ?_) hd⟩
    obtain ⟨rfl, hy⟩ := yy
    exact hs i y σ' _ hy p
theorem ps_forKT {j : Nat} {x : Str} {it : Expr} {body : List Stmt} {tb : TS} {te : TE} {xpos : Pos} (hp : PassesOwn (model X.prog X.w) X.A X.env X.xe) (hc : X.calm = true) (ha : PE X it te) (hgt : PG X (.Name x xpos) (gName j)) (hb : PSs X body tb)
    (hs2 : ∀ y, foldedSetIterable it X.env y = pure y := by intro _; rfl) : PS X (.For (.Name x xpos) it body [] pos) (mForKT te j tb) :=
  ps_weak (ps_lock (ps_for hp hc (pi_keys (pe_c ha)) hgt hb hs2)) fun D σ H q => by
    unfold mForKT at q
    obtain ⟨d, E, hd, q⟩ := q
    refine ⟨d, _, hd, trivial, fun od => ⟨_, q od, fun x H1 r => ?_⟩⟩
    obtain ⟨rfl, h1, Pv, h0, hG, hs, hq⟩ := r
    have lenE : (E.map kvT).length = E.length := List.length_map ..
    refine ⟨d, od, rfl, .inr ⟨_, h1, for_it walk_keysT Pv h0 (fun i σ' H' hi p => hG i σ' H' (by omega) p) (fun i y σ' H' H'' hi p yy => ?_) (fun σ' H' p => ?_)⟩⟩
    · obtain ⟨rfl, k, v, b, e1, rfl, hb2⟩ := yy
      rw [List.getElem?_map] at e1
      obtain ⟨e, he, e2⟩ := Option.map_eq_some_iff.mp e1
      have ek : k = kT e.1 := (congrArg Prod.fst e2).symm
      rw [ek] at hb2
      exact hs i b e σ' _ he hb2 p
    · rw [lenE] at p
      exact ⟨hG _ _ _ (Nat.le_refl _) p, hq σ' H' p⟩
end
/-! ### {(..): v for target in xs} -/
def DcT (D : Addr) (acc : List PK) (P : List PK → Hp → Prop) (y z : V) (H4 : Hp) : Prop := ∃ (p : Int × Int) (v : Int) (b : Addr), y = .ref b ∧ z = .int v ∧ H4 b = some (.tup [.int p.1, .int p.2]) ∧ H4 D = some (.dT (acc.map kvT)) ∧ P (tput acc p v) (upd H4 D (.dT ((tput acc p v).map kvT)))
@[irreducible] def DcWP (J : It) (g : TG) (tk tv : TE) (vs : List Nat) (σ : L2.St) (Q : VK) (H1 : Hp) : Prop := ∃ (n : Nat) (G : Hp → Prop) (Y : Nat → Hp → V → Hp → Prop), Walk J n G Y ∧ n ≤ 100000 ∧ ∀ D, H1 D = none → ∃ Pv : Nat → List PK → Hp → Prop, Pv 0 [] (upd H1 D (.dT [])) ∧
  (∀ i acc H', i ≤ n → acc.length ≤ i → H' D = some (.dT (acc.map kvT)) → Pv i acc H' → G H') ∧
  (∀ i acc x H' H'', i < n → acc.length ≤ i → H' D = some (.dT (acc.map kvT)) → Pv i acc H' → Y i H' x H'' → g x (wipe σ vs) H'' fun σ2 H2 => wipe σ2 vs = wipe σ vs ∧ tk σ2 H2 fun y H3 => tv σ2 H3 fun z H4 => DcT D acc (Pv (i + 1)) y z H4) ∧
  ∀ acc H', acc.length ≤ n → H' D = some (.dT (acc.map kvT)) → Pv n acc H' → Q (.ref D) H'
@[irreducible] def mDcW (wi : TI) (g : TG) (tk tv : TE) (vs : List Nat) : TE := fun σ H Q => wi σ H fun J H1 => DcWP J g tk tv vs σ Q H1
theorem rd_dcW {wi : TI} {g : TG} {tk tv : TE} {vs : List Nat} {σ : L2.St} {H : Hp} {Q : VK} (h : wi σ H fun J H1 => DcWP J g tk tv vs σ Q H1) : mDcW wi g tk tv vs σ H Q := by
  unfold mDcW
  exact h
theorem tput_len (E : List PK) (p : Int × Int) (v : Int) : (tput E p v).length ≤ E.length + 1 := by
  unfold tput
  split
  · rw [List.length_map]
    omega
  · rw [List.length_append]
    exact Nat.le_refl _
theorem dcW_of {g : TG} {tk tv : TE} {wi wi' : TI} {vs : List Nat} {σ : L2.St} {H : Hp} {Q : VK} (hw : IMono wi' wi) (q : mDcW wi' g tk tv vs σ H Q) : tDcT wi (cTG g) tYes (cTE tk) (cTE tv) vs σ H Q := by
  unfold mDcW at q
  refine hw _ _ _ _ (fun J H1 r => ?_) q
  unfold DcWP at r
  obtain ⟨n, G, Y, w, hn, r⟩ := r
  intro D hD
  obtain ⟨Pv, h0, hG, ht, hq⟩ := r D hD
  refine ⟨fun i m H' => m = n - i ∧ i ≤ n ∧ ∃ acc : List PK, acc.length ≤ i ∧ H' D = some (.dT (acc.map kvT)) ∧ Pv i acc H', ⟨n, rfl, Nat.zero_le _, [], Nat.le_refl _, upd_same, h0⟩, fun i m Hb p => ?_⟩
  obtain ⟨rfl, hi, acc, ha, hb, p⟩ := p
  have st := hG i acc Hb hi ha hb p
  by_cases hlt : i < n
  · refine .inr ⟨w.goes i Hb hlt st, fun Hc => i + 1 ≤ n ∧ ∃ acc2 : List PK, acc2.length ≤ i + 1 ∧ Hc D = some (.dT (acc2.map kvT)) ∧ Pv (i + 1) acc2 Hc, fun Hc z => ⟨n - (i + 1), by omega, rfl, z.1, z.2⟩, fun x Hc y => ⟨_, ht i acc x Hb Hc hlt ha hb p (w.yields i Hb x Hc hlt st y), fun σ2 Hd r => ⟨r.1, ?_⟩⟩⟩
    unfold tYes
    dsimp only
    rw [if_pos (rfl : true = true)]
    refine ⟨_, r.2, fun y2 Hf r2 => ⟨_, r2, fun z Hg r3 => ?_⟩⟩
    obtain ⟨pp, v, b, rfl, rfl, hb3, hD3, pn⟩ := r3
    refine ⟨acc.map kvT, kT pp, b, rfl, hb3, hD3, szl (by rw [List.length_map]; omega), ?_⟩
    rw [putK_T]
    have := tput_len acc pp v
    exact ⟨hlt, tput acc pp v, by omega, upd_same, pn⟩
  · have e : i = n := by omega
    subst e
    exact .inl ⟨w.stops Hb st, hq acc Hb ha hb p⟩
theorem pe_dcW {X : Cx} {kx vx tg iter : Expr} {scope : Scope} {own : List (Str × Nat)} {pos : Pos} {wi wi' : TI} {g : TG} {tk tv : TE} (vs : List Nat) (hw : IMono wi' wi) (hu : X.A.units < cLine) (hc : X.calm = true) (hN : X.N.Nodup) (hi : PI X tg iter wi) (ok : BlkOk X.N X.env.scope scope own)
    (pgs : ∀ (sh : Shared) (Hx : Hp) (C : Addr) (cl : List (Str × Addr)) (fp : List Addr), PG (X.blk sh Hx scope (compEnvC scope cl C X.env) fp) tg g)
    (pks : ∀ (sh : Shared) (Hx : Hp) (C : Addr) (cl : List (Str × Addr)) (fp : List Addr), PE (X.blk sh Hx scope (compEnvC scope cl C X.env) fp) kx tk)
    (pvs : ∀ (sh : Shared) (Hx : Hp) (C : Addr) (cl : List (Str × Addr)) (fp : List Addr), PE (X.blk sh Hx scope (compEnvC scope cl C X.env) fp) vx tv)
    (hvs : own.map (·.2) = vs := by rfl) (folded : ∀ x, foldedSetIterable iter X.env x = pure x := by intro _; rfl) : PE X (.DictComp kx vx [⟨tg, iter, [], 0⟩] scope pos) (mDcW wi' g tk tv vs) :=
  pe_weak (pe_dcT hu hc hN hi ok (fun sh Hx C cl fp => pg_c (pgs sh Hx C cl fp)) (fun _ _ _ _ _ => pts_nil) (fun sh Hx C cl fp => pe_c (pks sh Hx C cl fp)) (fun sh Hx C cl fp => pe_c (pvs sh Hx C cl fp)) folded) fun _ _ _ q => by
    rw [hvs]
    exact dcW_of hw q
/-- over a tuple of things that stay, its keys new ones -/
theorem wd_tup {K : PySem.W.Frag} {g : TG} {tk tv : TE} {vs : List Nat} {σ : L2.St} {H1 : Hp} {Q : VK} {a : Addr} {xs : List V} (E : List PK) (nd : (E.map Prod.fst).Nodup) (hn : E.length ≤ 100000) (hl : xs.length = E.length) (hx : SqT K H1 a xs)
    (ht : ∀ (i : Nat) (x : V) (e : PK) (H' : Hp) (Z : V → V → Hp → Prop), xs[i]? = some x → E[i]? = some e → Same H1 H' → (∀ (b : Addr) (H5 : Hp), Same H' H5 → H5 b = some (.tup [.int e.1.1, .int e.1.2]) → Z (.ref b) (.int e.2) H5) →
      g x (wipe σ vs) H' fun σ2 H2 => wipe σ2 vs = wipe σ vs ∧ tk σ2 H2 fun y H3 => tv σ2 H3 fun z H4 => Z y z H4)
    (hq : ∀ D H', H1 D = none → Same H1 H' → H' D = some (.dT (E.map kvT)) → Q (.ref D) H') : DcWP (Itt K a) g tk tv vs σ Q H1 := by
  unfold DcWP
  refine ⟨xs.length, _, _, walk_tup (K := K) (a := a) (xs := xs), by omega, fun D hD => ⟨fun i acc H' => acc = E.take i ∧ Same H1 H', ⟨rfl, same_upd hD⟩, fun i acc H' hi ha hb p => ?_, fun i acc x H' H'' hi ha hb p y => ?_, fun acc H' ha hb p => ?_⟩⟩
  · exact sqt_step hx p.2
  · obtain ⟨rfl, hxi⟩ := y
    obtain ⟨rfl, s⟩ := p
    have hiE : i < E.length := by omega
    refine ht i x E[i] H'' _ hxi (List.getElem?_eq_getElem hiE) s fun b H5 s5 hb5 => ⟨E[i].1, E[i].2, b, rfl, rfl, hb5, s5 _ _ hb, ?_, same_mut (s.trans s5) hD⟩
    have hnew : E[i].1 ∉ (E.take i).map Prod.fst := fun z => by
      obtain ⟨j, hj⟩ := List.getElem?_of_mem z
      rw [List.getElem?_map, List.getElem?_take] at hj
      by_cases hji : j < i
      · rw [if_pos hji, List.getElem?_eq_getElem (by omega)] at hj
        have e1 : E[j].1 = E[i].1 := Option.some.inj hj
        have n1 := (List.pairwise_iff_getElem.mp nd) j i (by rw [List.length_map]; omega) (by rw [List.length_map]; omega) hji
        rw [List.getElem_map, List.getElem_map] at n1
        exact n1 e1
      · rw [if_neg hji] at hj
        cases hj
    unfold tput
    rw [if_neg hnew, List.take_succ, List.getElem?_eq_getElem hiE]
    rfl
  · obtain ⟨rfl, s⟩ := p
    rw [hl, List.take_length] at hb
    exact hq D H' hD s hb
/-- a comprehension over a list, its items new tuples, the target of any form -/
theorem wl_tupsG {K : PySem.W.Frag} {g : TG} {te : TE} {vs : List Nat} {σ : L2.St} {H1 : Hp} {Q : VK} {a : Addr} (xs : List V) (f : Nat → List V) (hx : SqL K H1 a xs) (hn : xs.length ≤ 100000)
    (ht : ∀ (i : Nat) (y : V), xs[i]? = some y → ∀ (H' : Hp) (R : VK) (B : Hp → Prop), Same H1 H' → NewO (.tup (f i)) H' R → g y (wipe σ vs) H' fun σ2 H2 => wipe σ2 vs = wipe σ vs ∧ tYes σ2 H2 fun b H3 => Br b (te σ2 H3 fun y H4 => R y H4) (B H3))
    (hq : ∀ D ps H', H1 D = none → NT H1 D ps ((List.range xs.length).map f) H' → Q (.ref D) H') : LcWP (Itl K a) g tYes te vs σ Q H1 := by
  unfold LcWP
  refine ⟨xs.length, _, _, walk_list (K := K) (a := a) (xs := xs), hn, fun D hD => ⟨fun i acc H' => ∃ ps, acc = ps.map V.ref ∧ NT H1 D ps ((List.range i).map f) H', ⟨[], rfl, NT.start hD⟩, fun i acc H' _ _ _ p => ?_, fun i acc y H' H'' hi ha h2 p yy => ?_, fun acc H' ha h2 p => ?_⟩⟩
  · obtain ⟨ps, rfl, p⟩ := p
    exact p.sm.seq hx
  · obtain ⟨rfl, hy⟩ := yy
    obtain ⟨ps, rfl, p⟩ := p
    refine ht i y hy H'' _ _ p.sm fun t H3 nt s e => ⟨s _ _ h2, ps ++ [t], ?_, ?_⟩
    · rw [List.map_append]
      rfl
    · rw [List.range_succ, List.map_append]
      exact p.next hD nt s e
  · obtain ⟨ps, rfl, p⟩ := p
    exact hq D ps H' hD p
/-! ### all(bs); a list of truth values by a comprehension -/
@[irreducible] def mAll (K : PySem.W.Frag) : List V → Hp → VK → Prop := fun xs H Q => ∃ (a : Addr) (bs : List Bool), xs = [.ref a] ∧ SqL K H a (bs.map V.bl) ∧ Q (.bl (bs.all id)) H
theorem rd_all {K : PySem.W.Frag} {H : Hp} {Q : VK} {a : Addr} {bs : List Bool} (h : SqL K H a (bs.map V.bl)) (q : Q (.bl (bs.all id)) H) : mAll K [.ref a] H Q := by
  unfold mAll
  exact ⟨a, bs, rfl, h, q⟩
theorem call_allM {X : Cx} (hc : X.calm = true) : CallR X (.builtin "all") (mAll X.K) := fun pins s σ H xs us Q I r q => cr_all hc pins s σ H xs us Q I r (by
  unfold mAll at q
  exact q)
theorem wl_boolsL {K : PySem.W.Frag} {j : Nat} {te : TE} {σ : L2.St} {H1 : Hp} {Q : VK} {a : Addr} (ns : List Int) (f : Int → Bool) (hx : SqL K H1 a (ns.map V.int)) (hn : ns.length ≤ 100000)
    (ht : ∀ (n : Int), n ∈ ns → ∀ (H' : Hp) (R : VK), Same H1 H' → R (.bl (f n)) H' → te ((wipe σ [j]).set j (some (.int n))) H' R) (hq : NewO (.lst ((ns.map f).map V.bl)) H1 Q) : LcWP (Itl K a) (gName j) tYes te [j] σ Q H1 := by
  refine wl_list (ns.map V.int) (by rw [List.length_map]; exact hn) fun D hD => ⟨fun i acc H' => acc = ((ns.take i).map f).map V.bl ∧ Same H1 H', ⟨rfl, same_upd hD⟩, fun i acc H' _ _ _ p => sq_step hx p.2, fun i acc y H' hy ha h2 p => ?_, fun acc H' ha h2 p => ?_⟩
  · obtain ⟨rfl, p⟩ := p
    rw [List.getElem?_map] at hy
    obtain ⟨n, hni, rfl⟩ := Option.map_eq_some_iff.mp hy
    show _ ∧ _
    refine ⟨wipe_set rfl, ?_⟩
    show Br true _ _
    refine br_T (ht n (List.mem_of_getElem? hni) H' _ p ⟨h2, ?_, same_mut p hD⟩)
    rw [List.take_succ, hni, List.map_append, List.map_append]
    rfl
  · obtain ⟨rfl, p⟩ := p
    rw [List.length_map, List.take_length] at h2
    exact hq D H' hD p h2
/-! ### not e, by the truth of e -/
def mNotT (K : PySem.W.Frag) (ta : TE) : TE := fun σ H Q => ta σ H fun x H1 => mTru K x H1 fun k H2 => Q (.bl (!k)) H2
theorem pe_notTM {X : Cx} {a : Expr} {ta : TE} {pos : Pos} (ha : PE X a ta) : PE X (.UnaryOp .Not a pos) (mNotT X.K ta) :=
  pe_weak (pe_notT (pe_c ha)) fun σ H Q q => ⟨_, q, fun x H1 r => by
    unfold mTru at r
    obtain ⟨k, h, r⟩ := r
    exact ⟨k, h, r⟩⟩
end My

namespace My
open PySem L2
/-! ### the text by places -/
def topS (i : Nat) : Stmt := PySem.Challenge.pw_bearerwise_k36_senders_that_have_a_piece.main.body.getD i (.Pass ⟨0, 0, 0, 0⟩)
abbrev S_BearerError___init__ : Stmt := inClass (topS 1) 0
abbrev S_is_between : Stmt := topS 6
abbrev S_check_bits : Stmt := topS 7
abbrev S_is_packet : Stmt := topS 8
abbrev S_true_rows : Stmt := topS 10
abbrev S_field_bytes : Stmt := topS 12
abbrev S_pack : Stmt := topS 13
abbrev S_window_size : Stmt := topS 15
abbrev S_short : Stmt := topS 16
abbrev S_distance : Stmt := topS 17
abbrev S_read_short : Stmt := topS 18
abbrev S_u_has_offset : Stmt := topS 26
abbrev S_u_data_widths : Stmt := topS 27
abbrev S_data_piece : Stmt := topS 28
abbrev S_u_part_of : Stmt := topS 29
abbrev S_cut : Stmt := topS 30
abbrev S_u_rows_told : Stmt := topS 33
abbrev S_Sender___init__ : Stmt := inClass (topS 34) 0
abbrev S_Sender_put : Stmt := inClass (topS 34) 1
abbrev S_Sender__first_left : Stmt := inClass (topS 34) 2
abbrev S_Sender__packet : Stmt := inClass (topS 34) 3
abbrev S_Sender__count_sent : Stmt := inClass (topS 34) 4
abbrev S_Sender_send : Stmt := inClass (topS 34) 5
abbrev S_Sender_has_piece : Stmt := inClass (topS 34) 6
abbrev S_Sender_take_status : Stmt := inClass (topS 34) 7
abbrev S_Sender__forget : Stmt := inClass (topS 34) 8
abbrev S_Sender__ask : Stmt := inClass (topS 34) 9
abbrev S_Sender_tick : Stmt := inClass (topS 34) 10
abbrev S_Sender_unconfirmed : Stmt := inClass (topS 34) 11
abbrev S_Sender_waiting : Stmt := inClass (topS 34) 12
abbrev S_Sender_is_idle : Stmt := inClass (topS 34) 13
abbrev S_u_law_cell : Stmt := topS 36
abbrev S_u_law_digits : Stmt := topS 37
abbrev S_u_law_many : Stmt := topS 38
abbrev S_u_law_both : Stmt := topS 39
abbrev S_law : Stmt := topS 40
theorem sc_BearerError___init__ : FnScope ["self"] ["self"] (defScope S_BearerError___init__) := ⟨rfl, rfl, rfl, by decide +kernel, rfl, by decide +kernel, by decide +kernel⟩
theorem sc_is_between : FnScope ["value", "least", "most"] ["value", "least", "most"] (defScope S_is_between) := ⟨rfl, rfl, rfl, by decide +kernel, rfl, by decide +kernel, by decide +kernel⟩
theorem sc_check_bits : FnScope ["bits"] ["bits"] (defScope S_check_bits) := ⟨rfl, rfl, rfl, by decide +kernel, rfl, by decide +kernel, by decide +kernel⟩
theorem sc_is_packet : FnScope ["packet", "most", "one"] ["packet", "most"] (defScope S_is_packet) := ⟨rfl, rfl, rfl, by decide +kernel, rfl, by decide +kernel, by decide +kernel⟩
theorem sc_true_rows : FnScope ["flags", "rows", "at", "flag"] ["flags"] (defScope S_true_rows) := ⟨rfl, rfl, rfl, by decide +kernel, rfl, by decide +kernel, by decide +kernel⟩
theorem sc_field_bytes : FnScope ["widths", "width"] ["widths"] (defScope S_field_bytes) := ⟨rfl, rfl, rfl, by decide +kernel, rfl, by decide +kernel, by decide +kernel⟩
theorem sc_pack : FnScope ["widths", "values", "size", "row", "width", "value", "at"] ["widths", "values"] (defScope S_pack) := ⟨rfl, rfl, rfl, by decide +kernel, rfl, by decide +kernel, by decide +kernel⟩
theorem sc_window_size : FnScope ["bits"] ["bits"] (defScope S_window_size) := ⟨rfl, rfl, rfl, by decide +kernel, rfl, by decide +kernel, by decide +kernel⟩
theorem sc_short : FnScope ["number", "bits"] ["number", "bits"] (defScope S_short) := ⟨rfl, rfl, rfl, by decide +kernel, rfl, by decide +kernel, by decide +kernel⟩
theorem sc_distance : FnScope ["base", "value", "bits"] ["base", "value", "bits"] (defScope S_distance) := ⟨rfl, rfl, rfl, by decide +kernel, rfl, by decide +kernel, by decide +kernel⟩
theorem sc_read_short : FnScope ["value", "base", "behind", "bits", "least"] ["value", "base", "behind", "bits"] (defScope S_read_short) := ⟨rfl, rfl, rfl, by decide +kernel, rfl, by decide +kernel, by decide +kernel⟩
theorem sc_u_has_offset : FnScope ["part"] ["part"] (defScope S_u_has_offset) := ⟨rfl, rfl, rfl, by decide +kernel, rfl, by decide +kernel, by decide +kernel⟩
theorem sc_u_data_widths : FnScope ["bits", "part"] ["bits", "part"] (defScope S_u_data_widths) := ⟨rfl, rfl, rfl, by decide +kernel, rfl, by decide +kernel, by decide +kernel⟩
theorem sc_data_piece : FnScope ["bits", "poll", "number", "part", "offset", "body", "values"] ["bits", "poll", "number", "part", "offset", "body"] (defScope S_data_piece) := ⟨rfl, rfl, rfl, by decide +kernel, rfl, by decide +kernel, by decide +kernel⟩
theorem sc_u_part_of : FnScope ["packet", "start", "end"] ["packet", "start", "end"] (defScope S_u_part_of) := ⟨rfl, rfl, rfl, by decide +kernel, rfl, by decide +kernel, by decide +kernel⟩
theorem sc_cut : FnScope ["bits", "poll", "number", "packet", "start", "stop", "room", "head", "end", "part"] ["bits", "poll", "number", "packet", "start", "stop", "room"] (defScope S_cut) := ⟨rfl, rfl, rfl, by decide +kernel, rfl, by decide +kernel, by decide +kernel⟩
theorem sc_u_rows_told : FnScope ["ranges", "size", "told", "first", "last", "at"] ["ranges", "size"] (defScope S_u_rows_told) := ⟨rfl, rfl, rfl, by decide +kernel, rfl, by decide +kernel, by decide +kernel⟩
theorem sc_Sender___init__ : FnScope ["self", "bits", "window"] ["self", "bits", "window"] (defScope S_Sender___init__) := ⟨rfl, rfl, rfl, by decide +kernel, rfl, by decide +kernel, by decide +kernel⟩
theorem sc_Sender_put : FnScope ["self", "packet"] ["self", "packet"] (defScope S_Sender_put) := ⟨rfl, rfl, rfl, by decide +kernel, rfl, by decide +kernel, by decide +kernel⟩
theorem sc_Sender__first_left : FnScope ["self", "last"] ["self"] (defScope S_Sender__first_left) := ⟨rfl, rfl, rfl, by decide +kernel, rfl, by decide +kernel, by decide +kernel⟩
theorem sc_Sender__packet : FnScope ["self", "number"] ["self", "number"] (defScope S_Sender__packet) := ⟨rfl, rfl, rfl, by decide +kernel, rfl, by decide +kernel, by decide +kernel⟩
theorem sc_Sender__count_sent : FnScope ["self", "left", "end", "number", "_", "stop", "rest"] ["self", "left", "end"] (defScope S_Sender__count_sent) := ⟨rfl, rfl, rfl, by decide +kernel, rfl, by decide +kernel, by decide +kernel⟩
theorem sc_Sender_send : FnScope ["self", "room", "left", "number", "start", "stop", "packet", "cutting", "piece", "end", "_"] ["self", "room"] (defScope S_Sender_send) := ⟨rfl, rfl, rfl, by decide +kernel, rfl, by decide +kernel, by decide +kernel⟩
theorem sc_Sender_has_piece : FnScope ["self", "room", "left", "number", "start", "stop"] ["self", "room"] (defScope S_Sender_has_piece) := ⟨rfl, rfl, rfl, by decide +kernel, rfl, by decide +kernel, by decide +kernel⟩
theorem sc_Sender_take_status : FnScope ["self", "upto", "missing", "stop", "told", "short_number", "first", "last", "number", "below", "confirmed"] ["self", "upto", "missing"] (defScope S_Sender_take_status) := ⟨rfl, rfl, rfl, by decide +kernel, rfl, by decide +kernel, by decide +kernel⟩
theorem sc_Sender__forget : FnScope ["self", "confirmed", "number"] ["self", "confirmed"] (defScope S_Sender__forget) := ⟨rfl, rfl, rfl, by decide +kernel, rfl, by decide +kernel, by decide +kernel⟩
theorem sc_Sender__ask : FnScope ["self", "number", "ranges", "first", "last"] ["self", "number", "ranges"] (defScope S_Sender__ask) := ⟨rfl, rfl, rfl, by decide +kernel, rfl, by decide +kernel, by decide +kernel⟩
theorem sc_Sender_tick : FnScope ["self", "is_quiet"] ["self"] (defScope S_Sender_tick) := ⟨rfl, rfl, rfl, by decide +kernel, rfl, by decide +kernel, by decide +kernel⟩
theorem sc_Sender_unconfirmed : FnScope ["self", "number"] ["self"] (defScope S_Sender_unconfirmed) := ⟨rfl, rfl, rfl, by decide +kernel, rfl, by decide +kernel, by decide +kernel⟩
theorem sc_Sender_waiting : FnScope ["self", "packet"] ["self"] (defScope S_Sender_waiting) := ⟨rfl, rfl, rfl, by decide +kernel, rfl, by decide +kernel, by decide +kernel⟩
theorem sc_Sender_is_idle : FnScope ["self"] ["self"] (defScope S_Sender_is_idle) := ⟨rfl, rfl, rfl, by decide +kernel, rfl, by decide +kernel, by decide +kernel⟩
theorem sc_u_law_cell : FnScope ["script", "k"] ["script", "k"] (defScope S_u_law_cell) := ⟨rfl, rfl, rfl, by decide +kernel, rfl, by decide +kernel, by decide +kernel⟩
theorem sc_u_law_digits : FnScope ["cell", "bases", "digits", "rest", "base", "mixed"] ["cell", "bases"] (defScope S_u_law_digits) := ⟨rfl, rfl, rfl, by decide +kernel, rfl, by decide +kernel, by decide +kernel⟩
theorem sc_u_law_many : FnScope ["script", "few", "many"] ["script", "few", "many"] (defScope S_u_law_many) := ⟨rfl, rfl, rfl, by decide +kernel, rfl, by decide +kernel, by decide +kernel⟩
theorem sc_u_law_both : FnScope ["one", "other", "digits", "packet", "room", "told", "piece", "missing", "upto", "k"] ["one", "other", "digits"] (defScope S_u_law_both) := ⟨rfl, rfl, rfl, by decide +kernel, rfl, by decide +kernel, by decide +kernel⟩
theorem sc_law : FnScope ["script", "bits", "window", "one", "other", "k", "digits"] ["script"] (defScope S_law) := ⟨rfl, rfl, rfl, by decide +kernel, rfl, by decide +kernel, by decide +kernel⟩
/-! ### what the top has written -/
structure Tx (P : Program) (w : World) (K : PySem.W.Frag) (mg : Str → Option Value) (base : Heap) where
  n_all : mg "all" = none
  n_len : mg "len" = none
  n_range : mg "range" = none
  n_int : mg "int" = none
  n_sum : mg "sum" = none
  n_zip : mg "zip" = none
  n_min : mg "min" = none
  n_max : mg "max" = none
  n_isinstance : mg "isinstance" = none
  n_list : mg "list" = none
  n_bool : mg "bool" = none
  n_enumerate : mg "enumerate" = none
  n_sorted : mg "sorted" = none
  g_LEAST_BITS : (∃ t, mg "LEAST_BITS" = some (.int 3 t))
  g_GREATEST_BITS : (∃ t, mg "GREATEST_BITS" = some (.int 6 t))
  g_MOST_BYTES : (∃ t, mg "MOST_BYTES" = some (.int 200 t))
  g_DATA : (∃ t, mg "DATA" = some (.int 0 t))
  g_WHOLE : (∃ t, mg "WHOLE" = some (.int 0 t))
  g_BEGINNING : (∃ t, mg "BEGINNING" = some (.int 1 t))
  g_END : (∃ t, mg "END" = some (.int 2 t))
  g_WITHIN : (∃ t, mg "WITHIN" = some (.int 3 t))
  g_PATIENCE : (∃ t, mg "PATIENCE" = some (.int 4 t))
  C_BearerError : Addr
  g_BearerError : mg "BearerError" = some (.ref C_BearerError)
  C_NotValid : Addr
  g_NotValid : mg "NotValid" = some (.ref C_NotValid)
  C_Sender : Addr
  g_Sender : mg "Sender" = some (.ref C_Sender)
  a_BearerError___init__ : Addr
  d_BearerError___init__ : FuncData
  p_BearerError___init__ : DefAt0 K "__init__" "BearerError.__init__" S_BearerError___init__ ["self"] a_BearerError___init__ d_BearerError___init__
  a_is_between : Addr
  d_is_between : FuncData
  p_is_between : DefAt K mg "is_between" "is_between" S_is_between ["value", "least", "most"] a_is_between d_is_between
  a_check_bits : Addr
  d_check_bits : FuncData
  p_check_bits : DefAt K mg "check_bits" "check_bits" S_check_bits ["bits"] a_check_bits d_check_bits
  a_is_packet : Addr
  d_is_packet : FuncData
  p_is_packet : DefAt K mg "is_packet" "is_packet" S_is_packet ["packet", "most"] a_is_packet d_is_packet
  a_true_rows : Addr
  d_true_rows : FuncData
  p_true_rows : DefAt K mg "true_rows" "true_rows" S_true_rows ["flags"] a_true_rows d_true_rows
  a_field_bytes : Addr
  d_field_bytes : FuncData
  p_field_bytes : DefAt K mg "field_bytes" "field_bytes" S_field_bytes ["widths"] a_field_bytes d_field_bytes
  a_pack : Addr
  d_pack : FuncData
  p_pack : DefAt K mg "pack" "pack" S_pack ["widths", "values"] a_pack d_pack
  a_window_size : Addr
  d_window_size : FuncData
  p_window_size : DefAt K mg "window_size" "window_size" S_window_size ["bits"] a_window_size d_window_size
  a_short : Addr
  d_short : FuncData
  p_short : DefAt K mg "short" "short" S_short ["number", "bits"] a_short d_short
  a_distance : Addr
  d_distance : FuncData
  p_distance : DefAt K mg "distance" "distance" S_distance ["base", "value", "bits"] a_distance d_distance
  a_read_short : Addr
  d_read_short : FuncData
  p_read_short : DefAt K mg "read_short" "read_short" S_read_short ["value", "base", "behind", "bits"] a_read_short d_read_short
  a_u_has_offset : Addr
  d_u_has_offset : FuncData
  p_u_has_offset : DefAt K mg "_has_offset" "_has_offset" S_u_has_offset ["part"] a_u_has_offset d_u_has_offset
  a_u_data_widths : Addr
  d_u_data_widths : FuncData
  p_u_data_widths : DefAt K mg "_data_widths" "_data_widths" S_u_data_widths ["bits", "part"] a_u_data_widths d_u_data_widths
  a_data_piece : Addr
  d_data_piece : FuncData
  p_data_piece : DefAt K mg "data_piece" "data_piece" S_data_piece ["bits", "poll", "number", "part", "offset", "body"] a_data_piece d_data_piece
  a_u_part_of : Addr
  d_u_part_of : FuncData
  p_u_part_of : DefAt K mg "_part_of" "_part_of" S_u_part_of ["packet", "start", "end"] a_u_part_of d_u_part_of
  a_cut : Addr
  d_cut : FuncData
  p_cut : DefAt K mg "cut" "cut" S_cut ["bits", "poll", "number", "packet", "start", "stop", "room"] a_cut d_cut
  a_u_rows_told : Addr
  d_u_rows_told : FuncData
  p_u_rows_told : DefAt K mg "_rows_told" "_rows_told" S_u_rows_told ["ranges", "size"] a_u_rows_told d_u_rows_told
  a_Sender___init__ : Addr
  d_Sender___init__ : FuncData
  p_Sender___init__ : MethAt K C_Sender "__init__" "Sender.__init__" S_Sender___init__ ["self", "bits", "window"] a_Sender___init__ d_Sender___init__
  a_Sender_put : Addr
  d_Sender_put : FuncData
  p_Sender_put : MethAt K C_Sender "put" "Sender.put" S_Sender_put ["self", "packet"] a_Sender_put d_Sender_put
  a_Sender__first_left : Addr
  d_Sender__first_left : FuncData
  p_Sender__first_left : MethAt K C_Sender "_first_left" "Sender._first_left" S_Sender__first_left ["self"] a_Sender__first_left d_Sender__first_left
  a_Sender__packet : Addr
  d_Sender__packet : FuncData
  p_Sender__packet : MethAt K C_Sender "_packet" "Sender._packet" S_Sender__packet ["self", "number"] a_Sender__packet d_Sender__packet
  a_Sender__count_sent : Addr
  d_Sender__count_sent : FuncData
  p_Sender__count_sent : MethAt K C_Sender "_count_sent" "Sender._count_sent" S_Sender__count_sent ["self", "left", "end"] a_Sender__count_sent d_Sender__count_sent
  a_Sender_send : Addr
  d_Sender_send : FuncData
  p_Sender_send : MethAt K C_Sender "send" "Sender.send" S_Sender_send ["self", "room"] a_Sender_send d_Sender_send
  a_Sender_has_piece : Addr
  d_Sender_has_piece : FuncData
  p_Sender_has_piece : MethAt K C_Sender "has_piece" "Sender.has_piece" S_Sender_has_piece ["self", "room"] a_Sender_has_piece d_Sender_has_piece
  a_Sender_take_status : Addr
  d_Sender_take_status : FuncData
  p_Sender_take_status : MethAt K C_Sender "take_status" "Sender.take_status" S_Sender_take_status ["self", "upto", "missing"] a_Sender_take_status d_Sender_take_status
  a_Sender__forget : Addr
  d_Sender__forget : FuncData
  p_Sender__forget : MethAt K C_Sender "_forget" "Sender._forget" S_Sender__forget ["self", "confirmed"] a_Sender__forget d_Sender__forget
  a_Sender__ask : Addr
  d_Sender__ask : FuncData
  p_Sender__ask : MethAt K C_Sender "_ask" "Sender._ask" S_Sender__ask ["self", "number", "ranges"] a_Sender__ask d_Sender__ask
  a_Sender_tick : Addr
  d_Sender_tick : FuncData
  p_Sender_tick : MethAt K C_Sender "tick" "Sender.tick" S_Sender_tick ["self"] a_Sender_tick d_Sender_tick
  a_Sender_unconfirmed : Addr
  d_Sender_unconfirmed : FuncData
  p_Sender_unconfirmed : MethAt K C_Sender "unconfirmed" "Sender.unconfirmed" S_Sender_unconfirmed ["self"] a_Sender_unconfirmed d_Sender_unconfirmed
  a_Sender_waiting : Addr
  d_Sender_waiting : FuncData
  p_Sender_waiting : MethAt K C_Sender "waiting" "Sender.waiting" S_Sender_waiting ["self"] a_Sender_waiting d_Sender_waiting
  a_Sender_is_idle : Addr
  d_Sender_is_idle : FuncData
  p_Sender_is_idle : MethAt K C_Sender "is_idle" "Sender.is_idle" S_Sender_is_idle ["self"] a_Sender_is_idle d_Sender_is_idle
  a_u_law_cell : Addr
  d_u_law_cell : FuncData
  p_u_law_cell : DefAt K mg "_law_cell" "_law_cell" S_u_law_cell ["script", "k"] a_u_law_cell d_u_law_cell
  a_u_law_digits : Addr
  d_u_law_digits : FuncData
  p_u_law_digits : DefAt K mg "_law_digits" "_law_digits" S_u_law_digits ["cell", "bases"] a_u_law_digits d_u_law_digits
  a_u_law_many : Addr
  d_u_law_many : FuncData
  p_u_law_many : DefAt K mg "_law_many" "_law_many" S_u_law_many ["script", "few", "many"] a_u_law_many d_u_law_many
  a_u_law_both : Addr
  d_u_law_both : FuncData
  p_u_law_both : DefAt K mg "_law_both" "_law_both" S_u_law_both ["one", "other", "digits"] a_u_law_both d_u_law_both
  a_law : Addr
  d_law : FuncData
  p_law : DefAt K mg "law" "law" S_law ["script"] a_law d_law
  o_BearerError : OexC K C_BearerError
  i_BearerError : PySem.W.findIn K (.ref C_BearerError) "__init__" = some (some (.ref a_BearerError___init__))
  t_BearerError : PySem.W.typeIn K (.ref a_BearerError___init__) = some (.type "function")
  e_BearerError : ExcC K C_BearerError
  s_BearerError_BearerError : PySem.W.subIn K (.ref C_BearerError) (.ref C_BearerError) = some true
  s_BearerError_NotValid : PySem.W.subIn K (.ref C_BearerError) (.ref C_NotValid) = some false
  y_BearerError : PySem.W.typeIn K (.ref C_BearerError) = some (.type "type")
  l_BearerError : PySem.W.isClsIn K C_BearerError = true
  o_NotValid : OexC K C_NotValid
  i_NotValid : PySem.W.findIn K (.ref C_NotValid) "__init__" = some (some (.ref a_BearerError___init__))
  t_NotValid : PySem.W.typeIn K (.ref a_BearerError___init__) = some (.type "function")
  e_NotValid : ExcC K C_NotValid
  s_NotValid_BearerError : PySem.W.subIn K (.ref C_NotValid) (.ref C_BearerError) = some true
  s_NotValid_NotValid : PySem.W.subIn K (.ref C_NotValid) (.ref C_NotValid) = some true
  y_NotValid : PySem.W.typeIn K (.ref C_NotValid) = some (.type "type")
  l_NotValid : PySem.W.isClsIn K C_NotValid = true
  k_Sender : ClsAt K C_Sender a_Sender___init__
  f_Sender_bits : NoAttr K C_Sender "bits"
  f_Sender_window : NoAttr K C_Sender "window"
  f_Sender_low : NoAttr K C_Sender "low"
  f_Sender_next : NoAttr K C_Sender "next"
  f_Sender__begun : NoAttr K C_Sender "_begun"
  f_Sender__sent : NoAttr K C_Sender "_sent"
  f_Sender__waiting : NoAttr K C_Sender "_waiting"
  f_Sender__asked : NoAttr K C_Sender "_asked"
  f_Sender__quiet_turns : NoAttr K C_Sender "_quiet_turns"
  f_Sender__has_heard : NoAttr K C_Sender "_has_heard"
/-! ### the walk's own steps -/
local macro_rules | `(tactic| walk_at "side") => `(tactic| first
  | exact rfl
  | assumption
  | omega
  | decide
  | exact Nat.le_of_ble_eq_true rfl
  | exact ⟨by omega, by omega⟩
  | exact ⟨by omega, by omega, by omega⟩
  | exact Or.inl ⟨by omega, by omega⟩
  | exact Or.inr ⟨by omega, by omega⟩)
local macro_rules | `(tactic| walk_at "sm") => `(tactic| first
  | assumption
  | exact Same.refl _
  | (apply Own.imm; assumption)
  | (apply Own.same; assumption)
  | (refine Same.trans ?_ (by assumption); walk_at "sm")
  | (apply Same.trans; rotate_left; (apply Own.imm; assumption); walk_at "sm")
  | (apply Same.trans; rotate_left; (apply Own.same; assumption); walk_at "sm"))
local macro_rules | `(tactic| walk_at "mem") => `(tactic| first
  | exact List.Mem.head _
  | (apply List.Mem.tail; walk_at "mem"))
local macro_rules | `(tactic| walk_at "nn") => `(tactic| first
  | assumption
  | (refine same_none (?_ : Same _ _) (by assumption); walk_at "sm"))
local macro_rules | `(tactic| walk_at "hp") => `(tactic| first
  | assumption
  | (apply Own.mem; assumption; walk_at "mem")
  | (apply hp_step; assumption; walk_at "sm"))
local macro_rules | `(tactic| walk_at "sq") => `(tactic| first
  | assumption
  | (apply sq_of; assumption)
  | (apply st_of; assumption)
  | (apply sq_step; assumption; walk_at "sm")
  | (apply sqt_step; assumption; walk_at "sm")
  | (apply sq_of; walk_at "hp")
  | (apply st_of; walk_at "hp"))
local macro_rules | `(tactic| walk_at "rd") => `(tactic| first
  | refine ⟨_, rfl, ?_⟩
  | refine ⟨_, _, rfl, rfl, ?_⟩
  | refine Or.inl ⟨_, rfl, ?_⟩
  | refine Or.inr ⟨_, rfl, ?_⟩
  | refine ⟨_, _, _, rfl, ?_⟩
  | with_reducible refine br_nonI ?_
  | with_reducible refine br_nonR ?_
  | with_reducible refine br_nonN ?_
  | with_reducible refine br_xnonI ?_
  | with_reducible refine br_xnonR ?_
  | with_reducible refine br_xnonN ?_
  | refine And.intro (by walk_at "side") ?_
  | refine rd_tup ?_
  | refine rd_lst ?_
  | with_reducible refine br_F ?_
  | with_reducible refine br_T ?_
  | with_reducible refine br_nF ?_
  | with_reducible refine br_nT ?_
  | refine ⟨_, rfl, rfl, ?_⟩
  | with_reducible refine rd_yes ?_
  | refine rd_isiIB ?_
  | refine rd_isiII ?_
  | refine rd_getF (by walk_at "hp") rfl ?_
  | refine rd_ins (by walk_at "hp") rfl ?_
  | refine rd_din (by walk_at "hp") ?_
  | refine rd_dnotin (by walk_at "hp") ?_
  | refine rd_truB ?_
  | refine rd_truL (by walk_at "sq") ?_
  | refine rd_sum (by walk_at "sq") ?_
  | refine rd_lenI (by walk_at "sq") ?_
  | refine rd_len (by walk_at "sq") ?_
  | refine ⟨_, _, rfl, (show _ = some _ from by walk_at "hp"), ?_⟩)

section
variable {P : Program} {w : World} {K : PySem.W.Frag} {mg : Str → Option Value} {base : Heap}
theorem ok_BearerError___init__ (T : Tx P w K mg base) : FnOk P w K mg base CX0 1 T.a_BearerError___init__ T.d_BearerError___init__ ["self"] spInit0 := by
  refine T.p_BearerError___init__.F.ok sc_BearerError___init__ (fun vs H Q E h => ?_) (fun cdv A outer s H vs Q E hr h => ?_)
  · obtain ⟨a, rfl, _⟩ := h
    rfl
  · obtain ⟨a, rfl, q⟩ := h
    exact ⟨_, pss_one ps_pass, q⟩
theorem Tx.x_BearerError (T : Tx P w K mg base) : PlainExc P w K mg base "BearerError" T.C_BearerError T.a_BearerError___init__ T.d_BearerError___init__ := ⟨T.o_BearerError, T.i_BearerError, T.t_BearerError, ok_BearerError___init__ T, T.p_BearerError___init__.b, T.g_BearerError⟩
theorem Tx.m_BearerError_BearerError (T : Tx P w K mg base) : PySem.W.exmOne K (.ref T.C_BearerError) (.ref T.C_BearerError) = some true := PySem.W.exm_ref T.o_BearerError.exC T.e_BearerError.hd T.y_BearerError T.s_BearerError_BearerError
theorem Tx.m_BearerError_NotValid (T : Tx P w K mg base) : PySem.W.exmOne K (.ref T.C_BearerError) (.ref T.C_NotValid) = some false := PySem.W.exm_ref T.o_NotValid.exC T.e_NotValid.hd T.y_NotValid T.s_BearerError_NotValid
theorem Tx.x_NotValid (T : Tx P w K mg base) : PlainExc P w K mg base "NotValid" T.C_NotValid T.a_BearerError___init__ T.d_BearerError___init__ := ⟨T.o_NotValid, T.i_NotValid, T.t_NotValid, ok_BearerError___init__ T, T.p_BearerError___init__.b, T.g_NotValid⟩
theorem Tx.m_NotValid_BearerError (T : Tx P w K mg base) : PySem.W.exmOne K (.ref T.C_NotValid) (.ref T.C_BearerError) = some true := PySem.W.exm_ref T.o_BearerError.exC T.e_BearerError.hd T.y_BearerError T.s_NotValid_BearerError
theorem Tx.m_NotValid_NotValid (T : Tx P w K mg base) : PySem.W.exmOne K (.ref T.C_NotValid) (.ref T.C_NotValid) = some true := PySem.W.exm_ref T.o_NotValid.exC T.e_NotValid.hd T.y_NotValid T.s_NotValid_NotValid
def sp_window_size (K : PySem.W.Frag) : Sp := fun vs H Q _ => ∃ b : Int, vs = [.int b] ∧ 1 ≤ b ∧ b ≤ 1000 ∧ Q (.int (2 ^ (b - 1).toNat)) H
@[irreducible] def ip_window_size (K : PySem.W.Frag) : Sp := sp_window_size K
theorem op_window_size {K : PySem.W.Frag} {vs : List V} {H : Hp} {Q : VK} {E : XK} (h : sp_window_size K vs H Q E) : ip_window_size K vs H Q E := by
  unfold ip_window_size
  exact h
theorem un_window_size {K : PySem.W.Frag} {vs : List V} {H : Hp} {Q : VK} {E : XK} (h : ip_window_size K vs H Q E) : sp_window_size K vs H Q E := by
  unfold ip_window_size at h
  exact h
theorem ok_window_size (T : Tx P w K mg base) : FnOk P w K mg base CX0 1 T.a_window_size T.d_window_size ["bits"] (ip_window_size K) := by
  refine T.p_window_size.F.ok sc_window_size (fun vs H Q E h => ?_) (fun cdv A outer s H vs Q E hr h => ?_)
  · obtain ⟨b, rfl, h1, h2, q⟩ := un_window_size h
    rfl
  · obtain ⟨b, rfl, h1, h2, q⟩ := un_window_size h
    refine ⟨_, (pss_one (ps_ret (pe_op op_shl1M pe_int (pe_op op_subM (pv 0) pe_int)))), ?_⟩
    (repeat walk_at "rd")
    exact q
def sp_short (K : PySem.W.Frag) : Sp := fun vs H Q _ => ∃ n b : Int, vs = [.int n, .int b] ∧ 0 ≤ b ∧ b ≤ 1000 ∧ Q (.int (n % 2 ^ b.toNat)) H
@[irreducible] def ip_short (K : PySem.W.Frag) : Sp := sp_short K
theorem op_short {K : PySem.W.Frag} {vs : List V} {H : Hp} {Q : VK} {E : XK} (h : sp_short K vs H Q E) : ip_short K vs H Q E := by
  unfold ip_short
  exact h
theorem un_short {K : PySem.W.Frag} {vs : List V} {H : Hp} {Q : VK} {E : XK} (h : ip_short K vs H Q E) : sp_short K vs H Q E := by
  unfold ip_short at h
  exact h
theorem ok_short (T : Tx P w K mg base) : FnOk P w K mg base CX0 1 T.a_short T.d_short ["number", "bits"] (ip_short K) := by
  refine T.p_short.F.ok sc_short (fun vs H Q E h => ?_) (fun cdv A outer s H vs Q E hr h => ?_)
  · obtain ⟨n, b, rfl, h1, h2, q⟩ := un_short h
    rfl
  · obtain ⟨n, b, rfl, h1, h2, q⟩ := un_short h
    refine ⟨_, (pss_one (ps_ret (pe_op op_modM (pv 0) (pe_op op_shl1M pe_int (pv 1))))), ?_⟩
    (repeat walk_at "rd")
    refine ⟨two_pos _, ?_⟩
    exact q
def sp_distance (K : PySem.W.Frag) : Sp := fun vs H Q _ => ∃ n v b : Int, vs = [.int n, .int v, .int b] ∧ 0 ≤ b ∧ b ≤ 1000 ∧ Q (.int ((v - n) % 2 ^ b.toNat)) H
@[irreducible] def ip_distance (K : PySem.W.Frag) : Sp := sp_distance K
theorem op_distance {K : PySem.W.Frag} {vs : List V} {H : Hp} {Q : VK} {E : XK} (h : sp_distance K vs H Q E) : ip_distance K vs H Q E := by
  unfold ip_distance
  exact h
theorem un_distance {K : PySem.W.Frag} {vs : List V} {H : Hp} {Q : VK} {E : XK} (h : ip_distance K vs H Q E) : sp_distance K vs H Q E := by
  unfold ip_distance at h
  exact h
theorem ok_distance (T : Tx P w K mg base) : FnOk P w K mg base CX0 1 T.a_distance T.d_distance ["base", "value", "bits"] (ip_distance K) := by
  refine T.p_distance.F.ok sc_distance (fun vs H Q E h => ?_) (fun cdv A outer s H vs Q E hr h => ?_)
  · obtain ⟨n, v, b, rfl, h1, h2, q⟩ := un_distance h
    rfl
  · obtain ⟨n, v, b, rfl, h1, h2, q⟩ := un_distance h
    refine ⟨_, (pss_one (ps_ret (pe_op op_modM (pe_op op_subM (pv 1) (pv 0)) (pe_op op_shl1M pe_int (pv 2))))), ?_⟩
    (repeat walk_at "rd")
    refine ⟨two_pos _, ?_⟩
    exact q
def sp_read_short (K : PySem.W.Frag) : Sp := fun vs H Q _ => ∃ v n d b : Int, vs = [.int v, .int n, .int d, .int b] ∧ 0 ≤ b ∧ b ≤ 1000 ∧ Q (.int (n - d + (v - (n - d)) % 2 ^ b.toNat)) H
@[irreducible] def ip_read_short (K : PySem.W.Frag) : Sp := sp_read_short K
theorem op_read_short {K : PySem.W.Frag} {vs : List V} {H : Hp} {Q : VK} {E : XK} (h : sp_read_short K vs H Q E) : ip_read_short K vs H Q E := by
  unfold ip_read_short
  exact h
theorem un_read_short {K : PySem.W.Frag} {vs : List V} {H : Hp} {Q : VK} {E : XK} (h : ip_read_short K vs H Q E) : sp_read_short K vs H Q E := by
  unfold ip_read_short at h
  exact h
theorem ok_read_short (T : Tx P w K mg base) : FnOk P w K mg base CX0 2 T.a_read_short T.d_read_short ["value", "base", "behind", "bits"] (ip_read_short K) := by
  have G_distance := ok_distance T
  refine T.p_read_short.F.ok sc_read_short (fun vs H Q E h => ?_) (fun cdv A outer s H vs Q E hr h => ?_)
  · obtain ⟨v, n, d, b, rfl, h1, h2, q⟩ := un_read_short h
    rfl
  · obtain ⟨v, n, d, b, rfl, h1, h2, q⟩ := un_read_short h
    refine ⟨_, (pss_cons (ps_set (i := 4) sc_read_short.nd rfl (Or.inl rfl) (pe_op op_subM (pv 1) (pv 2))) (pss_one (ps_ret (pe_op op_addM (pv 4) (pe_call G_distance (hr.mono (by decide)) rfl T.p_distance.m T.p_distance.F.kp T.p_distance.b .nil pass0 (pa_cons (pv 4) (pa_cons (pv 0) (pa_cons (pv 3) pa_nil)))))))), ?_⟩
    (repeat walk_at "rd")
    refine op_distance ⟨_, _, _, rfl, h1, h2, ?_⟩
    (repeat walk_at "rd")
    exact q
end
inductive PrsAt (B : Hp) : List Addr → List (Int × Int) → Prop
  | nil : PrsAt B [] []
  | cons {p : Addr} {ps : List Addr} {i j : Int} {r : List (Int × Int)} (h : B p = some (.tup [.int i, .int j])) (t : PrsAt B ps r) : PrsAt B (p :: ps) ((i, j) :: r)
theorem PrsAt.mono {B B' : Hp} {ps : List Addr} {r : List (Int × Int)} (h : PrsAt B ps r) (s : Same B B') : PrsAt B' ps r := by
  induction h with
  | nil => exact .nil
  | cons h _ ih => exact .cons (s _ _ h) ih
theorem PrsAt.snoc {B : Hp} {ps : List Addr} {r : List (Int × Int)} {p : Addr} {i j : Int} (h : PrsAt B ps r) (e : B p = some (.tup [.int i, .int j])) : PrsAt B (ps ++ [p]) (r ++ [(i, j)]) := by
  induction h with
  | nil => exact .cons e .nil
  | cons h _ ih => exact .cons h ih
theorem PrsAt.len {B : Hp} {ps : List Addr} {r : List (Int × Int)} (h : PrsAt B ps r) : ps.length = r.length := by
  induction h with
  | nil => rfl
  | cons _ _ ih => rw [List.length_cons, List.length_cons, ih]
section
variable {P : Program} {w : World} {K : PySem.W.Frag} {mg : Str → Option Value} {base : Heap}
end
/-! fields: the mathematics -/
def rowP (ps : List (Int × Int)) : Int := ps.foldl (fun r p => r * 2 ^ p.1.toNat + p.2) 0
def okP (p : Int × Int) : Bool := decide (1 ≤ p.1) && decide (0 ≤ p.2) && decide (p.2 < 2 ^ p.1.toNat)
def okF (ws vs : List Int) : Bool := decide (ws.length = vs.length) && (ws.zip vs).all okP
def wok (ws : List Int) : Bool := ws.all fun w => decide (1 ≤ w)
def sizeF (ws : List Int) : Int := (ws.sum + 7) / 8
def byteAt (R : Int) (size i : Nat) : Int := R / 2 ^ (8 * ((size : Int) - 1 - (i : Int))).toNat % 256
def bytesOf (R : Int) (size : Nat) : List Int := (List.range size).map (byteAt R size)
def packF (ws vs : List Int) : List Int := bytesOf (rowP (ws.zip vs) * 2 ^ (8 * sizeF ws - ws.sum).toNat) (sizeF ws).toNat
def num256 (ds : List Int) : Int := ds.foldl (fun r d => r * 2 ^ 8 + d) 0
def fldF (N : Int) : Int → List Int → List Int
  | _, [] => []
  | u, w :: ws => N / 2 ^ (u - w).toNat % 2 ^ w.toNat :: fldF N (u - w) ws
def unpF (ws ds : List Int) : List Int := fldF (num256 (ds.take (sizeF ws).toNat)) (8 * sizeF ws) ws

theorem pow_nn (k : Nat) : (0 : Int) < 2 ^ k := Int.pow_pos (by decide)
theorem pow_add2 (a b : Nat) : (2 : Int) ^ (a + b) = 2 ^ a * 2 ^ b := Int.pow_add ..
theorem rowP_snoc (ps : List (Int × Int)) (p : Int × Int) : rowP (ps ++ [p]) = rowP ps * 2 ^ p.1.toNat + p.2 := by
  unfold rowP
  rw [List.foldl_append]
  rfl
theorem num256_snoc (ds : List Int) (d : Int) : num256 (ds ++ [d]) = num256 ds * 2 ^ 8 + d := by
  unfold num256
  rw [List.foldl_append]
  rfl
theorem okP_iff {p : Int × Int} : okP p = true ↔ 1 ≤ p.1 ∧ 0 ≤ p.2 ∧ p.2 < 2 ^ p.1.toNat := by
  unfold okP
  simp only [Bool.and_eq_true, decide_eq_true_eq, and_assoc]
theorem wok_iff {ws : List Int} : wok ws = true ↔ ∀ w ∈ ws, 1 ≤ w := by
  unfold wok
  simp only [List.all_eq_true, decide_eq_true_eq]
theorem sum_nn {ws : List Int} (h : ∀ w ∈ ws, 0 ≤ w) : 0 ≤ ws.sum := by
  induction ws with
  | nil => exact Int.le_refl 0
  | cons w r ih =>
    rw [List.sum_cons]
    have := h w List.mem_cons_self
    have := ih fun x hx => h x (List.mem_cons_of_mem _ hx)
    omega
theorem snoc_ind {α : Type} {P : List α → Prop} (h0 : P []) (hs : ∀ l x, P l → P (l ++ [x])) : ∀ l, P l := by
  intro l
  have : ∀ n, ∀ l : List α, l.length = n → P l := by
    intro n
    induction n with
    | zero =>
      intro l hl
      rw [List.eq_nil_of_length_eq_zero hl]
      exact h0
    | succ n ih =>
      intro l hl
      have hne : l ≠ [] := by
        intro e
        rw [e] at hl
        cases hl
      rw [← List.dropLast_concat_getLast hne]
      exact hs _ _ (ih _ (by rw [List.length_dropLast]; omega))
  exact this _ l rfl
theorem rowP_bound : ∀ ps : List (Int × Int), ps.all okP = true → 0 ≤ rowP ps ∧ rowP ps < 2 ^ (ps.map Prod.fst).sum.toNat := by
  refine snoc_ind ?_ ?_
  · intro _
    exact ⟨Int.le_refl 0, by decide⟩
  · intro ps p ih h
    rw [List.all_append, Bool.and_eq_true] at h
    obtain ⟨h1, h2⟩ := h
    have hp : okP p = true := by simpa using h2
    obtain ⟨a, b, c⟩ := okP_iff.mp hp
    obtain ⟨i1, i2⟩ := ih h1
    have hs : 0 ≤ (ps.map Prod.fst).sum := sum_nn fun w hw => by
      obtain ⟨q, hq, rfl⟩ := List.mem_map.mp hw
      have := okP_iff.mp (List.all_eq_true.mp h1 q hq)
      omega
    rw [rowP_snoc, List.map_append, List.sum_append]
    have e : ((ps.map Prod.fst).sum + ([p].map Prod.fst).sum).toNat = (ps.map Prod.fst).sum.toNat + p.1.toNat := by
      have : ([p].map Prod.fst).sum = p.1 := by simp
      rw [this]
      omega
    rw [e, pow_add2]
    have hw := pow_nn p.1.toNat
    refine ⟨Int.add_nonneg (Int.mul_nonneg i1 (Int.le_of_lt hw)) b, ?_⟩
    have : rowP ps * 2 ^ p.1.toNat ≤ (2 ^ (ps.map Prod.fst).sum.toNat - 1) * 2 ^ p.1.toNat := Int.mul_le_mul_of_nonneg_right (by omega) (Int.le_of_lt hw)
    rw [Int.sub_mul, Int.one_mul] at this
    omega
theorem num256_bound : ∀ ds : List Int, (∀ d ∈ ds, 0 ≤ d ∧ d < 256) → 0 ≤ num256 ds ∧ num256 ds < 2 ^ (8 * ds.length) := by
  refine snoc_ind ?_ ?_
  · intro _
    exact ⟨Int.le_refl 0, by decide⟩
  · intro ds d ih h
    obtain ⟨i1, i2⟩ := ih fun x hx => h x (List.mem_append_left _ hx)
    obtain ⟨a, b⟩ := h d (List.mem_append_right _ List.mem_cons_self)
    rw [num256_snoc, List.length_append, List.length_singleton, Nat.mul_add, pow_add2]
    have e : (2 : Int) ^ (8 * 1) = 256 := by decide
    have e2 : (2 : Int) ^ 8 = 256 := by decide
    rw [e]
    omega
/-- one number cut into bytes, read again -/
theorem bytes_split (R : Int) (n : Nat) : ∀ i, i ≤ n → num256 ((List.range i).map (byteAt R n)) = R / 2 ^ (8 * (n - i)) % 2 ^ (8 * i) := by
  intro i
  induction i with
  | zero =>
    intro _
    show (0 : Int) = _ % 2 ^ (8 * 0)
    simp
  | succ i ih =>
    intro hi
    have h1 := ih (by omega)
    rw [List.range_succ, List.map_append, List.map_singleton, num256_snoc, h1]
    unfold byteAt
    have e1 : (8 * ((n : Int) - 1 - (i : Int))).toNat = 8 * (n - (i + 1)) := by omega
    rw [e1]
    have e2 : 8 * (n - i) = 8 * (n - (i + 1)) + 8 := by omega
    rw [e2, pow_add2, ← Int.ediv_ediv_of_nonneg (Int.le_of_lt (pow_nn _))]
    generalize R / 2 ^ (8 * (n - (i + 1))) = x
    have e3 : 8 * (i + 1) = 8 * i + 8 := by omega
    rw [e3, pow_add2]
    have e4 : (2 : Int) ^ 8 = 256 := by decide
    rw [e4]
    generalize hM : (2 : Int) ^ (8 * i) = M
    have hM0 : 0 < M := by rw [← hM]; exact pow_nn _
    have k := Int.emod_nonneg x (show M * 256 ≠ 0 by omega)
    have q1 := Int.mul_ediv_add_emod x (M * 256)
    have q2 := Int.mul_ediv_add_emod (x / 256) M
    have q3 := Int.mul_ediv_add_emod x 256
    have b2 := Int.emod_nonneg (x / 256) (show M ≠ 0 by omega)
    have b2' := Int.emod_lt_of_pos (x / 256) hM0
    have b3 := Int.emod_nonneg x (show (256 : Int) ≠ 0 by omega)
    have b3' := Int.emod_lt_of_pos x (show (0 : Int) < 256 by omega)
    have ed : x / (M * 256) = x / 256 / M := by
      rw [Int.mul_comm M 256, Int.ediv_ediv_of_nonneg (by decide)]
    rw [ed] at q1
    generalize hy : x / 256 / M = y at *
    have e5 : M * 256 * y = 256 * (M * y) := by rw [Int.mul_comm M 256, Int.mul_assoc]
    rw [e5] at q1
    omega
theorem bytes_num {R : Int} {n : Nat} (h0 : 0 ≤ R) (h1 : R < 2 ^ (8 * n)) : num256 (bytesOf R n) = R := by
  have e := bytes_split R n n (Nat.le_refl n)
  unfold bytesOf
  rw [e, Nat.sub_self, Nat.mul_zero, Int.pow_zero, Int.ediv_one]
  exact Int.emod_eq_of_lt h0 h1
theorem byteAt_bound (R : Int) (n i : Nat) : 0 ≤ byteAt R n i ∧ byteAt R n i < 256 := by
  unfold byteAt
  omega
theorem bytesOf_length (R : Int) (n : Nat) : (bytesOf R n).length = n := by
  unfold bytesOf
  rw [List.length_map, List.length_range]
/-- the fields read again -/
theorem fld_back : ∀ (ps : List (Int × Int)) (A : Int) (pad : Nat), ps.all okP = true → 0 ≤ A →
    fldF ((A * 2 ^ (ps.map Prod.fst).sum.toNat + rowP ps) * 2 ^ pad) ((ps.map Prod.fst).sum + pad) (ps.map Prod.fst) = ps.map Prod.snd := by
  intro ps
  induction ps with
  | nil => intro A pad _ _; rfl
  | cons p r ih =>
    intro A pad h hA
    rw [List.all_cons, Bool.and_eq_true] at h
    obtain ⟨hp, hr⟩ := h
    obtain ⟨a, b, c⟩ := okP_iff.mp hp
    have hs : 0 ≤ (r.map Prod.fst).sum := sum_nn fun w hw => by
      obtain ⟨q, hq, rfl⟩ := List.mem_map.mp hw
      have := okP_iff.mp (List.all_eq_true.mp hr q hq)
      omega
    -- rowP (p :: r) = p.2 * 2^S + rowP r
    have hrow : ∀ (l : List (Int × Int)) (z : Int), l.all okP = true → l.foldl (fun r p => r * 2 ^ p.1.toNat + p.2) z = z * 2 ^ (l.map Prod.fst).sum.toNat + rowP l := by
      intro l
      induction l with
      | nil =>
        intro z _
        show z = z * 2 ^ (0 : Int).toNat + 0
        simp
      | cons q t ih2 =>
        intro z hl
        rw [List.all_cons, Bool.and_eq_true] at hl
        obtain ⟨hq, ht⟩ := hl
        have hq1 := okP_iff.mp hq
        have ht0 : 0 ≤ (t.map Prod.fst).sum := sum_nn fun w hw => by
          obtain ⟨q, hq, rfl⟩ := List.mem_map.mp hw
          have := okP_iff.mp (List.all_eq_true.mp ht q hq)
          omega
        rw [List.foldl_cons, ih2 _ ht]
        show _ = z * 2 ^ (q.1 + (t.map Prod.fst).sum).toNat + List.foldl _ (0 * 2 ^ q.1.toNat + q.2) t
        rw [ih2 _ ht]
        have e : (q.1 + (t.map Prod.fst).sum).toNat = q.1.toNat + (t.map Prod.fst).sum.toNat := by omega
        rw [e, pow_add2, Int.zero_mul, Int.zero_add, Int.add_mul, Int.mul_assoc]
        omega
    have e1 : rowP (p :: r) = p.2 * 2 ^ (r.map Prod.fst).sum.toNat + rowP r := by
      show List.foldl _ (0 * 2 ^ p.1.toNat + p.2) r = _
      rw [hrow r _ hr, Int.zero_mul, Int.zero_add]
    have e2 : ((p :: r).map Prod.fst).sum = p.1 + (r.map Prod.fst).sum := by simp
    rw [e1, e2]
    have e3 : (p.1 + (r.map Prod.fst).sum).toNat = p.1.toNat + (r.map Prod.fst).sum.toNat := by omega
    rw [e3, pow_add2]
    obtain ⟨r1, r2⟩ := rowP_bound r hr
    generalize hS : (r.map Prod.fst).sum = S at *
    generalize hR : rowP r = R at *
    have eN : (A * (2 ^ p.1.toNat * 2 ^ S.toNat) + (p.2 * 2 ^ S.toNat + R)) = (A * 2 ^ p.1.toNat + p.2) * 2 ^ S.toNat + R := by
      rw [Int.add_mul, Int.mul_assoc]
      omega
    rw [eN]
    show fldF _ _ (p.1 :: r.map Prod.fst) = p.2 :: r.map Prod.snd
    show _ :: _ = _
    have eu : p.1 + S + (pad : Int) - p.1 = S + pad := by omega
    rw [eu, ih (A * 2 ^ p.1.toNat + p.2) pad hr (Int.add_nonneg (Int.mul_nonneg hA (Int.le_of_lt (pow_nn _))) b)]
    congr 1
    have e4 : (S + (pad : Int)).toNat = S.toNat + pad := by omega
    rw [e4, pow_add2, Int.mul_ediv_mul_of_pos_left _ _ (pow_nn pad)]
    rw [Int.add_comm (_ * 2 ^ S.toNat) R, Int.add_mul_ediv_right _ _ (Int.ne_of_gt (pow_nn S.toNat)), Int.ediv_eq_zero_of_lt r1 r2, Int.zero_add, Int.add_comm, Int.add_mul_emod_self_right]
    exact Int.emod_eq_of_lt b c
theorem zip_fst {ws vs : List Int} (h : ws.length = vs.length) : (ws.zip vs).map Prod.fst = ws := List.map_fst_zip (by omega)
theorem zip_snd {ws vs : List Int} (h : ws.length = vs.length) : (ws.zip vs).map Prod.snd = vs := List.map_snd_zip (by omega)
theorem okF_wok {ws vs : List Int} (h : okF ws vs = true) : wok ws = true := by
  unfold okF at h
  rw [Bool.and_eq_true, decide_eq_true_eq] at h
  rw [wok_iff, ← zip_fst h.1]
  intro w hw
  obtain ⟨q, hq, rfl⟩ := List.mem_map.mp hw
  exact (okP_iff.mp (List.all_eq_true.mp h.2 q hq)).1
/-- what was packed is read again, whatever stands behind -/
theorem unp_pack {ws vs es : List Int} (h : okF ws vs = true) : unpF ws (packF ws vs ++ es) = vs := by
  have hw := okF_wok h
  unfold okF at h
  rw [Bool.and_eq_true, decide_eq_true_eq] at h
  obtain ⟨hl, hp⟩ := h
  have hs : 0 ≤ ws.sum := sum_nn fun w hw' => by
    have := wok_iff.mp hw w hw'
    omega
  obtain ⟨b1, b2⟩ := rowP_bound _ hp
  rw [zip_fst hl] at b2
  have hz : 0 ≤ sizeF ws := by unfold sizeF; omega
  unfold unpF
  have e1 : (packF ws vs ++ es).take (sizeF ws).toNat = packF ws vs := by
    have : (packF ws vs).length = (sizeF ws).toNat := bytesOf_length _ _
    rw [List.take_append_of_le_length (by omega), List.take_of_length_le (by omega)]
  rw [e1]
  have hpad : 0 ≤ 8 * sizeF ws - ws.sum := by unfold sizeF; omega
  have e2 : num256 (packF ws vs) = rowP (ws.zip vs) * 2 ^ (8 * sizeF ws - ws.sum).toNat := by
    refine bytes_num (Int.mul_nonneg b1 (Int.le_of_lt (pow_nn _))) ?_
    have e3 : 8 * (sizeF ws).toNat = ws.sum.toNat + (8 * sizeF ws - ws.sum).toNat := by omega
    rw [e3, pow_add2]
    exact Int.mul_lt_mul_of_pos_right b2 (pow_nn _)
  rw [e2]
  have k := fld_back (ws.zip vs) 0 (8 * sizeF ws - ws.sum).toNat hp (Int.le_refl 0)
  rw [zip_fst hl, zip_snd hl, Int.zero_mul, Int.zero_add] at k
  have e4 : ws.sum + ((8 * sizeF ws - ws.sum).toNat : Int) = 8 * sizeF ws := by omega
  rw [e4] at k
  exact k
theorem take_allF {α : Type} {l : List α} {i : Nat} {x : α} {f : α → Bool} (h : (l.take i).all f = true) (hx : l[i]? = some x) (hf : f x = true) : (l.take (i + 1)).all f = true := by
  rw [take_snoc hx, List.all_append, h]
  simp [hf]
theorem take_all_full {α : Type} {l : List α} {f : α → Bool} {i : Nat} (hi : l.length ≤ i) (h : (l.take i).all f = true) : l.all f = true := by
  rw [List.take_of_length_le hi] at h
  exact h
theorem not_all {α : Type} {l : List α} {i : Nat} {x : α} {f : α → Bool} (hx : l[i]? = some x) (hf : f x = false) : l.all f = false := by
  cases e : l.all f with
  | false => rfl
  | true =>
    rw [List.all_eq_true.mp e x (List.mem_of_getElem? hx)] at hf
    cases hf
theorem map_get {ns : List Int} {i : Nat} {y : V} (h : (ns.map V.int)[i]? = some y) : ∃ x, ns[i]? = some x ∧ y = .int x := by
  rw [List.getElem?_map] at h
  cases e : ns[i]? with
  | none => rw [e] at h; cases h
  | some x => rw [e] at h; exact ⟨x, rfl, (Option.some.inj h).symm⟩
section
variable {P : Program} {w : World} {K : PySem.W.Frag} {mg : Str → Option Value} {base : Heap}
def sp_field_bytes (K : PySem.W.Frag) (C : Addr) : Sp := fun vs H Q E => ∃ (a : Addr) (ws : List Int), vs = [.ref a] ∧ SqL K H a (ws.map V.int) ∧ (wok ws = true → Q (.int (sizeF ws)) H) ∧ (wok ws = false → E (.ref C) none H)
@[irreducible] def ip_field_bytes (K : PySem.W.Frag) (C : Addr) : Sp := sp_field_bytes K C
theorem op_field_bytes {K : PySem.W.Frag} {C : Addr} {vs : List V} {H : Hp} {Q : VK} {E : XK} (h : sp_field_bytes K C vs H Q E) : ip_field_bytes K C vs H Q E := by
  unfold ip_field_bytes
  exact h
theorem un_field_bytes {K : PySem.W.Frag} {C : Addr} {vs : List V} {H : Hp} {Q : VK} {E : XK} (h : ip_field_bytes K C vs H Q E) : sp_field_bytes K C vs H Q E := by
  unfold ip_field_bytes at h
  exact h
theorem ok_field_bytes (T : Tx P w K mg base) : FnOk P w K mg base (L2.CX P w) 3 T.a_field_bytes T.d_field_bytes ["widths"] (ip_field_bytes K T.C_NotValid) := by
  refine T.p_field_bytes.F.okX sc_field_bytes (fun vs H Q E h => ?_) (fun cdv A outer s H vs Q E hr h => ?_)
  · obtain ⟨a, ws, rfl, hS, q, e⟩ := un_field_bytes h
    rfl
  · obtain ⟨a, ws, rfl, hS, q, e⟩ := un_field_bytes h
    refine ⟨_, (pss_cons (ps_forL (passes_of rfl) rfl (pv 0) (pg_name (i := 1) sc_field_bytes.nd rfl (Or.inl rfl)) (pss_one (ps_ifM (pt_cmpR op_ltM (pv 1) pe_int (nomark _)) (pss_one (ps_raise rfl (takes_of rfl rfl rfl rfl) (pmk_plain T.x_NotValid (hr.mono (by decide)) rfl))) pss_nil))) (pss_one (ps_ret (pe_op op_fdivM (pe_op op_addM (pe_callB (call_sumM rfl) (by rfl) T.n_sum (by decide +kernel) (pa_cons (pv 0) pa_nil)) pe_int) pe_int)))), ?_⟩
    refine rd_forL ?_
    (repeat walk_at "rd")
    refine ⟨a, _, fun i σ H' => Stop (H' = H ∧ wok (ws.take i) = true ∧ ∃ v, σ = [some (.ref a), v]), rfl, hS, .a ⟨rfl, rfl, none, rfl⟩, fun i σ' H' hi p => ?_, fun i y σ' H' hi p => ?_, fun σ' H' p => ?_⟩
    · obtain ⟨rfl, _⟩ := p.un
      exact hS
    · obtain ⟨rfl, hw, v, rfl⟩ := p.un
      obtain ⟨x, hx, rfl⟩ := map_get hi
      (repeat walk_at "rd")
      refine br_by (fun h => ?_) (fun h => ?_)
      · exact e (not_all hx (decide_eq_false (by omega)))
      · exact .a ⟨rfl, take_allF hw hx (decide_eq_true (by omega)), some (.int x), rfl⟩
    · obtain ⟨rfl, hw, v, rfl⟩ := p.un
      rw [List.length_map, List.take_length] at hw
      (repeat walk_at "rd")
      exact q hw
def sp_pack (K : PySem.W.Frag) (C : Addr) : Sp := fun as H Q E => ∃ (a b : Addr) (ws vs : List Int), as = [.ref a, .ref b] ∧ SqL K H a (ws.map V.int) ∧ SqL K H b (vs.map V.int) ∧ ws.length ≤ 500 ∧ (∀ w ∈ ws, w ≤ 1000) ∧
  (okF ws vs = true → NewO (.lst ((packF ws vs).map V.int)) H Q) ∧ (okF ws vs = false → ∀ H', Same H H' → E (.ref C) none H')
theorem sum_le {ws : List Int} (h : ∀ w ∈ ws, w ≤ 1000) : ws.sum ≤ 1000 * (ws.length : Int) := by
  induction ws with
  | nil => exact Int.le_refl 0
  | cons w r ih =>
    rw [List.sum_cons, List.length_cons]
    have := h w List.mem_cons_self
    have := ih fun x hx => h x (List.mem_cons_of_mem _ hx)
    omega
theorem shl_of {i : Int} {j : Int} {n : Nat} (h0 : 0 ≤ i) (h : i < 2 ^ n) (hj : 0 ≤ j) (hn : (n : Int) + j ≤ 134217728) : CShl i j := by
  have e : j = ((j.toNat : Nat) : Int) := by omega
  rw [e]
  refine shl_ok (n := n) ?_ (by omega)
  have : ((i.natAbs : Nat) : Int) < ((2 ^ n : Nat) : Int) := by
    rw [Int.natCast_pow]
    show (i.natAbs : Int) < 2 ^ n
    omega
  exact Int.ofNat_lt.mp this
theorem okF_false {ws vs : List Int} (h : ws.length ≠ vs.length ∨ (ws.zip vs).all okP = false) : okF ws vs = false := by
  unfold okF
  rcases h with h | h
  · rw [decide_eq_false h]
    rfl
  · rw [h, Bool.and_false]
@[irreducible] def ip_pack (K : PySem.W.Frag) (C : Addr) : Sp := sp_pack K C
theorem op_pack {K : PySem.W.Frag} {C : Addr} {vs : List V} {H : Hp} {Q : VK} {E : XK} (h : sp_pack K C vs H Q E) : ip_pack K C vs H Q E := by
  unfold ip_pack
  exact h
theorem un_pack {K : PySem.W.Frag} {C : Addr} {vs : List V} {H : Hp} {Q : VK} {E : XK} (h : ip_pack K C vs H Q E) : sp_pack K C vs H Q E := by
  unfold ip_pack at h
  exact h
theorem ok_pack (T : Tx P w K mg base) : FnOk P w K mg base (L2.CX P w) 4 T.a_pack T.d_pack ["widths", "values"] (ip_pack K T.C_NotValid) := by
  have G_field_bytes := ok_field_bytes T
  refine T.p_pack.F.okX sc_pack (fun vs H Q E h => ?_) (fun cdv A outer s H vs Q E hr h => ?_)
  · obtain ⟨a, b, ws, vs, rfl, hS, hT, hn, hw, q, e⟩ := un_pack h
    rfl
  · obtain ⟨a, b, ws, vs, rfl, hS, hT, hn, hw, q, e⟩ := un_pack h
    refine ⟨_, (pss_cons (ps_ifM (pt_cmpR op_ne (pe_callB call_lenM (by rfl) T.n_len PySem.boot_len (pa_cons (pv 0) pa_nil)) (pe_callB call_lenM (by rfl) T.n_len PySem.boot_len (pa_cons (pv 1) pa_nil)) (nomark _)) (pss_one (ps_raise rfl (takes_of rfl rfl rfl rfl) (pmk_plain T.x_NotValid (hr.mono (by decide)) rfl))) pss_nil) (pss_cons (ps_set (i := 2) sc_pack.nd rfl (Or.inr rfl) (pe_call G_field_bytes (hr.mono (by decide)) rfl T.p_field_bytes.m T.p_field_bytes.F.kp T.p_field_bytes.b .nil (passes_call (takes_of rfl rfl rfl rfl) (fun _ _ _ _ h => h)) (pa_cons (pv 0) pa_nil))) (pss_cons (ps_set (i := 3) sc_pack.nd rfl (Or.inr rfl) pe_int) (pss_cons (ps_forZ (passes_of rfl) rfl rfl T.n_zip (pa_cons (pv 0) (pa_cons (pv 1) pa_nil)) (pg_tup rfl (pgs_cons (pg_name (i := 4) sc_pack.nd rfl (Or.inl rfl)) (pgs_cons (pg_name (i := 5) sc_pack.nd rfl (Or.inl rfl)) pgs_nil))) (pss_cons (ps_ifM (PW.pt (pw_orM (pt_cmpR op_ltM (pv 5) pe_int (nomark _)) (pw_or1 (pt_cmpR op_geM (pv 5) (pe_op op_shl1M pe_int (pv 4)) (nomark _))))) (pss_one (ps_raise rfl (takes_of rfl rfl rfl rfl) (pmk_plain T.x_NotValid (hr.mono (by decide)) rfl))) pss_nil) (pss_one (ps_set (i := 3) sc_pack.nd rfl (Or.inr rfl) (pe_op op_addM (pe_op op_shlM (pv 3) (pv 4)) (pv 5)))))) (pss_cons (ps_set (i := 3) sc_pack.nd rfl (Or.inr rfl) (pe_op op_shlM (pv 3) (pe_op op_subM (pe_op op_mulM pe_int (pv 2)) (pe_callB (call_sumM rfl) (by rfl) T.n_sum (by decide +kernel) (pa_cons (pv 0) pa_nil))))) (pss_one (ps_ret (pe_lcR1 rfl sc_pack.nd rfl T.n_range (pa_cons (pv 2) pa_nil) (blkOk_by (own := [("at", 6)]) (N := ["widths", "values", "size", "row", "width", "value", "at"]) (sc := defScope S_pack) (by decide +kernel)) (fun _ _ _ _ _ => (pg_name (i := 6) sc_pack.nd rfl (Or.inl rfl))) (fun _ _ _ _ _ => (pe_op op_bandM (pe_op op_shrM (pv 3) (pe_op op_mulM pe_int (pe_op op_subM (pe_op op_subM (pv 2) pe_int) (pv 6)))) pe_int)))))))))), ?_⟩
    (repeat walk_at "rd")
    refine br_enby (fun h => ?_) (fun h => ?_)
    · exact e (okF_false (.inl (by omega))) _ (Same.refl _)
    (repeat walk_at "rd")
    refine op_field_bytes ⟨a, ws, rfl, hS, fun hwk => ?_, fun hwk => ?_⟩
    rotate_left
    · refine e ?_ _ (Same.refl _)
      cases k : okF ws vs with
      | false => rfl
      | true => rw [okF_wok k] at hwk; cases hwk
    (repeat walk_at "rd")
    refine rd_forZ ?_
    (repeat walk_at "rd")
    have hl : ws.length = vs.length := by omega
    have hsum := sum_le hw
    have hs0 : 0 ≤ ws.sum := sum_nn fun w hw' => by
      have := wok_iff.mp hwk w hw'
      omega
    have hsz : 0 ≤ sizeF ws ∧ ws.sum ≤ 8 * sizeF ws ∧ 8 * sizeF ws ≤ ws.sum + 7 := by unfold sizeF; omega
    have zl : (ws.zip vs).length = ws.length := by rw [List.length_zip]; omega
    refine ⟨a, b, _, _, fun i σ H' => Stop (Same H H' ∧ ((ws.zip vs).take i).all okP = true ∧ ∃ x y z, σ = [some (.ref a), some (.ref b), some (.int (sizeF ws)), some (.int (rowP ((ws.zip vs).take i))), x, y, z]), rfl, hS, hT, by rw [List.length_map, List.length_map, hl], .a ⟨Same.refl _, rfl, _, _, _, rfl⟩, fun i σ' H' p => ?_, fun i x y σ' H' H'' hx hy p s2 => ?_, fun σ' H' p => ?_⟩
    · obtain ⟨sm, _⟩ := p.un
      exact ⟨sm.seq hS, sm.seq hT⟩
    · obtain ⟨sm, hok, x1, y1, z1, rfl⟩ := p.un
      obtain ⟨wd, hwd, rfl⟩ := map_get hx
      obtain ⟨vl, hvl, rfl⟩ := map_get hy
      have hz : (ws.zip vs)[i]? = some (wd, vl) := by rw [List.getElem?_zip_eq_some]; exact ⟨hwd, hvl⟩
      have hw1 := wok_iff.mp hwk wd (List.mem_of_getElem? hwd)
      have hw2 := hw wd (List.mem_of_getElem? hwd)
      obtain ⟨b1, b2⟩ := rowP_bound _ hok
      have hbig : (List.map Prod.fst ((ws.zip vs).take i)).sum.toNat ≤ 1000000 := by
        rw [List.map_take, zip_fst hl]
        have h1 := sum_le (ws := ws.take i) fun w h => hw w (List.mem_of_mem_take h)
        rw [List.length_take] at h1
        omega
      (repeat walk_at "rd")
      refine br_by (fun h1 => ?_) (fun h1 => ?_)
      · (repeat walk_at "rd")
        exact e (okF_false (.inr (not_all hz (by unfold okP; rw [decide_eq_false (show ¬ 0 ≤ (wd, vl).2 from by show ¬ 0 ≤ vl; omega), Bool.and_false]; rfl)))) _ (sm.trans s2)
      (repeat walk_at "rd")
      refine br_by (fun h2 => ?_) (fun h2 => ?_)
      · (repeat walk_at "rd")
        exact e (okF_false (.inr (not_all hz (by unfold okP; rw [decide_eq_false (show ¬ (wd, vl).2 < 2 ^ (wd, vl).1.toNat from by show ¬ vl < 2 ^ wd.toNat; omega), Bool.and_false])))) _ (sm.trans s2)
      (repeat walk_at "rd")
      refine ⟨shl_of b1 b2 (by omega) (by omega), ?_⟩
      (repeat walk_at "rd")
      refine .a ⟨sm.trans s2, take_allF hok hz (okP_iff.mpr ⟨hw1, by show 0 ≤ vl; omega, by show vl < 2 ^ wd.toNat; omega⟩), _, _, _, by rw [take_snoc hz, rowP_snoc]; rfl⟩
    · obtain ⟨sm, hok, x1, y1, z1, rfl⟩ := p.un
      rw [List.length_map, ← zl, List.take_length] at hok ⊢
      have hokF : okF ws vs = true := by unfold okF; rw [decide_eq_true hl, hok]; rfl
      obtain ⟨b1, b2⟩ := rowP_bound _ hok
      rw [zip_fst hl] at b2
      (repeat walk_at "rd")
      refine ⟨shl_of b1 b2 (by omega) (by omega), ?_⟩
      (repeat walk_at "rd")
      refine rd_lcR1 ?_
      (repeat walk_at "rd")
      refine ⟨_, fun i => V.int (byteAt (rowP (ws.zip vs) * 2 ^ (8 * sizeF ws - ws.sum).toNat) (sizeF ws).toNat i), rfl, ⟨by omega, by omega⟩, fun i hi H1 s1 => ?_, fun p H1 hp s1 e1 => ?_⟩
      · (repeat walk_at "rd")
        refine ⟨?_, Same.refl _⟩
        have e1 : (255 : Int) = 2 ^ 8 - 1 := by decide
        rw [e1, Bits.bitAnd_mask _ (Int.ediv_nonneg (Int.mul_nonneg b1 (Int.le_of_lt (pow_nn _))) (Int.le_of_lt (pow_nn _)))]
        have e2 : ((sizeF ws).toNat : Int) = sizeF ws := by omega
        show V.int _ = V.int (byteAt _ _ _)
        unfold byteAt
        rw [e2]
        rfl
      · refine q hokF p H1 (sm.free hp) (sm.trans s1) ?_
        rw [e1]
        unfold packF bytesOf
        rw [List.map_map]
        rfl
end
/-! pieces: the mathematics -/
def hasOff (part : Int) : Bool := decide (part = 2) || decide (part = 3)
def dataW (bits part : Int) : List Int := if hasOff part = true then [1, 1, bits, 2, 8] else [1, 1, bits, 2]
def dataVals (poll : Bool) (sn part off : Int) : List Int := if hasOff part = true then [0, if poll = true then 1 else 0, sn, part, off] else [0, if poll = true then 1 else 0, sn, part]
def dataF (bits : Int) (poll : Bool) (number part off : Int) (body : List Int) : List Int := packF (dataW bits part) (dataVals poll (number % 2 ^ bits.toNat) part off) ++ body
inductive Parts where
  | data (poll : Bool) (number part off : Int) (body : List Int)
  | status (upto : Int) (ms : List (Int × Int × Int))
def statusBytes (bits count : Int) : Int := (5 + bits + count * (bits + 16) + 7) / 8
def statusW (bits : Int) (n : Nat) : List Int := [1, bits, 4] ++ (List.replicate n [bits, 8, 8]).flatten
def statusVals (bits upto : Int) (ms : List (Int × Int × Int)) : List Int := [1, upto % 2 ^ bits.toNat, (ms.length : Int)] ++ ms.flatMap fun r => [r.1 % 2 ^ bits.toNat, r.2.1, r.2.2]
def statusF (bits upto : Int) (ms : List (Int × Int × Int)) : List Int := packF (statusW bits ms.length) (statusVals bits upto ms)
def rowsOf (told : List Int) (n : Nat) : List (Int × Int × Int) := (List.range n).map fun i => (told.getD (3 * i) 0, told.getD (3 * i + 1) 0, told.getD (3 * i + 2) 0)
def readData (bits : Int) (piece : List Int) : Option Parts :=
  if (piece.length : Int) < sizeF [1, 1, bits, 2] then none
  else if (piece.length : Int) ≤ sizeF (dataW bits ((unpF [1, 1, bits, 2] piece).getD 3 0)) then none
  else some (.data (decide ((unpF [1, 1, bits, 2] piece).getD 1 0 = 1)) ((unpF [1, 1, bits, 2] piece).getD 2 0) ((unpF [1, 1, bits, 2] piece).getD 3 0)
    (if hasOff ((unpF [1, 1, bits, 2] piece).getD 3 0) = true then (unpF (dataW bits ((unpF [1, 1, bits, 2] piece).getD 3 0)) piece).getD 4 0 else 0)
    (piece.drop (sizeF (dataW bits ((unpF [1, 1, bits, 2] piece).getD 3 0))).toNat))
def readStatus (bits : Int) (piece : List Int) : Option Parts :=
  if (piece.length : Int) < sizeF [1, bits, 4] then none
  else if 8 < (unpF [1, bits, 4] piece).getD 2 0 ∨ (piece.length : Int) ≠ statusBytes bits ((unpF [1, bits, 4] piece).getD 2 0) then none
  else some (.status ((unpF [1, bits, 4] piece).getD 1 0) (rowsOf ((unpF (statusW bits ((unpF [1, bits, 4] piece).getD 2 0).toNat) piece).drop 3) ((unpF [1, bits, 4] piece).getD 2 0).toNat))
def readF (bits : Int) (piece : List Int) : Option Parts :=
  if piece.length = 0 then none else if (unpF [1] piece).getD 0 0 = 0 then readData bits piece else readStatus bits piece

theorem fldF_app (N : Int) : ∀ (ws us : List Int) (u : Int), fldF N u (ws ++ us) = fldF N u ws ++ fldF N (u - ws.sum) us
  | [], us, u => by
    show fldF N u us = [] ++ fldF N (u - 0) us
    rw [Int.sub_zero]
    rfl
  | x :: r, us, u => by
    show _ :: fldF N (u - x) (r ++ us) = _ :: fldF N (u - x) r ++ _
    rw [fldF_app N r, List.sum_cons]
    have e : u - x - r.sum = u - (x + r.sum) := by omega
    rw [e]
    rfl
theorem fldF_length (N : Int) : ∀ (ws : List Int) (u : Int), (fldF N u ws).length = ws.length
  | [], _ => rfl
  | x :: r, u => by
    show (fldF N (u - x) r).length + 1 = r.length + 1
    rw [fldF_length N r]
theorem fldF_shift (N : Int) (d : Nat) : ∀ (ws : List Int) (u : Int), (∀ w ∈ ws, 0 ≤ w) → ws.sum ≤ u → fldF N (u + d) ws = fldF (N / 2 ^ d) u ws
  | [], _, _, _ => rfl
  | x :: r, u, h, hu => by
    rw [List.sum_cons] at hu
    have hx := h x List.mem_cons_self
    have hr : 0 ≤ r.sum := sum_nn fun w hw => h w (List.mem_cons_of_mem _ hw)
    show _ :: _ = _ :: _
    have e : u + (d : Int) - x = u - x + d := by omega
    rw [e, fldF_shift N d r (u - x) (fun w hw => h w (List.mem_cons_of_mem _ hw)) (by omega)]
    congr 1
    have e2 : (u - x + (d : Int)).toNat = d + (u - x).toNat := by omega
    rw [e2, pow_add2, ← Int.ediv_ediv_of_nonneg (Int.le_of_lt (pow_nn d))]
theorem num256_app (xs ys : List Int) : num256 (xs ++ ys) = num256 xs * 2 ^ (8 * ys.length) + num256 ys := by
  have key : ∀ (ys : List Int) (z : Int), ys.foldl (fun r d => r * 2 ^ 8 + d) z = z * 2 ^ (8 * ys.length) + num256 ys := by
    intro ys
    induction ys with
    | nil => intro z; show z = z * 2 ^ 0 + 0; simp
    | cons y r ih =>
      intro z
      rw [List.foldl_cons, ih]
      show _ = z * 2 ^ (8 * (r.length + 1)) + List.foldl _ (0 * 2 ^ 8 + y) r
      rw [ih, Nat.mul_add, pow_add2, Int.zero_mul, Int.zero_add, Int.add_mul]
      have : z * 2 ^ 8 * 2 ^ (8 * r.length) = z * (2 ^ (8 * r.length) * 2 ^ (8 * 1)) := by
        rw [Int.mul_assoc, Int.mul_comm (2 ^ 8)]
      omega
  unfold num256
  rw [List.foldl_append]
  exact key ys _
/-- the fields ahead do not hang on those behind -/
theorem unp_app {ws us ds : List Int} (hw : ∀ w ∈ ws ++ us, 0 ≤ w) (hd : ∀ d ∈ ds, 0 ≤ d ∧ d < 256) (hl : sizeF (ws ++ us) ≤ (ds.length : Int)) :
    unpF (ws ++ us) ds = unpF ws ds ++ fldF (num256 (ds.take (sizeF (ws ++ us)).toNat)) (8 * sizeF (ws ++ us) - ws.sum) us := by
  unfold unpF
  rw [fldF_app]
  congr 1
  have h1 : 0 ≤ ws.sum := sum_nn fun w h => hw w (List.mem_append_left _ h)
  have h2 : 0 ≤ us.sum := sum_nn fun w h => hw w (List.mem_append_right _ h)
  have e0 : (ws ++ us).sum = ws.sum + us.sum := List.sum_append
  have hs : 0 ≤ sizeF ws ∧ sizeF ws ≤ sizeF (ws ++ us) ∧ ws.sum ≤ 8 * sizeF ws := by unfold sizeF; rw [e0]; omega
  generalize hs' : sizeF (ws ++ us) = s' at *
  generalize hs2 : sizeF ws = s at *
  have e1 : ds.take s'.toNat = ds.take s.toNat ++ (ds.drop s.toNat).take (s'.toNat - s.toNat) := by
    rw [← List.take_add]
    congr 1
    omega
  have hlen : ((ds.drop s.toNat).take (s'.toNat - s.toNat)).length = s'.toNat - s.toNat := by
    rw [List.length_take, List.length_drop]
    omega
  have e2 : 8 * s' = 8 * s + ((8 * (s'.toNat - s.toNat) : Nat) : Int) := by omega
  rw [e2, fldF_shift _ _ ws (8 * s) (fun w h => hw w (List.mem_append_left _ h)) hs.2.2]
  congr 1
  rw [e1, num256_app, hlen]
  obtain ⟨b1, b2⟩ := num256_bound ((ds.drop s.toNat).take (s'.toNat - s.toNat)) fun d h => hd d (List.mem_of_mem_drop (List.mem_of_mem_take h))
  rw [hlen] at b2
  rw [Int.add_comm, Int.add_mul_ediv_right _ _ (Int.ne_of_gt (pow_nn _)), Int.ediv_eq_zero_of_lt b1 b2, Int.zero_add]
theorem unpF_length (ws ds : List Int) : (unpF ws ds).length = ws.length := fldF_length _ _ _
theorem packF_length {ws vs : List Int} (h : wok ws = true) : ((packF ws vs).length : Int) = sizeF ws := by
  have e : (packF ws vs).length = (sizeF ws).toNat := bytesOf_length _ _
  have h0 : 0 ≤ ws.sum := sum_nn fun w hw => by have := wok_iff.mp h w hw; omega
  rw [e]
  unfold sizeF
  omega
theorem packF_byte {ws vs : List Int} {d : Int} (h : d ∈ packF ws vs) : 0 ≤ d ∧ d < 256 := by
  unfold packF bytesOf at h
  obtain ⟨k, _, rfl⟩ := List.mem_map.mp h
  exact byteAt_bound _ _ _
/-- fields packed and read by a beginning of their widths -/
theorem unp_pack_pre {ws us vs es : List Int} (h : okF (ws ++ us) vs = true) (he : ∀ d ∈ es, 0 ≤ d ∧ d < 256) : unpF ws (packF (ws ++ us) vs ++ es) = vs.take ws.length := by
  have hw := okF_wok h
  have k := unp_pack (es := es) h
  have hb : ∀ d ∈ packF (ws ++ us) vs ++ es, 0 ≤ d ∧ d < 256 := fun d hd => by
    rcases List.mem_append.mp hd with hd | hd
    · exact packF_byte hd
    · exact he d hd
  have hl := packF_length (vs := vs) hw
  rw [unp_app (fun w hw' => by have := wok_iff.mp hw w hw'; omega) hb (by rw [List.length_append]; omega)] at k
  have k2 := congrArg (List.take ws.length) k
  rw [List.take_append_of_le_length (by rw [unpF_length]; omega), List.take_of_length_le (by rw [unpF_length]; omega)] at k2
  exact k2
theorem okF_cons {w v : Int} {ws vs : List Int} : okF (w :: ws) (v :: vs) = (okP (w, v) && okF ws vs) := by
  unfold okF
  rw [List.zip_cons_cons, List.all_cons, List.length_cons, List.length_cons]
  by_cases h : ws.length = vs.length
  · rw [decide_eq_true h, decide_eq_true (by omega), Bool.true_and, Bool.true_and]
  · rw [decide_eq_false h, decide_eq_false (by omega), Bool.false_and, Bool.false_and, Bool.and_false]
theorem okF_nil : okF [] [] = true := rfl
theorem okP_lit {w v : Int} (h1 : 1 ≤ w) (h2 : 0 ≤ v) (h3 : v < 2 ^ w.toNat) : okP (w, v) = true := okP_iff.mpr ⟨h1, h2, h3⟩
theorem data_ok {bits sn part off : Int} {poll : Bool} (hb : 1 ≤ bits) (hs : 0 ≤ sn ∧ sn < 2 ^ bits.toNat) (hp : 0 ≤ part ∧ part < 4) (ho : 0 ≤ off ∧ off < 256) : okF (dataW bits part) (dataVals poll sn part off) = true := by
  have e1 : (2 : Int) ^ (1 : Int).toNat = 2 := by decide
  have e2 : (2 : Int) ^ (2 : Int).toNat = 4 := by decide
  have e8 : (2 : Int) ^ (8 : Int).toNat = 256 := by decide
  have hpo : (0 : Int) ≤ (if poll = true then 1 else 0) ∧ (if poll = true then (1 : Int) else 0) < 2 := by cases poll <;> decide
  unfold dataW dataVals
  by_cases h : hasOff part = true
  · rw [if_pos h, if_pos h, okF_cons, okF_cons, okF_cons, okF_cons, okF_cons, okF_nil, okP_lit (by decide) (by decide) (by decide), okP_lit (by decide) hpo.1 (by rw [e1]; exact hpo.2), okP_lit hb hs.1 hs.2, okP_lit (by decide) hp.1 (by rw [e2]; exact hp.2), okP_lit (by decide) ho.1 (by rw [e8]; exact ho.2)]
    rfl
  · rw [if_neg h, if_neg h, okF_cons, okF_cons, okF_cons, okF_cons, okF_nil, okP_lit (by decide) (by decide) (by decide), okP_lit (by decide) hpo.1 (by rw [e1]; exact hpo.2), okP_lit hb hs.1 hs.2, okP_lit (by decide) hp.1 (by rw [e2]; exact hp.2)]
    rfl
/-- a data piece, read -/
theorem read_data {bits number part off : Int} {poll : Bool} {body : List Int} (hb : 1 ≤ bits) (hp : 0 ≤ part ∧ part < 4) (ho : 0 ≤ off ∧ off < 256) (hy : ∀ d ∈ body, 0 ≤ d ∧ d < 256) (hne : body ≠ []) :
    readF bits (dataF bits poll number part off body) = some (.data poll (number % 2 ^ bits.toNat) part (if hasOff part = true then off else 0) body) := by
  have hsn : 0 ≤ number % 2 ^ bits.toNat ∧ number % 2 ^ bits.toNat < 2 ^ bits.toNat := ⟨Int.emod_nonneg _ (Int.ne_of_gt (pow_nn _)), Int.emod_lt_of_pos _ (pow_nn _)⟩
  unfold dataF
  generalize number % 2 ^ bits.toNat = sn at hsn
  have hok := data_ok (poll := poll) hb hsn hp ho
  have hw := okF_wok hok
  have hl := packF_length (vs := dataVals poll sn part off) hw
  have hbl : 0 < body.length := List.length_pos_iff.mpr hne
  have hsz : 1 ≤ sizeF (dataW bits part) ∧ sizeF [1, 1, bits, 2] ≤ sizeF (dataW bits part) := by
    unfold dataW sizeF
    split <;> simp <;> omega
  generalize hP : packF (dataW bits part) (dataVals poll sn part off) = P at *
  -- the prefixes
  have u1 : unpF [1] (P ++ body) = [0] := by
    by_cases h : hasOff part = true
    · have e : dataW bits part = [1] ++ [1, bits, 2, 8] := by unfold dataW; rw [if_pos h]; rfl
      rw [← hP, e]
      rw [e] at hok
      rw [unp_pack_pre hok hy]
      unfold dataVals
      rw [if_pos h]
      rfl
    · have e : dataW bits part = [1] ++ [1, bits, 2] := by unfold dataW; rw [if_neg h]; rfl
      rw [← hP, e]
      rw [e] at hok
      rw [unp_pack_pre hok hy]
      unfold dataVals
      rw [if_neg h]
      rfl
  have u4 : unpF [1, 1, bits, 2] (P ++ body) = [0, if poll = true then 1 else 0, sn, part] := by
    by_cases h : hasOff part = true
    · have e : dataW bits part = [1, 1, bits, 2] ++ [8] := by unfold dataW; rw [if_pos h]; rfl
      rw [← hP, e]
      rw [e] at hok
      rw [unp_pack_pre hok hy]
      unfold dataVals
      rw [if_pos h]
      rfl
    · have e : dataW bits part = [1, 1, bits, 2] ++ [] := by unfold dataW; rw [if_neg h]; rfl
      rw [← hP, e]
      rw [e] at hok
      rw [unp_pack_pre hok hy]
      unfold dataVals
      rw [if_neg h]
      rfl
  have u5 : unpF (dataW bits part) (P ++ body) = dataVals poll sn part off := by
    rw [← hP]
    exact unp_pack hok
  unfold readF
  rw [if_neg (by rw [List.length_append]; omega), u1, if_pos (show ([0] : List Int).getD 0 0 = 0 from rfl)]
  unfold readData
  rw [u4]
  show (if _ then none else if ((P ++ body).length : Int) ≤ sizeF (dataW bits part) then none else some (Parts.data (decide ((if poll = true then (1 : Int) else 0) = 1)) sn part (if hasOff part = true then (unpF (dataW bits part) (P ++ body)).getD 4 0 else 0) ((P ++ body).drop (sizeF (dataW bits part)).toNat))) = _
  rw [if_neg (by rw [List.length_append]; omega), if_neg (by rw [List.length_append]; omega), u5]
  have e1 : decide ((if poll = true then (1 : Int) else 0) = 1) = poll := by cases poll <;> rfl
  have e2 : (P ++ body).drop (sizeF (dataW bits part)).toNat = body := by
    have : (sizeF (dataW bits part)).toNat = P.length := by omega
    rw [this]
    exact List.drop_left
  rw [e1, e2]
  congr 2
  by_cases h : hasOff part = true
  · rw [if_pos h, if_pos h]
    unfold dataVals
    rw [if_pos h]
    rfl
  · rw [if_neg h, if_neg h]
/-- what a reader hands back, as it stands in a heap -/
def rowV (r : Int × Int × Int) : List V := [.int r.1, .int r.2.1, .int r.2.2]
structure RowsAt (H : Hp) (a : Addr) (ms : List (Int × Int × Int)) : Prop where
  ex : ∃ ps : List Addr, H a = some (.lst (ps.map V.ref)) ∧ ps.length = ms.length ∧ ∀ (i : Nat) (p : Addr) (r : Int × Int × Int), ps[i]? = some p → ms[i]? = some r → H p = some (.tup (rowV r))
theorem RowsAt.mono {H H' : Hp} {a : Addr} {ms : List (Int × Int × Int)} (h : RowsAt H a ms) (s : Same H H') : RowsAt H' a ms := by
  obtain ⟨ps, h1, h2, h3⟩ := h.ex
  exact ⟨ps, s _ _ h1, h2, fun i p r e1 e2 => s _ _ (h3 i p r e1 e2)⟩
def PartsAt (H : Hp) (v : V) : Option Parts → Prop
  | none => v = .non
  | some (.data poll n part off body) => ∃ p b, v = .ref p ∧ H p = some (.tup [.str "data", .bl poll, .int n, .int part, .int off, .ref b]) ∧ H b = some (.lst (body.map V.int))
  | some (.status upto ms) => ∃ p m, v = .ref p ∧ H p = some (.tup [.str "status", .int upto, .ref m]) ∧ RowsAt H m ms
def rowD (r : Int × Int × Int) : PyData := .tuple [.int r.1, .int r.2.1, .int r.2.2]
def partsD : Option Parts → PyData
  | none => .none
  | some (.data poll n part off body) => .tuple [.str "data", .bool poll, .int n, .int part, .int off, .list (body.map PyData.int)]
  | some (.status upto ms) => .tuple [.str "status", .int upto, .list (ms.map rowD)]
theorem dpa_rows {K : PySem.W.Frag} {H : Hp} : ∀ {ps : List Addr} {ms : List (Int × Int × Int)}, ps.length = ms.length → (∀ (i : Nat) (p : Addr) (r : Int × Int × Int), ps[i]? = some p → ms[i]? = some r → H p = some (.tup (rowV r))) → DpAll K H (ps.map V.ref) (ms.map rowD)
  | [], [], _, _ => .nil
  | p :: ps, r :: ms, hl, h => .cons (.tup (st_of (h 0 p r rfl rfl)) (.cons (.int _) (.cons (.int _) (.cons (.int _) .nil)))) (dpa_rows (by simpa using hl) fun i q x e1 e2 => h (i + 1) q x e1 e2)
theorem RowsAt.dp {K : PySem.W.Frag} {H : Hp} {a : Addr} {ms : List (Int × Int × Int)} (h : RowsAt H a ms) : Dp K H (.ref a) (.list (ms.map rowD)) := by
  obtain ⟨ps, h1, h2, h3⟩ := h.ex
  exact .lst (sq_of h1) (dpa_rows h2 h3)
theorem sh_rows (ms : List (Int × Int × Int)) : Sh 2 (.list (ms.map rowD)) := sh_lst (sh_map (fun r => sh_tup (sh_cons sh_int (sh_cons sh_int (sh_cons sh_int sh_nil)))) ms)
theorem PartsAt.dp {K : PySem.W.Frag} {H : Hp} {v : V} {r : Option Parts} (h : PartsAt H v r) : Dp K H v (partsD r) := by
  match r, h with
  | none, h =>
    rw [show v = .non from h]
    exact .non
  | some (.data poll n part off body), h =>
    obtain ⟨p, b, rfl, h1, h2⟩ := h
    exact .tup (st_of h1) (.cons (.str _) (.cons (.bl _) (.cons (.int _) (.cons (.int _) (.cons (.int _) (.cons (dp_ints (sq_of h2)) .nil))))))
  | some (.status upto ms), h =>
    obtain ⟨p, m, rfl, h1, h2⟩ := h
    exact .tup (st_of h1) (.cons (.str _) (.cons (.int _) (.cons h2.dp .nil)))
theorem sh_parts : ∀ r : Option Parts, Sh 3 (partsD r)
  | none => sh_non
  | some (.data _ _ _ _ body) => sh_tup (sh_cons (sh_str (by decide +kernel)) (sh_cons sh_bl (sh_cons sh_int (sh_cons sh_int (sh_cons sh_int (sh_cons (sh_lst (sh_ints body)) sh_nil))))))
  | some (.status _ ms) => sh_tup (sh_cons (sh_str (by decide +kernel)) (sh_cons sh_int (sh_cons (sh_rows ms) sh_nil)))
theorem PartsAt.mono {H H' : Hp} {v : V} {r : Option Parts} (h : PartsAt H v r) (s : Same H H') : PartsAt H' v r := by
  match r, h with
  | none, h => exact h
  | some (.data poll n part off body), h =>
    obtain ⟨p, b, e, h1, h2⟩ := h
    exact ⟨p, b, e, s _ _ h1, s _ _ h2⟩
  | some (.status upto ms), h =>
    obtain ⟨p, m, e, h1, h2⟩ := h
    exact ⟨p, m, e, s _ _ h1, h2.mono s⟩
theorem cutV_from {ds : List Int} {k : Int} (h0 : 0 ≤ k) : cutV (ds.map V.int) (some k) none = (ds.drop k.toNat).map V.int := by
  unfold cutV
  have e : k = ((k.toNat : Nat) : Int) := by omega
  rw [HT.sIx_none]
  rw [e, HT.sIx_nat, Int.toNat_natCast, List.length_map, ← List.map_drop, ← List.map_take]
  congr 1
  by_cases h : k.toNat ≤ ds.length
  · rw [Nat.min_eq_left h, List.take_of_length_le (by rw [List.length_drop]; omega)]
  · rw [Nat.min_eq_right (by omega), Nat.sub_self, List.take_zero, List.drop_eq_nil_of_le (by omega)]
theorem size_data {bits part : Int} (h : 1 ≤ bits) (h2 : bits ≤ 100) : 1 ≤ sizeF (dataW bits part) ∧ sizeF (dataW bits part) ≤ 20 := by
  unfold dataW sizeF
  split <;> simp <;> omega
theorem dataW_wok {bits part : Int} (h : 1 ≤ bits) : wok (dataW bits part) = true := by
  rw [wok_iff]
  unfold dataW
  intro w hw
  split at hw <;> simp at hw <;> omega
theorem dataW_le {bits part : Int} (h : bits ≤ 100) : ∀ w ∈ dataW bits part, w ≤ 1000 := by
  unfold dataW
  intro w hw
  split at hw <;> simp at hw <;> omega
theorem dataW_len (bits part : Int) : (dataW bits part).length ≤ 5 := by
  unfold dataW
  split <;> exact Nat.le_of_ble_eq_true rfl
section
variable {P : Program} {w : World} {K : PySem.W.Frag} {mg : Str → Option Value} {base : Heap}
def sp_u_has_offset (K : PySem.W.Frag) : Sp := fun vs H Q _ => ∃ p : Int, vs = [.int p] ∧ Q (.bl (hasOff p)) H
@[irreducible] def ip_u_has_offset (K : PySem.W.Frag) : Sp := sp_u_has_offset K
theorem op_u_has_offset {K : PySem.W.Frag} {vs : List V} {H : Hp} {Q : VK} {E : XK} (h : sp_u_has_offset K vs H Q E) : ip_u_has_offset K vs H Q E := by
  unfold ip_u_has_offset
  exact h
theorem un_u_has_offset {K : PySem.W.Frag} {vs : List V} {H : Hp} {Q : VK} {E : XK} (h : ip_u_has_offset K vs H Q E) : sp_u_has_offset K vs H Q E := by
  unfold ip_u_has_offset at h
  exact h
theorem ok_u_has_offset (T : Tx P w K mg base) : FnOk P w K mg base CX0 1 T.a_u_has_offset T.d_u_has_offset ["part"] (ip_u_has_offset K) := by
  refine T.p_u_has_offset.F.ok sc_u_has_offset (fun vs H Q E h => ?_) (fun cdv A outer s H vs Q E hr h => ?_)
  · obtain ⟨p, rfl, q⟩ := un_u_has_offset h
    rfl
  · obtain ⟨p, rfl, q⟩ := un_u_has_offset h
    refine ⟨_, (pss_one (ps_ret (pe_orM (pe_cmpR op_eq (pv 0) (pe_gint rfl T.g_END) (nomark _)) (pe_one (pe_cmpR op_eq (pv 0) (pe_gint rfl T.g_WITHIN) (nomark _)))))), ?_⟩
    (repeat walk_at "rd")
    refine br_eby (fun h => ?_) (fun h => ?_)
    · (repeat walk_at "rd")
      refine q_bl q ?_
      unfold hasOff
      rw [decide_eq_true h]
      rfl
    · (repeat walk_at "rd")
      refine q_bl q ?_
      unfold hasOff
      rw [decide_eq_false h, Bool.false_or]
      by_cases h3 : p = 3
      · rw [decide_eq_true h3, decide_eq_true (congrArg V.int h3)]
      · rw [decide_eq_false h3, decide_eq_false fun e => h3 (V.int.inj e)]
def sp_u_data_widths (K : PySem.W.Frag) : Sp := fun vs H Q _ => ∃ b p : Int, vs = [.int b, .int p] ∧ NewO (.lst ((dataW b p).map V.int)) H Q
@[irreducible] def ip_u_data_widths (K : PySem.W.Frag) : Sp := sp_u_data_widths K
theorem op_u_data_widths {K : PySem.W.Frag} {vs : List V} {H : Hp} {Q : VK} {E : XK} (h : sp_u_data_widths K vs H Q E) : ip_u_data_widths K vs H Q E := by
  unfold ip_u_data_widths
  exact h
theorem un_u_data_widths {K : PySem.W.Frag} {vs : List V} {H : Hp} {Q : VK} {E : XK} (h : ip_u_data_widths K vs H Q E) : sp_u_data_widths K vs H Q E := by
  unfold ip_u_data_widths at h
  exact h
theorem ok_u_data_widths (T : Tx P w K mg base) : FnOk P w K mg base CX0 2 T.a_u_data_widths T.d_u_data_widths ["bits", "part"] (ip_u_data_widths K) := by
  have G_u_has_offset := ok_u_has_offset T
  refine T.p_u_data_widths.F.ok sc_u_data_widths (fun vs H Q E h => ?_) (fun cdv A outer s H vs Q E hr h => ?_)
  · obtain ⟨b, p, rfl, q⟩ := un_u_data_widths h
    rfl
  · obtain ⟨b, p, rfl, q⟩ := un_u_data_widths h
    refine ⟨_, (pss_cons (ps_ifM (pt_val (pe_call G_u_has_offset (hr.mono (by decide)) rfl T.p_u_has_offset.m T.p_u_has_offset.F.kp T.p_u_has_offset.b .nil pass0 (pa_cons (pv 1) pa_nil))) (pss_one (ps_ret (pe_lstM (pa_cons pe_int (pa_cons pe_int (pa_cons (pv 0) (pa_cons pe_int (pa_cons pe_int pa_nil)))))))) pss_nil) (pss_one (ps_ret (pe_lstM (pa_cons pe_int (pa_cons pe_int (pa_cons (pv 0) (pa_cons pe_int pa_nil)))))))), ?_⟩
    (repeat walk_at "rd")
    refine op_u_has_offset ⟨p, rfl, ?_⟩
    (repeat walk_at "rd")
    unfold dataW at q
    refine br_b (fun h => ?_) (fun h => ?_)
    · rw [if_pos h] at q
      (repeat walk_at "rd")
      exact q
    · rw [if_neg (by rw [h]; decide)] at q
      (repeat walk_at "rd")
      exact q
def sp_data_piece (K : PySem.W.Frag) : Sp := fun vs H Q _ => ∃ (bits : Int) (poll : Bool) (n part off : Int) (b : Addr) (body : List Int), vs = [.int bits, .bl poll, .int n, .int part, .int off, .ref b] ∧ (1 ≤ bits ∧ bits ≤ 100) ∧ (0 ≤ part ∧ part < 4) ∧ (0 ≤ off ∧ off < 256) ∧ H b = some (.lst (body.map V.int)) ∧ body.length ≤ 10000 ∧
  NewO (.lst ((dataF bits poll n part off body).map V.int)) H Q
@[irreducible] def ip_data_piece (K : PySem.W.Frag) : Sp := sp_data_piece K
theorem op_data_piece {K : PySem.W.Frag} {vs : List V} {H : Hp} {Q : VK} {E : XK} (h : sp_data_piece K vs H Q E) : ip_data_piece K vs H Q E := by
  unfold ip_data_piece
  exact h
theorem un_data_piece {K : PySem.W.Frag} {vs : List V} {H : Hp} {Q : VK} {E : XK} (h : ip_data_piece K vs H Q E) : sp_data_piece K vs H Q E := by
  unfold ip_data_piece at h
  exact h
theorem ok_data_piece (T : Tx P w K mg base) : FnOk P w K mg base CX0 5 T.a_data_piece T.d_data_piece ["bits", "poll", "number", "part", "offset", "body"] (ip_data_piece K) := by
  have G_u_has_offset := ok_u_has_offset T
  have G_short := ok_short T
  have G_pack := ok_pack T
  have G_u_data_widths := ok_u_data_widths T
  refine T.p_data_piece.F.ok sc_data_piece (fun vs H Q E h => ?_) (fun cdv A outer s H vs Q E hr h => ?_)
  · obtain ⟨bits, poll, n, part, off, b, body, rfl, hb, hp, ho, hB, hl, q⟩ := un_data_piece h
    rfl
  · obtain ⟨bits, poll, n, part, off, b, body, rfl, hb, hp, ho, hB, hl, q⟩ := un_data_piece h
    refine ⟨_, (pss_cons (ps_set (i := 6) sc_data_piece.nd rfl (Or.inl rfl) (pe_lstM (pa_cons (pe_gint rfl T.g_DATA) (pa_cons (pe_ifM (pt_val (pv 1)) pe_int pe_int) (pa_cons (pe_call G_short (hr.mono (by decide)) rfl T.p_short.m T.p_short.F.kp T.p_short.b .nil pass0 (pa_cons (pv 2) (pa_cons (pv 0) pa_nil))) (pa_cons (pv 3) pa_nil)))))) (pss_cons (ps_ifM (pt_val (pe_call G_u_has_offset (hr.mono (by decide)) rfl T.p_u_has_offset.m T.p_u_has_offset.F.kp T.p_u_has_offset.b .nil pass0 (pa_cons (pv 3) pa_nil))) (pss_one (ps_expr (pe_app (pv 6) (pv 4)))) pss_nil) (pss_one (ps_ret (pe_op op_catM (pe_call G_pack (hr.mono (by decide)) rfl T.p_pack.m T.p_pack.F.kp T.p_pack.b .nil passL (pa_cons (pe_call G_u_data_widths (hr.mono (by decide)) rfl T.p_u_data_widths.m T.p_u_data_widths.F.kp T.p_u_data_widths.b .nil pass0 (pa_cons (pv 0) (pa_cons (pv 3) pa_nil))) (pa_cons (pv 6) pa_nil))) (pv 5)))))), ?_⟩
    have fin : ∀ (H1 H2 : Hp) (vp wp : Addr), Same H H1 → H1 vp = some (.lst ((dataVals poll (n % 2 ^ bits.toNat) part off).map V.int)) → Same H1 H2 → H2 wp = some (.lst ((dataW bits part).map V.int)) → ∀ (Q2 : VK), (∀ p3 H3, Same H H3 → H p3 = none → H3 p3 = some (.lst ((packF (dataW bits part) (dataVals poll (n % 2 ^ bits.toNat) part off)).map V.int)) → Q2 (.ref p3) H3) → ip_pack K T.C_NotValid [.ref wp, .ref vp] H2 Q2 E0 := fun H1 H2 vp wp s1 e1 s2 e2 Q2 k => by
      have hok := data_ok (poll := poll) hb.1 (sn := n % 2 ^ bits.toNat) ⟨Int.emod_nonneg _ (Int.ne_of_gt (pow_nn _)), Int.emod_lt_of_pos _ (pow_nn _)⟩ hp ho
      refine op_pack ⟨wp, vp, _, _, rfl, sq_of e2, sq_of (s2 _ _ e1), ?_, dataW_le hb.2, fun _ p3 H3 n3 s3 e3 => ?_, fun h => by rw [hok] at h; cases h⟩
      · exact Nat.le_trans (dataW_len _ _) (by decide)
      · have s13 := (s1.trans s2).trans s3
        exact k p3 H3 s13 ((s1.trans s2).free n3) e3
    have e0 : ∀ (ho2 : hasOff part = true), dataVals poll (n % 2 ^ bits.toNat) part off = [0, if poll = true then 1 else 0, n % 2 ^ bits.toNat, part] ++ [off] := fun h => by unfold dataVals; rw [if_pos h]; rfl
    have e1' : ∀ (ho2 : hasOff part = false), dataVals poll (n % 2 ^ bits.toNat) part off = [0, if poll = true then 1 else 0, n % 2 ^ bits.toNat, part] := fun h => by unfold dataVals; rw [if_neg (by rw [h]; decide)]
    have fin2 : ∀ (p3 : Addr) (H3 : Hp), Same H H3 → H p3 = none → H3 p3 = some (.lst ((packF (dataW bits part) (dataVals poll (n % 2 ^ bits.toNat) part off)).map V.int)) → mCat K (.ref p3) (.ref b) H3 Q := fun p3 H3 s3 n3 e3 => by
      have hl2 : (packF (dataW bits part) (dataVals poll (n % 2 ^ bits.toNat) part off)).length ≤ 20 := by
        have h1 := packF_length (vs := dataVals poll (n % 2 ^ bits.toNat) part off) (dataW_wok (part := part) hb.1)
        have h2 := size_data (part := part) hb.1 hb.2
        omega
      refine rd_cat e3 (s3 _ _ hB) (by rw [List.length_map, List.length_map]; omega) fun p4 H4 n4 s4 e4 => ?_
      refine q p4 H4 (s3.free n4) (s3.trans s4) ?_
      rw [e4]
      unfold dataF
      rw [List.map_append]
    cases poll
    all_goals
      (repeat walk_at "rd")
      refine op_short ⟨n, bits, rfl, by omega, by omega, ?_⟩
      (repeat walk_at "rd")
      intro vp H1 n1 s1 e1
      (repeat walk_at "rd")
      refine op_u_has_offset ⟨part, rfl, ?_⟩
      (repeat walk_at "rd")
      refine br_b (fun h => ?_) (fun h => ?_)
      · (repeat walk_at "rd")
        refine rd_app e1 (by exact Nat.le_of_ble_eq_true rfl) ?_
        (repeat walk_at "rd")
        refine op_u_data_widths ⟨bits, part, rfl, fun wp H2 n2 s2 e2 => ?_⟩
        (repeat walk_at "rd")
        exact fin (upd H1 vp _) H2 vp wp (same_mut s1 n1) (by rw [upd_same, e0 h]; rfl) s2 e2 _ fun p3 H3 s3 n3 e3 => by
          (repeat walk_at "rd")
          exact fin2 p3 H3 s3 n3 e3
      · (repeat walk_at "rd")
        refine op_u_data_widths ⟨bits, part, rfl, fun wp H2 n2 s2 e2 => ?_⟩
        (repeat walk_at "rd")
        exact fin H1 H2 vp wp s1 (by rw [e1, e1' h]; rfl) s2 e2 _ fun p3 H3 s3 n3 e3 => by
          (repeat walk_at "rd")
          exact fin2 p3 H3 s3 n3 e3
end
def partF (n start stop : Int) : Int := if start = 0 then (if stop = n then 0 else 1) else (if stop = n then 2 else 3)
def headF (bits start : Int) : Int := sizeF (dataW bits (if start = 0 then 1 else 3))
def endF (bits n start stop room : Int) : Int := min (min stop n) (start + room - headF bits start)
def midF (ds : List Int) (s e : Int) : List Int := (ds.drop s.toNat).take (e - s).toNat
theorem headF_eq {bits start : Int} : headF bits start = if start = 0 then (4 + bits + 7) / 8 else (12 + bits + 7) / 8 := by
  unfold headF sizeF dataW
  by_cases h : start = 0
  · rw [if_pos h, if_pos h, if_neg (by decide)]
    simp
    omega
  · rw [if_neg h, if_neg h, if_pos (by decide)]
    simp
    omega
theorem cutV_mid {ds : List Int} {s e : Int} (h0 : 0 ≤ s) (h1 : s ≤ e) (h2 : e ≤ (ds.length : Int)) : cutV (ds.map V.int) (some s) (some e) = (midF ds s e).map V.int := by
  unfold cutV midF
  have e1 : s = ((s.toNat : Nat) : Int) := by omega
  have e2 : e = ((e.toNat : Nat) : Int) := by omega
  rw [e1, e2, HT.sIx_nat, HT.sIx_nat, List.length_map, ← List.map_drop, ← List.map_take]
  congr 2
  · omega
  · congr 1
    omega
theorem midF_len {ds : List Int} {s e : Int} (h0 : 0 ≤ s) (h1 : s ≤ e) (h2 : e ≤ (ds.length : Int)) : ((midF ds s e).length : Int) = e - s := by
  unfold midF
  rw [List.length_take, List.length_drop]
  omega
theorem midF_app {ds : List Int} {s m e : Int} (h0 : 0 ≤ s) (h1 : s ≤ m) (h2 : m ≤ e) : midF ds s m ++ midF ds m e = midF ds s e := by
  unfold midF
  have e1 : (e - s).toNat = (m - s).toNat + (e - m).toNat := by omega
  have e2 : m.toNat = s.toNat + (m - s).toNat := by omega
  rw [e1, List.take_add, e2, List.drop_drop]
theorem midF_mem {ds : List Int} {s e d : Int} (h : d ∈ midF ds s e) : d ∈ ds := List.mem_of_mem_drop (List.mem_of_mem_take h)
section
variable {P : Program} {w : World} {K : PySem.W.Frag} {mg : Str → Option Value} {base : Heap}
def sp_u_part_of (K : PySem.W.Frag) : Sp := fun vs H Q _ => ∃ (a : Addr) (ds : List Int) (s' e' : Int), vs = [.ref a, .int s', .int e'] ∧ SqL K H a (ds.map V.int) ∧ Q (.int (partF ds.length s' e')) H
@[irreducible] def ip_u_part_of (K : PySem.W.Frag) : Sp := sp_u_part_of K
theorem op_u_part_of {K : PySem.W.Frag} {vs : List V} {H : Hp} {Q : VK} {E : XK} (h : sp_u_part_of K vs H Q E) : ip_u_part_of K vs H Q E := by
  unfold ip_u_part_of
  exact h
theorem un_u_part_of {K : PySem.W.Frag} {vs : List V} {H : Hp} {Q : VK} {E : XK} (h : ip_u_part_of K vs H Q E) : sp_u_part_of K vs H Q E := by
  unfold ip_u_part_of at h
  exact h
theorem ok_u_part_of (T : Tx P w K mg base) : FnOk P w K mg base CX0 1 T.a_u_part_of T.d_u_part_of ["packet", "start", "end"] (ip_u_part_of K) := by
  refine T.p_u_part_of.F.ok sc_u_part_of (fun vs H Q E h => ?_) (fun cdv A outer s H vs Q E hr h => ?_)
  · obtain ⟨a, ds, s', e', rfl, hA, q⟩ := un_u_part_of h
    rfl
  · obtain ⟨a, ds, s', e', rfl, hA, q⟩ := un_u_part_of h
    refine ⟨_, (pss_cons (ps_ifM (pt_cmpR op_eq (pv 1) pe_int (nomark _)) (pss_one (ps_ret (pe_ifM (pt_cmpR op_eq (pv 2) (pe_callB call_lenM (by rfl) T.n_len PySem.boot_len (pa_cons (pv 0) pa_nil)) (nomark _)) (pe_gint rfl T.g_WHOLE) (pe_gint rfl T.g_BEGINNING)))) pss_nil) (pss_one (ps_ret (pe_ifM (pt_cmpR op_eq (pv 2) (pe_callB call_lenM (by rfl) T.n_len PySem.boot_len (pa_cons (pv 0) pa_nil)) (nomark _)) (pe_gint rfl T.g_END) (pe_gint rfl T.g_WITHIN))))), ?_⟩
    unfold partF at q
    (repeat walk_at "rd")
    refine br_eby (fun h => ?_) (fun h => ?_)
    · rw [if_pos h] at q
      (repeat walk_at "rd")
      refine br_eby (fun h1 => ?_) (fun h1 => ?_)
      · rw [if_pos h1] at q
        (repeat walk_at "rd")
        exact q
      · rw [if_neg h1] at q
        (repeat walk_at "rd")
        exact q
    · rw [if_neg h] at q
      (repeat walk_at "rd")
      refine br_eby (fun h1 => ?_) (fun h1 => ?_)
      · rw [if_pos h1] at q
        (repeat walk_at "rd")
        exact q
      · rw [if_neg h1] at q
        (repeat walk_at "rd")
        exact q
def sp_cut (K : PySem.W.Frag) : Sp := fun vs H Q _ => ∃ (bits : Int) (poll : Bool) (n : Int) (a : Addr) (ds : List Int) (s' e' r' : Int), vs = [.int bits, .bl poll, .int n, .ref a, .int s', .int e', .int r'] ∧ (1 ≤ bits ∧ bits ≤ 100) ∧ SqL K H a (ds.map V.int) ∧ ds.length ≤ 200 ∧ (0 ≤ s' ∧ s' < 256) ∧ (s' < e') ∧
  (endF bits ds.length s' e' r' ≤ s' → ∀ H', Same H H' → Q .non H') ∧
  (s' < endF bits ds.length s' e' r' → ∀ (t p : Addr) (H' : Hp), H t = none → H p = none → t ≠ p → Same H H' → H' t = some (.tup [.ref p, .int (endF bits ds.length s' e' r')]) → H' p = some (.lst ((dataF bits poll n (partF ds.length s' (endF bits ds.length s' e' r')) s' (midF ds s' (endF bits ds.length s' e' r'))).map V.int)) → Q (.ref t) H')
@[irreducible] def ip_cut (K : PySem.W.Frag) : Sp := sp_cut K
theorem op_cut {K : PySem.W.Frag} {vs : List V} {H : Hp} {Q : VK} {E : XK} (h : sp_cut K vs H Q E) : ip_cut K vs H Q E := by
  unfold ip_cut
  exact h
theorem un_cut {K : PySem.W.Frag} {vs : List V} {H : Hp} {Q : VK} {E : XK} (h : ip_cut K vs H Q E) : sp_cut K vs H Q E := by
  unfold ip_cut at h
  exact h
theorem ok_cut (T : Tx P w K mg base) : FnOk P w K mg base CX0 6 T.a_cut T.d_cut ["bits", "poll", "number", "packet", "start", "stop", "room"] (ip_cut K) := by
  have G_field_bytes := ok_field_bytes T
  have G_u_part_of := ok_u_part_of T
  have G_u_data_widths := ok_u_data_widths T
  have G_data_piece := ok_data_piece T
  refine T.p_cut.F.ok sc_cut (fun vs H Q E h => ?_) (fun cdv A outer s H vs Q E hr h => ?_)
  · obtain ⟨bits, poll, n, a, ds, s', e', r', rfl, hb, hA, hd, hs, he, qn, qs⟩ := un_cut h
    rfl
  · obtain ⟨bits, poll, n, a, ds, s', e', r', rfl, hb, hA, hd, hs, he, qn, qs⟩ := un_cut h
    refine ⟨_, (pss_cons (ps_set (i := 7) sc_cut.nd rfl (Or.inl rfl) (pe_call G_field_bytes (hr.mono (by decide)) rfl T.p_field_bytes.m T.p_field_bytes.F.kp T.p_field_bytes.b .nil passL (pa_cons (pe_call G_u_data_widths (hr.mono (by decide)) rfl T.p_u_data_widths.m T.p_u_data_widths.F.kp T.p_u_data_widths.b .nil pass0 (pa_cons (pv 0) (pa_cons (pe_ifM (pt_cmpR op_eq (pv 4) pe_int (nomark _)) (pe_gint rfl T.g_BEGINNING) (pe_gint rfl T.g_WITHIN)) pa_nil))) pa_nil))) (pss_cons (ps_set (i := 8) sc_cut.nd rfl (Or.inl rfl) (pe_callB (call_min3M rfl) (by rfl) T.n_min (by decide +kernel) (pa_cons (pv 5) (pa_cons (pe_callB call_lenM (by rfl) T.n_len PySem.boot_len (pa_cons (pv 3) pa_nil)) (pa_cons (pe_op op_subM (pe_op op_addM (pv 4) (pv 6)) (pv 7)) pa_nil))))) (pss_cons (ps_ifM (pt_cmpR op_leM (pv 8) (pv 4) (nomark _)) (pss_one (ps_ret pe_non)) pss_nil) (pss_cons (ps_set (i := 9) sc_cut.nd rfl (Or.inl rfl) (pe_call G_u_part_of (hr.mono (by decide)) rfl T.p_u_part_of.m T.p_u_part_of.F.kp T.p_u_part_of.b .nil pass0 (pa_cons (pv 3) (pa_cons (pv 4) (pa_cons (pv 8) pa_nil))))) (pss_one (ps_ret (pe_tupM (pa_cons (pe_call G_data_piece (hr.mono (by decide)) rfl T.p_data_piece.m T.p_data_piece.F.kp T.p_data_piece.b .nil pass0 (pa_cons (pv 0) (pa_cons (pv 1) (pa_cons (pv 2) (pa_cons (pv 9) (pa_cons (pv 4) (pa_cons (pe_slice sl_listM (pv 3) (po_some (pv 4)) (po_some (pv 8))) pa_nil))))))) (pa_cons (pv 8) pa_nil))))))))), ?_⟩
    have main : ∀ (H1 : Hp) (wp : Addr), Same H H1 → H1 wp = some (.lst ((dataW bits (if s' = 0 then 1 else 3)).map V.int)) → ∀ Q2 : VK, (Q2 (.int (headF bits s')) H1) → ip_field_bytes K T.C_NotValid [.ref wp] H1 Q2 E0 := fun H1 wp s1 e1 Q2 k => by
      have hwk := dataW_wok (part := if s' = 0 then 1 else 3) hb.1
      exact op_field_bytes ⟨wp, _, rfl, sq_of e1, fun _ => k, fun h => by rw [hwk] at h; cases h⟩
    have fin : ∀ (H1 : Hp), Same H H1 → s' < endF bits ds.length s' e' r' → ∀ Q2 : VK, (∀ p b H3, H1 p = none → Same H1 H3 → H3 p = some (.lst ((dataF bits poll n (partF ds.length s' (endF bits ds.length s' e' r')) s' (midF ds s' (endF bits ds.length s' e' r'))).map V.int)) → b = b → Q2 (.ref p) H3) → mSlL K (.ref a) (some s') (some (endF bits ds.length s' e' r')) H1 (fun v H2 => ip_data_piece K [.int bits, .bl poll, .int n, .int (partF ds.length s' (endF bits ds.length s' e' r')), .int s', v] H2 Q2 E0) := fun H1 s1 hlt Q2 k => by
      have hle : endF bits ds.length s' e' r' ≤ (ds.length : Int) := by unfold endF; omega
      refine rd_sl (s1.seq hA) fun b H2 n2 s2 e2 => ?_
      rw [cutV_mid hs.1 (by omega) hle] at e2
      have hml := midF_len (ds := ds) hs.1 (by omega : s' ≤ endF bits ds.length s' e' r') hle
      have hpt : 0 ≤ partF ds.length s' (endF bits ds.length s' e' r') ∧ partF ds.length s' (endF bits ds.length s' e' r') < 4 := by
        unfold partF
        split <;> split <;> decide
      exact op_data_piece ⟨bits, poll, n, _, s', b, _, rfl, hb, hpt, hs, e2, by omega, fun p3 H3 n3 s3 e3 => k p3 b H3 (same_none s2 n3) (s2.trans s3) e3 rfl⟩
    have rest : ∀ (H1 : Hp), Same H H1 → ∀ x : Int, x = endF bits ds.length s' e' r' → x = x := fun _ _ _ _ => rfl
    (repeat walk_at "rd")
    refine br_eby (fun h0 => ?_) (fun h0 => ?_)
    all_goals
      (repeat walk_at "rd")
      refine op_u_data_widths ⟨bits, _, rfl, fun wp H1 n1 s1 e1 => ?_⟩
      (repeat walk_at "rd")
      refine main H1 wp s1 (by rw [e1]; first | rw [if_pos h0] | rw [if_neg h0]) _ ?_
      (repeat walk_at "rd")
      have ee : min (min e' (ds.length : Int)) (s' + r' - headF bits s') = endF bits ds.length s' e' r' := rfl
      rw [ee]
      refine br_by (fun hle => ?_) (fun hlt => ?_)
      · (repeat walk_at "rd")
        exact qn hle H1 s1
      · (repeat walk_at "rd")
        refine op_u_part_of ⟨a, ds, _, _, rfl, s1.seq hA, ?_⟩
        (repeat walk_at "rd")
        refine fin H1 s1 (by omega) _ fun p b H3 np s3 e3 _ => ?_
        (repeat walk_at "rd")
        intro t H4 n4 s4 e4
        exact qs (by omega) t p H4 (same_none (s1.trans s3) n4) (same_none s1 np) (fun z => (by rw [z, e3] at n4; cases n4)) ((s1.trans s3).trans s4) e4 (s4 _ _ e3)
end
def rowStep (rows : List (Int × Int)) (k : Int) (f : Bool) : List (Int × Int) := if f = true then (match rows.getLast? with | some r => if r.2 = k - 1 then rows.dropLast ++ [(r.1, k)] else rows ++ [(k, k)] | none => rows ++ [(k, k)]) else rows
def rowsG : List (Int × Int) → Int → List Bool → List (Int × Int)
  | r, _, [] => r
  | r, k, f :: t => rowsG (rowStep r k f) (k + 1) t
def rowsF (fl : List Bool) : List (Int × Int) := rowsG [] 0 fl
theorem rowsG_snoc : ∀ (fl : List Bool) (r : List (Int × Int)) (k : Int) (f : Bool), rowsG r k (fl ++ [f]) = rowStep (rowsG r k fl) (k + fl.length) f
  | [], r, k, f => by
    show rowStep r k f = rowStep r (k + (0 : Nat)) f
    congr 1
    omega
  | g :: t, r, k, f => by
    show rowsG (rowStep r k g) (k + 1) (t ++ [f]) = rowStep (rowsG (rowStep r k g) (k + 1) t) _ f
    rw [rowsG_snoc t]
    congr 1
    rw [List.length_cons]
    omega
theorem rowStep_len (r : List (Int × Int)) (k : Int) (f : Bool) : (rowStep r k f).length ≤ r.length + 1 := by
  unfold rowStep
  split
  · split
    · split
      · rw [List.length_append, List.length_dropLast, List.length_singleton]
        omega
      · rw [List.length_append, List.length_singleton]
        omega
    · rw [List.length_append, List.length_singleton]
      omega
  · omega
theorem rowsG_len : ∀ (fl : List Bool) (r : List (Int × Int)) (k : Int), (rowsG r k fl).length ≤ r.length + fl.length
  | [], r, k => Nat.le_refl _
  | f :: t, r, k => by
    have h1 := rowsG_len t (rowStep r k f) (k + 1)
    have h2 := rowStep_len r k f
    show (rowsG (rowStep r k f) (k + 1) t).length ≤ _
    rw [List.length_cons]
    omega
theorem PrsAt.last {B : Hp} : ∀ {ps : List Addr} {r : List (Int × Int)}, PrsAt B ps r → ∀ {x : Int × Int}, r.getLast? = some x → ∃ q p, ps = q ++ [p] ∧ B p = some (.tup [.int x.1, .int x.2]) ∧ PrsAt B q r.dropLast
  | _, _, .nil, x, e => by cases e
  | _, _, .cons (p := p) (ps := ps) (i := i) (j := j) (r := r) h t, x, e => by
    cases t with
    | nil =>
      cases e
      exact ⟨[], p, rfl, h, .nil⟩
    | cons h2 t2 =>
      rw [List.getLast?_cons_cons] at e
      obtain ⟨q, p', e1, e2, e3⟩ := PrsAt.last (.cons h2 t2) e
      exact ⟨p :: q, p', by rw [e1]; rfl, e2, .cons h e3⟩
theorem rd_setLast {l : Addr} {xs : List V} {x y : V} {H : Hp} {Q : Hp → Prop} (h : H l = some (.lst (xs ++ [x]))) (q : Q (upd H l (.lst (xs ++ [y])))) : mSetL (.ref l) (.int (-1)) y H Q := by
  unfold mSetL
  refine ⟨l, xs ++ [x], -1, xs.length, rfl, rfl, h, ?_, ?_⟩
  · unfold ixN
    rw [List.length_append, List.length_singleton]
    first
      | (rw [if_neg (by omega), if_pos (by omega)]; congr 1; omega)
      | (rw [if_pos (by omega), if_pos (by omega)]; congr 1; omega)
      | (simp; omega)
  · rw [List.set_append_right _ _ (Nat.le_refl _), Nat.sub_self]
    exact q
section
variable {P : Program} {w : World} {K : PySem.W.Frag} {mg : Str → Option Value} {base : Heap}
def sp_true_rows (K : PySem.W.Frag) : Sp := fun vs H Q _ => ∃ (a : Addr) (fl : List Bool), vs = [.ref a] ∧ SqL K H a (fl.map V.bl) ∧ fl.length ≤ 1000 ∧ ∀ (p : Addr) (ps : List Addr) (H' : Hp), H p = none → Same H H' → H' p = some (.lst (ps.map V.ref)) → PrsAt H' ps (rowsF fl) → Q (.ref p) H'
@[irreducible] def ip_true_rows (K : PySem.W.Frag) : Sp := sp_true_rows K
theorem op_true_rows {K : PySem.W.Frag} {vs : List V} {H : Hp} {Q : VK} {E : XK} (h : sp_true_rows K vs H Q E) : ip_true_rows K vs H Q E := by
  unfold ip_true_rows
  exact h
theorem un_true_rows {K : PySem.W.Frag} {vs : List V} {H : Hp} {Q : VK} {E : XK} (h : ip_true_rows K vs H Q E) : sp_true_rows K vs H Q E := by
  unfold ip_true_rows at h
  exact h
theorem ok_true_rows (T : Tx P w K mg base) : FnOk P w K mg base CX0 1 T.a_true_rows T.d_true_rows ["flags"] (ip_true_rows K) := by
  refine T.p_true_rows.F.ok sc_true_rows (fun vs H Q E h => ?_) (fun cdv A outer s H vs Q E hr h => ?_)
  · obtain ⟨a, fl, rfl, hS, hl, q⟩ := un_true_rows h
    rfl
  · obtain ⟨a, fl, rfl, hS, hl, q⟩ := un_true_rows h
    refine ⟨_, (pss_cons (ps_set (i := 1) sc_true_rows.nd rfl (Or.inl rfl) (pe_lstM pa_nil)) (pss_cons (ps_forE PassesOwn.never rfl rfl T.n_enumerate (pa_cons (pv 0) pa_nil) (pg_tup rfl (pgs_cons (pg_name (i := 2) sc_true_rows.nd rfl (Or.inl rfl)) (pgs_cons (pg_name (i := 3) sc_true_rows.nd rfl (Or.inl rfl)) pgs_nil))) (pss_one (ps_ifM (PW.pt (pw_andM (pt_val (pv 3)) (pw_andM (pt_truthM (pv 1) (by intro _; rfl)) (pw_and1 (pt_cmpR op_eq (pe_ix ix_tupM (pe_ix ix_listM (pv 1) (pe_un un_neg pe_int) (fun _ _ => rfl)) pe_int (fun _ _ => rfl)) (pe_op op_subM (pv 2) pe_int) (nomark _)))))) (pss_one (ps_asg (pe_tupM (pa_cons (pe_ix ix_tupM (pe_ix ix_listM (pv 1) (pe_un un_neg pe_int) (fun _ _ => rfl)) pe_int (fun _ _ => rfl)) (pa_cons (pv 2) pa_nil))) (pg_sub (pv 1) (pe_un un_neg pe_int) set_listM))) (pss_one (ps_ifM (pt_val (pv 3)) (pss_one (ps_expr (pe_app (pv 1) (pe_tupM (pa_cons (pv 2) (pa_cons (pv 2) pa_nil)))))) pss_nil))))) (pss_one (ps_ret (pv 1))))), ?_⟩
    (repeat walk_at "rd")
    intro p H1 n1 s1 e1
    have w1 : Own H H [] H [(p, .lst [])] H1 := Own.mk0.add n1 s1 e1
    (repeat walk_at "rd")
    refine rd_forE ?_
    (repeat walk_at "rd")
    refine ⟨a, fl.map V.bl, fun i σ H' => Stop (∃ (B : Hp) (ps : List Addr) (x y : Option V), Own H H [] B [(p, .lst (ps.map V.ref))] H' ∧ PrsAt B ps (rowsG [] 0 (fl.take i)) ∧ σ = [some (.ref a), some (.ref p), x, y]), rfl, sq_step hS s1, .a ⟨H, [], _, _, w1, .nil, rfl⟩, fun i σ' H' _ w => ?_, fun i y σ' H' H2 hi w s2 => ?_, fun σ' H' w => ?_⟩
    · obtain ⟨B, ps, x, y, w2, _, _⟩ := w.un
      exact w2.same.seq hS
    · obtain ⟨B, ps, x, y0, w2, hp, rfl⟩ := w.un
      rw [List.getElem?_map] at hi
      obtain ⟨f, hf, rfl⟩ := Option.map_eq_some_iff.mp hi
      have hil := (List.getElem?_eq_some_iff.mp hf).1
      have et : rowsG [] 0 (fl.take (i + 1)) = rowStep (rowsG [] 0 (fl.take i)) (i : Nat) f := by
        rw [take_snoc hf, rowsG_snoc, List.length_take]
        congr 1
        omega
      have w3 := w2.more s2
      have hlen := hp.len
      have hrl := rowsG_len (fl.take i) [] 0
      rw [List.length_take] at hrl
      generalize rowsG [] 0 (fl.take i) = r at *
      have hrl2 : ps.length ≤ 1000 := by
        rw [hlen]
        have : ([] : List (Int × Int)).length = 0 := rfl
        omega
      -- one more row
      have more : ∀ (t : Addr) (H3 : Hp), H2 t = none → Same H2 H3 → H3 t = some (.tup [.int (i : Nat), .int (i : Nat)]) → rowStep r (i : Nat) f = r ++ [((i : Int), (i : Int))] → ∃ B', Own H H [] B' [(p, .lst ((ps ++ [t]).map V.ref))] (upd H3 p (.lst (ps.map V.ref ++ [.ref t]))) ∧ PrsAt B' (ps ++ [t]) (rowStep r (i : Nat) f) := fun t H3 n3 s3 e3 er => by
        obtain ⟨B', sB, hB, _, w4⟩ := w3.ro n3 s3 e3
        refine ⟨B', ?_, ?_⟩
        · have := w4.set 0 rfl (.lst (ps.map V.ref ++ [.ref t]))
          rw [snocR] at this ⊢
          exact this
        · rw [er]
          exact (hp.mono sB).snoc hB
      cases f with
      | false =>
        repeat (first | walk_at "rd" | refine br_F ?_)
        exact .a ⟨B, ps, _, _, w3, et.symm ▸ hp, rfl⟩
      | true =>
        (repeat walk_at "rd")
        cases hr : r.getLast? with
        | none =>
          have er : r = [] := List.getLast?_eq_none_iff.mp hr
          subst er
          have eps : ps = [] := List.length_eq_zero_iff.mp hlen
          subst eps
          have e0 : (!([] : List V).isEmpty) = false := rfl
          repeat (first | walk_at "rd" | refine br_F ?_)
          intro t H3 n3 s3 e3
          refine rd_app (s3 _ _ (w3.mem (.head _))) (by decide) ?_
          obtain ⟨B', w5, hp5⟩ := more t H3 n3 s3 e3 rfl
          exact .a ⟨B', [t], _, _, w5, et.symm ▸ hp5, rfl⟩
        | some z =>
          obtain ⟨q0, p0, eps, hp0, hq0⟩ := hp.last hr
          subst eps
          have e0 : (!((q0 ++ [p0]).map V.ref).isEmpty) = true := by
            rw [List.map_append]
            cases q0 <;> rfl
          rw [e0]
          (repeat walk_at "rd")
          refine rd_ixL (by walk_at "sq") (by rw [List.map_append]; exact atI_last _ _) ?_
          (repeat walk_at "rd")
          refine rd_ixT (st_of (w3.imm _ _ hp0)) rfl ?_
          (repeat walk_at "rd")
          refine br_eby (fun h => ?_) (fun h => ?_)
          · (repeat walk_at "rd")
            refine rd_ixL (by walk_at "sq") (by rw [List.map_append]; exact atI_last _ _) ?_
            (repeat walk_at "rd")
            refine rd_ixT (st_of (w3.imm _ _ hp0)) rfl ?_
            (repeat walk_at "rd")
            intro t H3 n3 s3 e3
            (repeat walk_at "rd")
            obtain ⟨B', sB, hB, _, w4⟩ := w3.ro n3 s3 e3
            refine rd_setLast (xs := q0.map V.ref) (x := .ref p0) (by rw [snocR]; exact w4.mem (.head _)) ?_
            have w5 := w4.set 0 rfl (.lst (q0.map V.ref ++ [.ref t]))
            refine .a ⟨B', q0 ++ [t], _, _, ?_, ?_, rfl⟩
            · rw [snocR] at w5 ⊢
              exact w5
            · have er : rowStep r (i : Nat) true = r.dropLast ++ [(z.1, (i : Int))] := by
                unfold rowStep
                rw [if_pos rfl, hr]
                exact if_pos h
              rw [et, er]
              exact (hq0.mono sB).snoc hB
          · (repeat walk_at "rd")
            intro t H3 n3 s3 e3
            refine rd_app (s3 _ _ (w3.mem (.head _))) (by rw [List.length_map]; omega) ?_
            obtain ⟨B', w5, hp5⟩ := more t H3 n3 s3 e3 (by
              unfold rowStep
              rw [if_pos rfl, hr]
              exact if_neg h)
            exact .a ⟨B', q0 ++ [p0] ++ [t], _, _, w5, et.symm ▸ hp5, rfl⟩
    · obtain ⟨B, ps, x, y, w2, hp, rfl⟩ := w.un
      rw [List.length_map, List.take_length] at hp
      (repeat walk_at "rd")
      have hn : H p = none := (w2.own p _ (.head _)).elim (fun z => nomatch z) id
      exact q p ps H' hn w2.same (w2.mem (.head _)) (hp.mono w2.imm)
def sp_is_between (K : PySem.W.Frag) : Sp := fun vs H Q _ => ∃ v l m : Int, vs = [.int v, .int l, .int m] ∧ Q (.bl (decide (l ≤ v) && decide (v ≤ m))) H
@[irreducible] def ip_is_between (K : PySem.W.Frag) : Sp := sp_is_between K
theorem op_is_between {K : PySem.W.Frag} {vs : List V} {H : Hp} {Q : VK} {E : XK} (h : sp_is_between K vs H Q E) : ip_is_between K vs H Q E := by
  unfold ip_is_between
  exact h
theorem un_is_between {K : PySem.W.Frag} {vs : List V} {H : Hp} {Q : VK} {E : XK} (h : ip_is_between K vs H Q E) : sp_is_between K vs H Q E := by
  unfold ip_is_between at h
  exact h
theorem ok_is_between (T : Tx P w K mg base) : FnOk P w K mg base CX0 1 T.a_is_between T.d_is_between ["value", "least", "most"] (ip_is_between K) := by
  refine T.p_is_between.F.ok sc_is_between (fun vs H Q E h => ?_) (fun cdv A outer s H vs Q E hr h => ?_)
  · obtain ⟨v, l, m, rfl, q⟩ := un_is_between h
    rfl
  · obtain ⟨v, l, m, rfl, q⟩ := un_is_between h
    refine ⟨_, (pss_one (ps_ret (pe_andM (pe_callB call_isiM (by rfl) T.n_isinstance (by decide +kernel) (pa_cons (pv 0) (pa_cons (pe_bltn (v := .ty "int") rfl T.n_int (by decide +kernel) rfl) pa_nil))) (pe_andM (pe_not (pe_callB call_isiM (by rfl) T.n_isinstance (by decide +kernel) (pa_cons (pv 0) (pa_cons (pe_bltn (v := .ty "bool") rfl T.n_bool (by decide +kernel) rfl) pa_nil)))) (pe_andM (pe_cmpR op_geM (pv 0) (pv 1) (nomark _)) (pe_one (pe_cmpR op_leM (pv 0) (pv 2) (nomark _)))))))), ?_⟩
    (repeat walk_at "rd")
    refine br_by (fun h => ?_) (fun h => ?_)
    · rw [decide_eq_true h] at q
      (repeat walk_at "rd")
      exact q
    · rw [decide_eq_false h] at q
      (repeat walk_at "rd")
      exact q
def sp_check_bits (K : PySem.W.Frag) : Sp := fun vs H Q _ => ∃ b : Int, vs = [.int b] ∧ (3 ≤ b ∧ b ≤ 6) ∧ Q .non H
@[irreducible] def ip_check_bits (K : PySem.W.Frag) : Sp := sp_check_bits K
theorem op_check_bits {K : PySem.W.Frag} {vs : List V} {H : Hp} {Q : VK} {E : XK} (h : sp_check_bits K vs H Q E) : ip_check_bits K vs H Q E := by
  unfold ip_check_bits
  exact h
theorem un_check_bits {K : PySem.W.Frag} {vs : List V} {H : Hp} {Q : VK} {E : XK} (h : ip_check_bits K vs H Q E) : sp_check_bits K vs H Q E := by
  unfold ip_check_bits at h
  exact h
theorem ok_check_bits (T : Tx P w K mg base) : FnOk P w K mg base (L2.CX P w) 3 T.a_check_bits T.d_check_bits ["bits"] (ip_check_bits K) := by
  have G_is_between := ok_is_between T
  refine T.p_check_bits.F.okX sc_check_bits (fun vs H Q E h => ?_) (fun cdv A outer s H vs Q E hr h => ?_)
  · obtain ⟨b, rfl, hb, q⟩ := un_check_bits h
    rfl
  · obtain ⟨b, rfl, hb, q⟩ := un_check_bits h
    refine ⟨_, (pss_one (ps_ifM (pt_not (pt_val (pe_call G_is_between (hr.mono (by decide)) rfl T.p_is_between.m T.p_is_between.F.kp T.p_is_between.b .nil pass0 (pa_cons (pv 0) (pa_cons (pe_gint rfl T.g_LEAST_BITS) (pa_cons (pe_gint rfl T.g_GREATEST_BITS) pa_nil)))))) (pss_one (ps_raise rfl (takes_of rfl rfl rfl rfl) (pmk_plain T.x_NotValid (hr.mono (by decide)) rfl))) pss_nil)), ?_⟩
    (repeat walk_at "rd")
    refine op_is_between ⟨b, 3, 6, rfl, ?_⟩
    have e : (decide (3 ≤ b) && decide (b ≤ 6)) = true := by
      rw [decide_eq_true hb.1, decide_eq_true hb.2]
      rfl
    rw [e]
    (repeat walk_at "rd")
    exact q
end
/-! packets by their counts: a dict of whole numbers to lists of whole numbers -/
abbrev Pk := List (Int × Addr × List Int)
abbrev KX := List (Int × List Int)
def pkK (pk : Pk) : List (Key × V) := pk.map fun x => (.inl x.1, .ref x.2.1)
def pkX (pk : Pk) : KX := pk.map fun x => (x.1, x.2.2)
def PkAt (B : Hp) (pk : Pk) : Prop := ∀ x ∈ pk, B x.2.1 = some (.lst (x.2.2.map V.int))
theorem PkAt.mono {B B' : Hp} {pk : Pk} (h : PkAt B pk) (s : Same B B') : PkAt B' pk := fun x hx => s _ _ (h x hx)
theorem pkK_keys (pk : Pk) : (pkK pk).map Prod.fst = (pk.map Prod.fst).map Sum.inl := by
  unfold pkK
  rw [List.map_map, List.map_map]
  rfl
theorem pkX_keys (pk : Pk) : (pkX pk).map Prod.fst = pk.map Prod.fst := by
  unfold pkX
  rw [List.map_map]
  rfl
theorem pk_val {pk : Pk} (nd : (pk.map Prod.fst).Nodup) {x : Int × Addr × List Int} (h : x ∈ pk) : valV (pkK pk) (.inl x.1) = some (.ref x.2.1) := by
  induction pk with
  | nil => cases h
  | cons y r ih =>
    have nd2 := List.nodup_cons.mp nd
    unfold pkK
    rw [List.map_cons]
    rcases List.mem_cons.mp h with h | h
    · subst h
      exact valV_pos rfl
    · rw [valV_neg (fun e => nd2.1 (by
        have e2 : y.1 = x.1 := Sum.inl.inj e
        rw [e2]
        exact List.mem_map.mpr ⟨x, h, rfl⟩))]
      exact ih nd2.2 h
theorem pk_none {pk : Pk} {n : Int} (h : n ∉ pk.map Prod.fst) : valV (pkK pk) (.inl n) = none := by
  induction pk with
  | nil => rfl
  | cons y r ih =>
    unfold pkK
    rw [List.map_cons]
    rw [List.map_cons] at h
    rw [valV_neg (fun e => h (by
      have e2 : y.1 = n := Sum.inl.inj e
      rw [← e2]
      exact .head _))]
    exact ih fun z => h (.tail _ z)
theorem pk_is (pk : Pk) (n : Int) : (valV (pkK pk) (.inl n)).isSome = decide (n ∈ pk.map Prod.fst) := by
  induction pk with
  | nil => rfl
  | cons y r ih =>
    unfold pkK
    rw [List.map_cons, List.map_cons]
    by_cases e : y.1 = n
    · rw [valV_pos (congrArg Sum.inl e), e]
      exact (decide_eq_true (.head _)).symm
    · rw [valV_neg (fun z => e (Sum.inl.inj z))]
      refine ih.trans ?_
      refine decide_eq_decide.mpr ⟨fun z => .tail _ z, fun z => ?_⟩
      rcases List.mem_cons.mp z with z | z
      · exact absurd z.symm e
      · exact z
theorem pk_put {pk : Pk} {n : Int} {q : Addr} {x : List Int} (h : n ∉ pk.map Prod.fst) : putK (pkK pk) (.inl n) (.ref q) = pkK (pk ++ [(n, q, x)]) := by
  rw [putK_new _ (pk_none h)]
  unfold pkK
  rw [List.map_append]
  rfl
theorem pk_drop (pk : Pk) (n : Int) : dropK (pkK pk) (.inl n) = pkK (pk.filter fun x => !decide (x.1 = n)) := by
  unfold dropK pkK
  rw [List.filter_map]
  congr 1
  refine List.filter_congr fun x _ => ?_
  show decide ((Sum.inl x.1 : Key) ≠ Sum.inl n) = _
  by_cases h : x.1 = n
  · subst h
    simp
  · have e : (Sum.inl x.1 : Key) ≠ Sum.inl n := fun e => h (Sum.inl.inj e)
    simp [h]
theorem PkAt.filter {B : Hp} {pk : Pk} (h : PkAt B pk) (f : Int × Addr × List Int → Bool) : PkAt B (pk.filter f) := fun x hx => h x (List.mem_filter.mp hx).1
theorem PkAt.snoc {B : Hp} {pk : Pk} {n : Int} {q : Addr} {x : List Int} (h : PkAt B pk) (e : B q = some (.lst (x.map V.int))) : PkAt B (pk ++ [(n, q, x)]) := fun y hy => by
  rcases List.mem_append.mp hy with hy | hy
  · exact h y hy
  · rw [List.mem_singleton.mp hy]
    exact e
/-! lists of pairs (count, list), all new -/
inductive IOs (H : Hp) : List Addr → List Addr → KX → Prop
  | nil : IOs H [] [] []
  | cons {t q : Addr} {ts qs : List Addr} {c : Int} {x : List Int} {r : KX} (h : H t = some (.tup [.int c, .ref q])) (h2 : H q = some (.lst (x.map V.int))) (tl : IOs H ts qs r) : IOs H (t :: ts) (q :: qs) ((c, x) :: r)
section
variable {H H' : Hp} {ts qs : List Addr} {k : KX} {t q : Addr} {c : Int} {x : List Int}
theorem IOs.mono (h : IOs H ts qs k) (s : Same H H') : IOs H' ts qs k := by
  induction h with
  | nil => exact .nil
  | cons h h2 _ ih => exact .cons (s _ _ h) (s _ _ h2) ih
theorem IOs.stay (h : IOs H ts qs k) (s : ∀ p, p ∈ ts ∨ p ∈ qs → H' p = H p) : IOs H' ts qs k := by
  induction h with
  | nil => exact .nil
  | cons h h2 _ ih => exact .cons ((s _ (.inl (.head _))).trans h) ((s _ (.inr (.head _))).trans h2) (ih fun p hp => s p (hp.elim (fun z => .inl (.tail _ z)) (fun z => .inr (.tail _ z))))
theorem IOs.snoc (h : IOs H ts qs k) (e : H t = some (.tup [.int c, .ref q])) (e2 : H q = some (.lst (x.map V.int))) : IOs H (ts ++ [t]) (qs ++ [q]) (k ++ [(c, x)]) := by
  induction h with
  | nil => exact .cons e e2 .nil
  | cons h h2 _ ih => exact .cons h h2 ih
theorem IOs.len (h : IOs H ts qs k) : ts.length = k.length ∧ qs.length = k.length := by
  induction h with
  | nil => exact ⟨rfl, rfl⟩
  | cons _ _ _ ih => exact ⟨by rw [List.length_cons, List.length_cons, ih.1], by rw [List.length_cons, List.length_cons, ih.2]⟩
theorem IOs.memt (h : IOs H ts qs k) (ht : t ∈ ts) : ∃ c q, H t = some (.tup [.int c, .ref q]) := by
  induction h with
  | nil => cases ht
  | cons h _ _ ih =>
    rcases List.mem_cons.mp ht with e | z
    · rw [e]
      exact ⟨_, _, h⟩
    · exact ih z
theorem IOs.memq (h : IOs H ts qs k) (hq : q ∈ qs) : ∃ x, x ∈ k.map Prod.snd ∧ H q = some (.lst (x.map V.int)) := by
  induction h with
  | nil => cases hq
  | cons _ h _ ih =>
    rcases List.mem_cons.mp hq with e | z
    · rw [e]
      exact ⟨_, .head _, h⟩
    · obtain ⟨x, hx, h2⟩ := ih z
      exact ⟨x, .tail _ hx, h2⟩
theorem IOs.dps {K : PySem.W.Frag} (h : IOs H ts qs k) : DpAll K H (ts.map V.ref) (k.map fun z => PyData.tuple [.int z.1, .list (z.2.map PyData.int)]) := by
  induction h with
  | nil => exact .nil
  | cons h h2 _ ih => exact .cons (.tup (st_of h) (.cons (.int _) (.cons (dp_ints (sq_of h2)) .nil))) ih
end
def kxD (k : KX) : PyData := .list (k.map fun z => PyData.tuple [.int z.1, .list (z.2.map PyData.int)])
theorem sh_kx {n : Nat} (k : KX) : Sh (n + 3) (kxD k) := sh_lst (sh_map (fun z => sh_tup (sh_cons sh_int (sh_cons (sh_lst (sh_ints z.2)) sh_nil))) k)
theorem eqv_kx_nil (k : KX) : PyData.eqv (kxD k) (.list []) = decide (k = []) := by
  cases k with
  | nil => exact (decide_eq_true rfl).symm
  | cons x r => exact (decide_eq_false fun z => (nomatch z)).symm
structure IO (H1 : Hp) (D : Addr) (ts qs : List Addr) (k : KX) (H' : Hp) : Prop where
  sm : Same H1 H'
  at' : H' D = some (.lst (ts.map V.ref))
  ls : IOs H' ts qs k
  frt : ∀ t ∈ ts, H1 t = none
  frq : ∀ q ∈ qs, H1 q = none ∧ q ≠ D
  nd : qs.Nodup
/-- all of a list of new pairs stays -/
theorem Own.ioR {S B0 B H H' : Hp} {as : List Addr} {l : List (Addr × HO)} {D : Addr} {ts qs : List Addr} {k : KX} (w : Own S B0 as B l H) (hD : H D = none) (c : IO H D ts qs k H') :
    ∃ B', Same B B' ∧ B' D = some (.lst (ts.map V.ref)) ∧ IOs B' ts qs k ∧ Own S B0 as B' l H' := by
  have hn : ∀ p ∈ D :: (ts ++ qs), H p = none ∧ H' p ≠ none := fun p hp => by
    rcases List.mem_cons.mp hp with h | h
    · rw [h]
      exact ⟨hD, by rw [c.at']; exact fun z => (nomatch z)⟩
    · rcases List.mem_append.mp h with h | h
      · obtain ⟨_, _, hx⟩ := c.ls.memt h
        exact ⟨c.frt p h, by rw [hx]; exact fun z => (nomatch z)⟩
      · obtain ⟨_, _, hx⟩ := c.ls.memq h
        exact ⟨(c.frq p h).1, by rw [hx]; exact fun z => (nomatch z)⟩
  obtain ⟨B', s, e, w2⟩ := (w.more c.sm).adopt2 (D :: (ts ++ qs)) fun p hp => by
    refine ⟨(w.frS (hn p hp).1).1, (hn p hp).2, fun h => ?_⟩
    obtain ⟨o, h⟩ := fst_mem h
    exact w.notin (hn p hp).1 h
  exact ⟨B', s, (e D (.head _)).trans c.at', c.ls.stay fun p hp => e p (.tail _ (List.mem_append.mpr hp)), w2⟩
theorem IO.dp {K : PySem.W.Frag} {H1 H' : Hp} {D : Addr} {ts qs : List Addr} {k : KX} (w : IO H1 D ts qs k H') : Dp K H' (.ref D) (kxD k) := .lst (sq_of w.at') w.ls.dps
theorem IO.next {H1 H' H2 H3 : Hp} {D p t : Addr} {ts qs : List Addr} {k : KX} {c : Int} {x : List Int} (w : IO H1 D ts qs k H') (hD : H1 D = none) (np : H' p = none) (s : Same H' H2) (e : H2 p = some (.lst (x.map V.int))) (nt : H2 t = none) (s2 : Same H2 H3) (e2 : H3 t = some (.tup [.int c, .ref p])) :
    IO H1 D (ts ++ [t]) (qs ++ [p]) (k ++ [(c, x)]) (upd H3 D (.lst (ts.map V.ref ++ [.ref t]))) := by
  have hpD : p ≠ D := fun z => by
    rw [z, w.at'] at np
    cases np
  have hD2 := s2 _ _ (s _ _ w.at')
  have htD : t ≠ D := fun z => by
    rw [z, hD2] at e2
    cases e2
  have hin : ∀ q ∈ qs, q ≠ p := fun q hq z => by
    obtain ⟨y, _, hy⟩ := w.ls.memq hq
    rw [z, np] at hy
    cases hy
  refine ⟨same_mut (w.sm.trans (s.trans s2)) hD, ?_, ?_, fun y hy => ?_, fun q hq => ?_, ?_⟩
  · rw [upd_same, List.map_append]
    rfl
  · refine IOs.snoc ((w.ls.mono (s.trans s2)).stay fun y hy => upd_ne ?_) ?_ ?_
    · rcases hy with hy | hy
      · obtain ⟨c', q', h'⟩ := w.ls.memt hy
        exact fun z => by
          rw [z, w.at'] at h'
          cases h'
      · exact (w.frq y hy).2
    · rw [upd_ne htD]
      exact e2
    · rw [upd_ne hpD]
      exact s2 _ _ e
  · rcases List.mem_append.mp hy with h | h
    · exact w.frt y h
    · rw [List.mem_singleton.mp h]
      exact same_none (w.sm.trans s) nt
  · rcases List.mem_append.mp hq with h | h
    · exact w.frq q h
    · rw [List.mem_singleton.mp h]
      exact ⟨same_none w.sm np, hpD⟩
  · refine List.nodup_append.mpr ⟨w.nd, List.nodup_cons.mpr ⟨fun h => (nomatch h), List.nodup_nil⟩, fun q hq r hr => ?_⟩
    rw [List.mem_singleton.mp hr]
    exact hin q hq
/-- the pairs by ascending counts -/
def AscX (k : KX) : Prop := k.Pairwise fun a b => a.1 ≤ b.1
/-- pairs that stand by ascending counts are their own order -/
theorem asc_own {k k2 : KX} (hp : k.Perm k2) (ha : AscX k) (h2 : (k2.map Prod.fst).Pairwise (· < ·)) : k = k2 := by
  have hnd : (k.map Prod.fst).Nodup := (hp.map _).nodup_iff.mpr (h2.imp fun z => Int.ne_of_lt z)
  have ha2 : k.Pairwise fun a b => a.1 < b.1 := by
    have hne := List.pairwise_map.mp hnd
    exact (ha.and hne).imp fun z => by
      have h1 := z.1
      have h2 : ¬ _ = _ := z.2
      omega
  have hb2 : k2.Pairwise fun a b => a.1 < b.1 := List.pairwise_map.mp h2
  refine List.Perm.eq_of_pairwise (le := fun a b => a.1 < b.1) (fun a b _ _ h h' => by omega) ha2 hb2 hp
/-- [(n, a new list) for n in ns] -/
theorem wl_io {K : PySem.W.Frag} {j : Nat} {te : TE} {σ : L2.St} {H1 : Hp} {Q : VK} {a : Addr} (ns : List Int) (P : Int → List Int) (hx : SqL K H1 a (ns.map V.int)) (hn : ns.length ≤ 100000)
    (ht : ∀ n, n ∈ ns → ∀ (H' : Hp) (R : VK), Same H1 H' → (∀ (q : Addr) (H2 : Hp) (t : Addr) (H3 : Hp), H' q = none → Same H' H2 → H2 q = some (.lst ((P n).map V.int)) → H2 t = none → Same H2 H3 → H3 t = some (.tup [.int n, .ref q]) → R (.ref t) H3) → te ((wipe σ [j]).set j (some (.int n))) H' R)
    (hq : ∀ D ts qs H', H1 D = none → IO H1 D ts qs (ns.map fun c => (c, P c)) H' → Q (.ref D) H') : LcWP (Itl K a) (gName j) tYes te [j] σ Q H1 := by
  refine wl_list (ns.map V.int) (by rw [List.length_map]; exact hn) fun D hD => ⟨fun i acc H' => ∃ ts qs, acc = ts.map V.ref ∧ IO H1 D ts qs ((ns.take i).map fun c => (c, P c)) H', ⟨[], [], rfl, same_upd hD, upd_same, .nil, fun t ht => (nomatch ht), fun t ht => (nomatch ht), List.nodup_nil⟩, fun i acc H' _ _ _ p => ?_, fun i acc y H' hi ha h2 p => ?_, fun acc H' ha h2 p => ?_⟩
  · obtain ⟨ts, qs, rfl, p⟩ := p
    exact p.sm.seq hx
  · obtain ⟨ts, qs, rfl, p⟩ := p
    rw [List.getElem?_map] at hi
    obtain ⟨n, hn2, rfl⟩ := Option.map_eq_some_iff.mp hi
    show _ ∧ _
    refine ⟨wipe_set rfl, ?_⟩
    show Br true _ _
    refine br_T (ht n (List.mem_of_getElem? hn2) H' _ p.sm fun q H2 t H3 nq s2 eq nt s3 et => ⟨s3 _ _ (s2 _ _ h2), ts ++ [t], qs ++ [q], by rw [List.map_append]; rfl, ?_⟩)
    rw [take_snoc hn2, List.map_append]
    exact p.next hD nq s2 eq nt s3 et
  · obtain ⟨ts, qs, rfl, p⟩ := p
    rw [List.length_map, List.take_length] at p
    exact hq D ts qs H' hD p
section
variable {P : Program} {w : World} {K : PySem.W.Frag} {mg : Str → Option Value} {base : Heap}
def pkB (ds : List Int) (m : Int) : Bool := (decide (1 ≤ (ds.length : Int)) && decide ((ds.length : Int) ≤ m)) && ds.all fun d => decide (0 ≤ d) && decide (d ≤ 255)
def sp_is_packet (K : PySem.W.Frag) : Sp := fun vs H Q _ => ∃ (a : Addr) (ds : List Int) (m : Int), vs = [.ref a, .int m] ∧ H a = some (.lst (ds.map V.int)) ∧ ds.length ≤ 10000 ∧ ∀ H', Same H H' → Q (.bl (pkB ds m)) H'
@[irreducible] def ip_is_packet (K : PySem.W.Frag) : Sp := sp_is_packet K
theorem op_is_packet {K : PySem.W.Frag} {vs : List V} {H : Hp} {Q : VK} {E : XK} (h : sp_is_packet K vs H Q E) : ip_is_packet K vs H Q E := by
  unfold ip_is_packet
  exact h
theorem un_is_packet {K : PySem.W.Frag} {vs : List V} {H : Hp} {Q : VK} {E : XK} (h : ip_is_packet K vs H Q E) : sp_is_packet K vs H Q E := by
  unfold ip_is_packet at h
  exact h
theorem ok_is_packet (T : Tx P w K mg base) : FnOk P w K mg base CX0 2 T.a_is_packet T.d_is_packet ["packet", "most"] (ip_is_packet K) := by
  have G_is_between := ok_is_between T
  refine T.p_is_packet.F.ok sc_is_packet (fun vs H Q E h => ?_) (fun cdv A outer s H vs Q E hr h => ?_)
  · obtain ⟨a, ds, m, rfl, hS, hl, q⟩ := un_is_packet h
    rfl
  · obtain ⟨a, ds, m, rfl, hS, hl, q⟩ := un_is_packet h
    refine ⟨_, (pss_cons (ps_ifM (PW.pt (pw_orM (pt_not (pt_val (pe_callB call_isiM (by rfl) T.n_isinstance (by decide +kernel) (pa_cons (pv 0) (pa_cons (pe_bltn (v := .ty "list") rfl T.n_list (by decide +kernel) rfl) pa_nil))))) (pw_or1 (pt_not (pt_val (pe_call G_is_between (hr.mono (by decide)) rfl T.p_is_between.m T.p_is_between.F.kp T.p_is_between.b .nil pass0 (pa_cons (pe_callB call_lenM (by rfl) T.n_len PySem.boot_len (pa_cons (pv 0) pa_nil)) (pa_cons pe_int (pa_cons (pv 1) pa_nil))))))))) (pss_one (ps_ret pe_bl)) pss_nil) (pss_one (ps_ret (pe_callB (call_allM rfl) (by rfl) T.n_all (by decide +kernel) (pa_cons (pe_lcW (own := [("one", 2)]) (g := (gName 2)) [2] im_list rfl sc_is_packet.nd (pi_list (pe_c (pv 0))) (blkOk_by (own := [("one", 2)]) (N := ["packet", "most", "one"]) (sc := defScope S_is_packet) (by decide +kernel)) (fun _ _ _ _ _ => (pg_name (i := 2) sc_is_packet.nd rfl (Or.inl rfl))) (fun _ _ _ _ _ => pts_nil) (fun _ _ _ _ _ => (pe_call G_is_between (hr.mono (by decide)) rfl T.p_is_between.m T.p_is_between.F.kp T.p_is_between.b .nil pass0 (pa_cons (pv 2) (pa_cons pe_int (pa_cons pe_int pa_nil)))))) pa_nil))))), ?_⟩
    unfold pkB at q
    (repeat walk_at "rd")
    refine rd_isiLL hS ?_
    (repeat walk_at "rd")
    refine op_is_between ⟨ds.length, 1, m, rfl, ?_⟩
    cases hb : decide (1 ≤ (ds.length : Int)) && decide ((ds.length : Int) ≤ m) with
    | false =>
      rw [hb, Bool.false_and] at q
      (repeat walk_at "rd")
      exact q H (Same.refl _)
    | true =>
      rw [hb, Bool.true_and] at q
      (repeat walk_at "rd")
      refine rd_lcW ?_
      (repeat walk_at "rd")
      refine ⟨⟨_, sq_of hS⟩, ?_⟩
      refine wl_boolsL ds (fun d => decide (0 ≤ d) && decide (d ≤ 255)) (sq_of hS) (by omega) (fun n _ H' R _ k => ?_) (fun p H1 n1 s1 e1 => ?_)
      · (repeat walk_at "rd")
        refine op_is_between ⟨n, 0, 255, rfl, ?_⟩
        exact k
      (repeat walk_at "rd")
      refine rd_all (sq_of e1) ?_
      rw [List.all_map]
      exact q H1 s1
end
/-! ### senders: the pure state, and where its things lie -/
structure SnS where
  bits : Int
  win : Int
  low : Int
  nxt : Int
  bgn : List (Int × List Int)
  snt : List (Int × Int)
  wtg : List (List Int)
  akd : List (Int × Int × Int)
  qt : Int
  hd : Bool
structure SnA where
  p : Addr
  dx : Addr
  bg : Addr
  st : Addr
  wt : Addr
/-- the places that move: the packets begun, those waiting, the list of what is asked and its rows -/
structure SnM where
  bp : Pk
  wA : List Addr
  ak : Addr
  kA : List Addr
def SnS.fs (s : SnS) (A : SnA) (m : SnM) : List (Str × V) := [("bits", .int s.bits), ("window", .int s.win), ("low", .int s.low), ("next", .int s.nxt), ("_begun", .ref A.bg), ("_sent", .ref A.st), ("_waiting", .ref A.wt), ("_asked", .ref m.ak), ("_quiet_turns", .int s.qt), ("_has_heard", .bl s.hd)]
def scells (C : Addr) (A : SnA) (m : SnM) (s : SnS) : List (Addr × HO) := [(A.p, .ins C A.dx (s.fs A m)), (A.bg, .dK (pkK m.bp)), (A.st, .dK (s.snt.map fun x => (.inl x.1, .int x.2))), (A.wt, .lst (m.wA.map V.ref)), (m.ak, .lst (m.kA.map V.ref))]
/-- the packets, and the rows of what is asked, stay -/
structure SnB (B : Hp) (m : SnM) (s : SnS) : Prop where
  be : pkX m.bp = s.bgn
  ba : PkAt B m.bp
  wl : m.wA.length = s.wtg.length
  wa : ∀ (i : Nat) (a : Addr) (x : List Int), m.wA[i]? = some a → s.wtg[i]? = some x → B a = some (.lst (x.map V.int))
  kl : m.kA.length = s.akd.length
  ka : ∀ (i : Nat) (a : Addr) (x : Int × Int × Int), m.kA[i]? = some a → s.akd[i]? = some x → B a = some (.tup [.int x.1, .int x.2.1, .int x.2.2])
theorem SnB.mono {B B' : Hp} {m : SnM} {s : SnS} (h : SnB B m s) (e : Same B B') : SnB B' m s := ⟨h.be, h.ba.mono e, h.wl, fun i a x h1 h2 => e _ _ (h.wa i a x h1 h2), h.kl, fun i a x h1 h2 => e _ _ (h.ka i a x h1 h2)⟩
def sn0 (bits win : Int) : SnS := ⟨bits, win, 0, 0, [], [], [], [], 0, false⟩
section
variable {P : Program} {w : World} {K : PySem.W.Frag} {mg : Str → Option Value} {base : Heap}
def sp_Sender___init__ (K : PySem.W.Frag) (C : Addr) : Sp := fun vs H Q _ => ∃ (p dx : Addr) (bits win : Int) (B : Hp), vs = [.ref p, .int bits, .int win] ∧ (3 ≤ bits ∧ bits ≤ 6) ∧ (1 ≤ win ∧ win ≤ 2 ^ (bits - 1).toNat) ∧ Cells H B [(p, .ins C dx [])] ∧ ∀ (A : SnA) (m : SnM) (H' : Hp), A.p = p → m.bp = [] → m.wA = [] → m.kA = [] → Own H B [p] B (scells C A m (sn0 bits win)) H' → Q .non H'
@[irreducible] def ip_Sender___init__ (K : PySem.W.Frag) (C : Addr) : Sp := sp_Sender___init__ K C
theorem op_Sender___init__ {K : PySem.W.Frag} {C : Addr} {vs : List V} {H : Hp} {Q : VK} {E : XK} (h : sp_Sender___init__ K C vs H Q E) : ip_Sender___init__ K C vs H Q E := by
  unfold ip_Sender___init__
  exact h
theorem un_Sender___init__ {K : PySem.W.Frag} {C : Addr} {vs : List V} {H : Hp} {Q : VK} {E : XK} (h : ip_Sender___init__ K C vs H Q E) : sp_Sender___init__ K C vs H Q E := by
  unfold ip_Sender___init__ at h
  exact h
theorem ok_Sender___init__ (T : Tx P w K mg base) : FnOk P w K mg base (L2.CX P w) 4 T.a_Sender___init__ T.d_Sender___init__ ["self", "bits", "window"] (ip_Sender___init__ K T.C_Sender) := by
  have G_check_bits := ok_check_bits T
  have G_is_between := ok_is_between T
  have G_window_size := ok_window_size T
  refine T.p_Sender___init__.F.okX sc_Sender___init__ (fun vs H Q E h => ?_) (fun cdv A outer s H vs Q E hr h => ?_)
  · obtain ⟨p, dx, bits, win, B, rfl, hb, hw, c, q⟩ := un_Sender___init__ h
    rfl
  · obtain ⟨p, dx, bits, win, B, rfl, hb, hw, c, q⟩ := un_Sender___init__ h
    refine ⟨_, (pss_cons (ps_expr (pe_call G_check_bits (hr.mono (by decide)) rfl T.p_check_bits.m T.p_check_bits.F.kp T.p_check_bits.b .nil (passes_call (takes_of rfl rfl rfl rfl) (fun _ _ _ _ h => h)) (pa_cons (pv 1) pa_nil))) (pss_cons (ps_ifM (pt_not (pt_val (pe_call G_is_between (hr.mono (by decide)) rfl T.p_is_between.m T.p_is_between.F.kp T.p_is_between.b .nil pass0 (pa_cons (pv 2) (pa_cons pe_int (pa_cons (pe_call G_window_size (hr.mono (by decide)) rfl T.p_window_size.m T.p_window_size.F.kp T.p_window_size.b .nil pass0 (pa_cons (pv 1) pa_nil)) pa_nil)))))) (pss_one (ps_raise rfl (takes_of rfl rfl rfl rfl) (pmk_plain T.x_NotValid (hr.mono (by decide)) rfl))) pss_nil) (pss_cons (ps_fldM (pv 0) (pv 1) T.k_Sender.cl T.f_Sender_bits) (pss_cons (ps_fldM (pv 0) (pv 2) T.k_Sender.cl T.f_Sender_window) (pss_cons (ps_fldM (pv 0) pe_int T.k_Sender.cl T.f_Sender_low) (pss_cons (ps_fldM (pv 0) pe_int T.k_Sender.cl T.f_Sender_next) (pss_cons (ps_fldM (pv 0) pe_dnewK T.k_Sender.cl T.f_Sender__begun) (pss_cons (ps_fldM (pv 0) pe_dnewK T.k_Sender.cl T.f_Sender__sent) (pss_cons (ps_fldM (pv 0) (pe_lstM pa_nil) T.k_Sender.cl T.f_Sender__waiting) (pss_cons (ps_fldM (pv 0) (pe_lstM pa_nil) T.k_Sender.cl T.f_Sender__asked) (pss_cons (ps_fldM (pv 0) pe_int T.k_Sender.cl T.f_Sender__quiet_turns) (pss_one (ps_fldM (pv 0) pe_bl T.k_Sender.cl T.f_Sender__has_heard))))))))))))), ?_⟩
    have w0 : Own H B [p] B [(p, .ins T.C_Sender dx [])] H := c.start
    (repeat walk_at "rd")
    refine op_check_bits ⟨bits, rfl, hb, ?_⟩
    (repeat walk_at "rd")
    refine op_window_size ⟨bits, rfl, by omega, by omega, ?_⟩
    (repeat walk_at "rd")
    refine op_is_between ⟨win, 1, 2 ^ (bits - 1).toNat, rfl, ?_⟩
    have e : (decide (1 ≤ win) && decide (win ≤ 2 ^ (bits - 1).toNat)) = true := by
      rw [decide_eq_true hw.1, decide_eq_true hw.2]
      rfl
    rw [e]
    (repeat walk_at "rd")
    refine rd_putF (by walk_at "hp") (by exact Nat.le_of_ble_eq_true rfl) rfl ?_
    have u0 : Own H B [p] B [(p, .ins T.C_Sender dx [("bits", .int bits)])] _ := w0.set 0 rfl (.ins T.C_Sender dx [("bits", .int bits)])
    (repeat walk_at "rd")
    refine rd_putF (by walk_at "hp") (by exact Nat.le_of_ble_eq_true rfl) rfl ?_
    have u1 : Own H B [p] B [(p, .ins T.C_Sender dx [("bits", .int bits), ("window", .int win)])] _ := u0.set 0 rfl (.ins T.C_Sender dx [("bits", .int bits), ("window", .int win)])
    (repeat walk_at "rd")
    refine rd_putF (by walk_at "hp") (by exact Nat.le_of_ble_eq_true rfl) rfl ?_
    have u2 : Own H B [p] B [(p, .ins T.C_Sender dx [("bits", .int bits), ("window", .int win), ("low", .int 0)])] _ := u1.set 0 rfl (.ins T.C_Sender dx [("bits", .int bits), ("window", .int win), ("low", .int 0)])
    (repeat walk_at "rd")
    refine rd_putF (by walk_at "hp") (by exact Nat.le_of_ble_eq_true rfl) rfl ?_
    have u3 : Own H B [p] B [(p, .ins T.C_Sender dx [("bits", .int bits), ("window", .int win), ("low", .int 0), ("next", .int 0)])] _ := u2.set 0 rfl (.ins T.C_Sender dx [("bits", .int bits), ("window", .int win), ("low", .int 0), ("next", .int 0)])
    (repeat walk_at "rd")
    intro d1 nd1
    have v1 := u3.add nd1 (same_upd (o := .dK []) nd1) upd_same
    have hp4 := v1.mem (p := p) (.tail _ (.head _))
    (repeat walk_at "rd")
    refine rd_putF (by walk_at "hp") (by exact Nat.le_of_ble_eq_true rfl) rfl ?_
    have u4 : Own H B [p] B [(d1, .dK []), (p, .ins T.C_Sender dx [("bits", .int bits), ("window", .int win), ("low", .int 0), ("next", .int 0), ("_begun", .ref d1)])] _ := v1.set 1 rfl (.ins T.C_Sender dx [("bits", .int bits), ("window", .int win), ("low", .int 0), ("next", .int 0), ("_begun", .ref d1)])
    (repeat walk_at "rd")
    intro d2 nd2
    have v2 := u4.add nd2 (same_upd (o := .dK []) nd2) upd_same
    have hp5 := v2.mem (p := p) (.tail _ (.tail _ (.head _)))
    (repeat walk_at "rd")
    refine rd_putF (by walk_at "hp") (by exact Nat.le_of_ble_eq_true rfl) rfl ?_
    have u5 : Own H B [p] B [(d2, .dK []), (d1, .dK []), (p, .ins T.C_Sender dx [("bits", .int bits), ("window", .int win), ("low", .int 0), ("next", .int 0), ("_begun", .ref d1), ("_sent", .ref d2)])] _ := v2.set 2 rfl (.ins T.C_Sender dx [("bits", .int bits), ("window", .int win), ("low", .int 0), ("next", .int 0), ("_begun", .ref d1), ("_sent", .ref d2)])
    (repeat walk_at "rd")
    intro l3 Hl3 nl3 sl3 el3
    have v3 := u5.add nl3 sl3 el3
    have hp6 := v3.mem (p := p) (.tail _ (.tail _ (.tail _ (.head _))))
    (repeat walk_at "rd")
    refine rd_putF (by walk_at "hp") (by exact Nat.le_of_ble_eq_true rfl) rfl ?_
    have u6 : Own H B [p] B [(l3, .lst []), (d2, .dK []), (d1, .dK []), (p, .ins T.C_Sender dx [("bits", .int bits), ("window", .int win), ("low", .int 0), ("next", .int 0), ("_begun", .ref d1), ("_sent", .ref d2), ("_waiting", .ref l3)])] _ := v3.set 3 rfl (.ins T.C_Sender dx [("bits", .int bits), ("window", .int win), ("low", .int 0), ("next", .int 0), ("_begun", .ref d1), ("_sent", .ref d2), ("_waiting", .ref l3)])
    (repeat walk_at "rd")
    intro l4 Hl4 nl4 sl4 el4
    have v4 := u6.add nl4 sl4 el4
    have hp7 := v4.mem (p := p) (.tail _ (.tail _ (.tail _ (.tail _ (.head _)))))
    (repeat walk_at "rd")
    refine rd_putF (by walk_at "hp") (by exact Nat.le_of_ble_eq_true rfl) rfl ?_
    have u7 : Own H B [p] B [(l4, .lst []), (l3, .lst []), (d2, .dK []), (d1, .dK []), (p, .ins T.C_Sender dx [("bits", .int bits), ("window", .int win), ("low", .int 0), ("next", .int 0), ("_begun", .ref d1), ("_sent", .ref d2), ("_waiting", .ref l3), ("_asked", .ref l4)])] _ := v4.set 4 rfl (.ins T.C_Sender dx [("bits", .int bits), ("window", .int win), ("low", .int 0), ("next", .int 0), ("_begun", .ref d1), ("_sent", .ref d2), ("_waiting", .ref l3), ("_asked", .ref l4)])
    (repeat walk_at "rd")
    refine rd_putF (by walk_at "hp") (by exact Nat.le_of_ble_eq_true rfl) rfl ?_
    have u8 : Own H B [p] B [(l4, .lst []), (l3, .lst []), (d2, .dK []), (d1, .dK []), (p, .ins T.C_Sender dx [("bits", .int bits), ("window", .int win), ("low", .int 0), ("next", .int 0), ("_begun", .ref d1), ("_sent", .ref d2), ("_waiting", .ref l3), ("_asked", .ref l4), ("_quiet_turns", .int 0)])] _ := u7.set 4 rfl (.ins T.C_Sender dx [("bits", .int bits), ("window", .int win), ("low", .int 0), ("next", .int 0), ("_begun", .ref d1), ("_sent", .ref d2), ("_waiting", .ref l3), ("_asked", .ref l4), ("_quiet_turns", .int 0)])
    (repeat walk_at "rd")
    refine rd_putF (by walk_at "hp") (by exact Nat.le_of_ble_eq_true rfl) rfl ?_
    have u9 : Own H B [p] B [(l4, .lst []), (l3, .lst []), (d2, .dK []), (d1, .dK []), (p, .ins T.C_Sender dx [("bits", .int bits), ("window", .int win), ("low", .int 0), ("next", .int 0), ("_begun", .ref d1), ("_sent", .ref d2), ("_waiting", .ref l3), ("_asked", .ref l4), ("_quiet_turns", .int 0), ("_has_heard", .bl false)])] _ := u8.set 4 rfl (.ins T.C_Sender dx [("bits", .int bits), ("window", .int win), ("low", .int 0), ("next", .int 0), ("_begun", .ref d1), ("_sent", .ref d2), ("_waiting", .ref l3), ("_asked", .ref l4), ("_quiet_turns", .int 0), ("_has_heard", .bl false)])
    exact q ⟨p, dx, d1, d2, l3⟩ ⟨[], [], l4, []⟩ _ rfl rfl rfl rfl (u9.reorder [4, 3, 2, 1, 0])
end
def sas (A : SnA) (m : SnM) : List Addr := [A.p, A.bg, A.st, A.wt, m.ak]
theorem SnB.put {B : Hp} {m : SnM} {s : SnS} (h : SnB B m s) {a : Addr} {ds : List Int} (ha : B a = some (.lst (ds.map V.int))) : SnB B { m with wA := m.wA ++ [a] } { s with wtg := s.wtg ++ [ds] } := by
  refine ⟨h.be, h.ba, ?_, fun i b x h1 h2 => ?_, h.kl, h.ka⟩
  · show (m.wA ++ [a]).length = (s.wtg ++ [ds]).length
    rw [List.length_append, List.length_append, h.wl]
    rfl
  · have h1 : (m.wA ++ [a])[i]? = some b := h1
    have h2 : (s.wtg ++ [ds])[i]? = some x := h2
    by_cases hi : i < s.wtg.length
    · rw [List.getElem?_append_left (by rw [h.wl]; exact hi)] at h1
      rw [List.getElem?_append_left hi] at h2
      exact h.wa i b x h1 h2
    · have h3 := (List.getElem?_eq_some_iff.mp h2).1
      rw [List.length_append, List.length_singleton] at h3
      have e : i = s.wtg.length := by omega
      subst e
      rw [List.getElem?_append_right (by rw [h.wl]; exact Nat.le_refl _), h.wl, Nat.sub_self] at h1
      rw [List.getElem?_append_right (Nat.le_refl _), Nat.sub_self] at h2
      cases h1
      cases h2
      exact ha
section
variable {P : Program} {w : World} {K : PySem.W.Frag} {mg : Str → Option Value} {base : Heap}
def sp_Sender_put (K : PySem.W.Frag) (C : Addr) : Sp := fun vs H Q _ => ∃ (A : SnA) (m : SnM) (s : SnS) (a : Addr) (ds : List Int) (B : Hp), vs = [.ref A.p, .ref a] ∧ Cells H B (scells C A m s) ∧ SnB B m s ∧ H a = some (.lst (ds.map V.int)) ∧ pkB ds 200 = true ∧ s.wtg.length ≤ 10000 ∧
  ∀ (B' H' : Hp) (a' : Addr), Own H B (sas A m) B' (scells C A { m with wA := m.wA ++ [a'] } { s with wtg := s.wtg ++ [ds] }) H' → SnB B' { m with wA := m.wA ++ [a'] } { s with wtg := s.wtg ++ [ds] } → Q .non H'
@[irreducible] def ip_Sender_put (K : PySem.W.Frag) (C : Addr) : Sp := sp_Sender_put K C
theorem op_Sender_put {K : PySem.W.Frag} {C : Addr} {vs : List V} {H : Hp} {Q : VK} {E : XK} (h : sp_Sender_put K C vs H Q E) : ip_Sender_put K C vs H Q E := by
  unfold ip_Sender_put
  exact h
theorem un_Sender_put {K : PySem.W.Frag} {C : Addr} {vs : List V} {H : Hp} {Q : VK} {E : XK} (h : ip_Sender_put K C vs H Q E) : sp_Sender_put K C vs H Q E := by
  unfold ip_Sender_put at h
  exact h
theorem ok_Sender_put (T : Tx P w K mg base) : FnOk P w K mg base (L2.CX P w) 3 T.a_Sender_put T.d_Sender_put ["self", "packet"] (ip_Sender_put K T.C_Sender) := by
  have G_is_packet := ok_is_packet T
  refine T.p_Sender_put.F.okX sc_Sender_put (fun vs H Q E h => ?_) (fun cdv A outer s H vs Q E hr h => ?_)
  · obtain ⟨A, m, s', a, ds, B, rfl, c, sb, hS, hok, hl, q⟩ := un_Sender_put h
    rfl
  · obtain ⟨A, m, s', a, ds, B, rfl, c, sb, hS, hok, hl, q⟩ := un_Sender_put h
    refine ⟨_, (pss_cons (ps_ifM (pt_not (pt_val (pe_call G_is_packet (hr.mono (by decide)) rfl T.p_is_packet.m T.p_is_packet.F.kp T.p_is_packet.b .nil pass0 (pa_cons (pv 1) (pa_cons (pe_gint rfl T.g_MOST_BYTES) pa_nil))))) (pss_one (ps_raise rfl (takes_of rfl rfl rfl rfl) (pmk_plain T.x_NotValid (hr.mono (by decide)) rfl))) pss_nil) (pss_one (ps_expr (pe_app (pe_fldM (pv 0) T.k_Sender.cl T.f_Sender__waiting) (pe_callTy call_listM (by rfl) T.n_list (by decide +kernel) (pa_cons (pv 1) pa_nil)))))), ?_⟩
    have w0 : Own H B (sas A m) B (scells T.C_Sender A m s') H := c.start
    have hlen : ds.length ≤ 200 := by
      unfold pkB at hok
      rw [Bool.and_eq_true, Bool.and_eq_true] at hok
      have := of_decide_eq_true hok.1.2
      omega
    (repeat walk_at "rd")
    refine op_is_packet ⟨a, ds, 200, rfl, hS, by omega, fun H1 s1 => ?_⟩
    rw [hok]
    have w1 := w0.more s1
    have hA := w1.mem (.head _)
    (repeat walk_at "rd")
    refine rd_list (sq_of (s1 _ _ hS)) ?_
    intro a' H2 n2 s2 e2
    obtain ⟨B2, sB2, hB2, _, w2⟩ := w1.ro n2 s2 e2
    (repeat walk_at "rd")
    refine rd_app (w2.mem (.tail _ (.tail _ (.tail _ (.head _))))) (by rw [List.length_map, sb.wl]; omega) ?_
    have e3 : m.wA.map V.ref ++ [V.ref a'] = (m.wA ++ [a']).map V.ref := by
      rw [List.map_append]
      rfl
    rw [e3]
    have w3 := w2.set 3 rfl (.lst ((m.wA ++ [a']).map V.ref))
    exact q B2 _ a' w3 ((sb.mono sB2).put hB2)
end
def sget {α : Type} (l : List (Int × α)) (n : Int) : Option α := (l.find? fun x => decide (x.1 = n)).map (·.2)
def SnS.left2 (s : SnS) : Option (Int × Int × Int) := match s.wtg with
  | pk :: _ => if s.nxt < s.low + s.win then some (s.nxt, 0, (pk.length : Int)) else none
  | [] => none
def SnS.left (s : SnS) : Option (Int × Int × Int) := match s.akd with
  | x :: _ => some x
  | [] => match sget s.bgn (s.nxt - 1) with
    | some pk => if (sget s.snt (s.nxt - 1)).getD 0 < (pk.length : Int) then some (s.nxt - 1, (sget s.snt (s.nxt - 1)).getD 0, (pk.length : Int)) else s.left2
    | none => s.left2
def LeftAt (H : Hp) (v : V) (x : Option (Int × Int × Int)) : Prop := match x with
  | none => v = .non
  | some y => ∃ t, v = .ref t ∧ H t = some (.tup [.int y.1, .int y.2.1, .int y.2.2])
/-- a sender stands in a heap, to be read -/
structure SnAt (C : Addr) (A : SnA) (m : SnM) (s : SnS) (H : Hp) : Prop where
  i : H A.p = some (.ins C A.dx (s.fs A m))
  b : H A.bg = some (.dK (pkK m.bp))
  t : H A.st = some (.dK (s.snt.map fun x => (.inl x.1, .int x.2)))
  w : H A.wt = some (.lst (m.wA.map V.ref))
  k : H m.ak = some (.lst (m.kA.map V.ref))
  sb : SnB H m s
  ks : s.bgn.map Prod.fst = s.snt.map Prod.fst
theorem SnAt.mono {C : Addr} {A : SnA} {m : SnM} {s : SnS} {H H' : Hp} (h : SnAt C A m s H) (e : Same H H') : SnAt C A m s H' := ⟨e _ _ h.i, e _ _ h.b, e _ _ h.t, e _ _ h.w, e _ _ h.k, h.sb.mono e, h.ks⟩
theorem SnAt.of {C : Addr} {A : SnA} {m : SnM} {s : SnS} {S B0 B H : Hp} {as : List Addr} (w : Own S B0 as B (scells C A m s) H) (sb : SnB B m s) (ks : s.bgn.map Prod.fst = s.snt.map Prod.fst) : SnAt C A m s H :=
  ⟨w.mem (.head _), w.mem (.tail _ (.head _)), w.mem (.tail _ (.tail _ (.head _))), w.mem (.tail _ (.tail _ (.tail _ (.head _)))), w.mem (.tail _ (.tail _ (.tail _ (.tail _ (.head _))))), sb.mono w.imm, ks⟩
theorem snt_val (l : List (Int × Int)) (n : Int) : valV (l.map fun x => ((.inl x.1 : Key), V.int x.2)) (.inl n) = (sget l n).map V.int := by
  unfold valV sget
  induction l with
  | nil => rfl
  | cons x r ih =>
    rw [List.map_cons, List.find?_cons, List.find?_cons]
    by_cases h : x.1 = n
    · rw [decide_eq_true h, decide_eq_true (show (Sum.inl x.1 : Key) = .inl n by rw [h])]
      rfl
    · rw [decide_eq_false h, decide_eq_false (show ¬ (Sum.inl x.1 : Key) = .inl n from fun z => h (Sum.inl.inj z))]
      exact ih
theorem sget_cons {α : Type} (x : Int × α) (l : List (Int × α)) (n : Int) : sget (x :: l) n = if x.1 = n then some x.2 else sget l n := by
  unfold sget
  rw [List.find?_cons]
  by_cases h : x.1 = n
  · rw [decide_eq_true h, if_pos h]
    rfl
  · rw [decide_eq_false h, if_neg h]
theorem bgn_val {H : Hp} (n : Int) : ∀ {pk : Pk} {l : List (Int × List Int)}, pkX pk = l → PkAt H pk →
    (sget l n = none ∧ valV (pkK pk) (.inl n) = none) ∨ ∃ x a, sget l n = some x ∧ valV (pkK pk) (.inl n) = some (.ref a) ∧ H a = some (.lst (x.map V.int))
  | [], _, e, _ => .inl ⟨by rw [← e]; rfl, rfl⟩
  | x :: pk, _, e, h => by
    subst e
    show (sget ((x.1, x.2.2) :: pkX pk) n = none ∧ valV ((.inl x.1, .ref x.2.1) :: pkK pk) (.inl n) = none) ∨ ∃ y a, sget ((x.1, x.2.2) :: pkX pk) n = some y ∧ valV ((.inl x.1, .ref x.2.1) :: pkK pk) (.inl n) = some (.ref a) ∧ H a = some (.lst (y.map V.int))
    rw [sget_cons]
    by_cases hx : x.1 = n
    · rw [if_pos hx]
      exact .inr ⟨x.2.2, x.2.1, rfl, valV_pos (congrArg Sum.inl hx), h x (.head _)⟩
    · rw [if_neg hx, valV_neg (fun z => hx (Sum.inl.inj z))]
      exact bgn_val n rfl fun y hy => h y (.tail _ hy)
theorem sget_keys {α β : Type} {l : List (Int × α)} {r : List (Int × β)} (h : l.map Prod.fst = r.map Prod.fst) {n : Int} {v : α} (hv : sget l n = some v) : ∃ u, sget r n = some u := by
  unfold sget at hv ⊢
  obtain ⟨x, hx, _⟩ := Option.map_eq_some_iff.mp hv
  have h1 := List.mem_of_find?_eq_some hx
  have h2 := List.find?_some hx
  have h3 : x.1 = n := of_decide_eq_true h2
  have h4 : n ∈ r.map Prod.fst := by
    rw [← h, ← h3]
    exact List.mem_map.mpr ⟨x, h1, rfl⟩
  cases e : r.find? fun x => decide (x.1 = n) with
  | some y => exact ⟨_, rfl⟩
  | none =>
    obtain ⟨y, hy, ey⟩ := List.mem_map.mp h4
    exact absurd (decide_eq_true ey) (List.find?_eq_none.mp e y hy)
section
variable {P : Program} {w : World} {K : PySem.W.Frag} {mg : Str → Option Value} {base : Heap}
def sp_Sender__first_left (K : PySem.W.Frag) (C : Addr) : Sp := fun vs H Q _ => ∃ (A : SnA) (m : SnM) (s : SnS), vs = [.ref A.p] ∧ SnAt C A m s H ∧ ∀ v H', Same H H' → LeftAt H' v s.left → Q v H'
@[irreducible] def ip_Sender__first_left (K : PySem.W.Frag) (C : Addr) : Sp := sp_Sender__first_left K C
theorem op_Sender__first_left {K : PySem.W.Frag} {C : Addr} {vs : List V} {H : Hp} {Q : VK} {E : XK} (h : sp_Sender__first_left K C vs H Q E) : ip_Sender__first_left K C vs H Q E := by
  unfold ip_Sender__first_left
  exact h
theorem un_Sender__first_left {K : PySem.W.Frag} {C : Addr} {vs : List V} {H : Hp} {Q : VK} {E : XK} (h : ip_Sender__first_left K C vs H Q E) : sp_Sender__first_left K C vs H Q E := by
  unfold ip_Sender__first_left at h
  exact h
theorem ok_Sender__first_left (T : Tx P w K mg base) : FnOk P w K mg base CX0 1 T.a_Sender__first_left T.d_Sender__first_left ["self"] (ip_Sender__first_left K T.C_Sender) := by
  refine T.p_Sender__first_left.F.ok sc_Sender__first_left (fun vs H Q E h => ?_) (fun cdv A outer s H vs Q E hr h => ?_)
  · obtain ⟨A, m, s', rfl, ra, q⟩ := un_Sender__first_left h
    rfl
  · obtain ⟨A, m, s', rfl, ra, q⟩ := un_Sender__first_left h
    refine ⟨_, (pss_cons (ps_ifM (pt_truthM (pe_fldM (pv 0) T.k_Sender.cl T.f_Sender__asked) (by intro _; rfl)) (pss_one (ps_ret (pe_ix ix_listM (pe_fldM (pv 0) T.k_Sender.cl T.f_Sender__asked) pe_int (fun _ _ => rfl)))) pss_nil) (pss_cons (ps_set (i := 1) sc_Sender__first_left.nd rfl (Or.inl rfl) (pe_op op_subM (pe_fldM (pv 0) T.k_Sender.cl T.f_Sender_next) pe_int)) (pss_cons (ps_ifM (PW.pt (pw_andM (pt_cmp (pc_dinM (hu_of hr) (pv 1) (pe_fldM (pv 0) T.k_Sender.cl T.f_Sender__begun))) (pw_and1 (pt_cmpR op_ltM (pe_dgetM (hu_of hr) (pe_fldM (pv 0) T.k_Sender.cl T.f_Sender__sent) (pv 1)) (pe_callB call_lenM (by rfl) T.n_len PySem.boot_len (pa_cons (pe_dgetM (hu_of hr) (pe_fldM (pv 0) T.k_Sender.cl T.f_Sender__begun) (pv 1)) pa_nil)) (nomark _))))) (pss_one (ps_ret (pe_tupM (pa_cons (pv 1) (pa_cons (pe_dgetM (hu_of hr) (pe_fldM (pv 0) T.k_Sender.cl T.f_Sender__sent) (pv 1)) (pa_cons (pe_callB call_lenM (by rfl) T.n_len PySem.boot_len (pa_cons (pe_dgetM (hu_of hr) (pe_fldM (pv 0) T.k_Sender.cl T.f_Sender__begun) (pv 1)) pa_nil)) pa_nil)))))) pss_nil) (pss_cons (ps_ifM (PW.pt (pw_andM (pt_truthM (pe_fldM (pv 0) T.k_Sender.cl T.f_Sender__waiting) (by intro _; rfl)) (pw_and1 (pt_cmpR op_ltM (pe_fldM (pv 0) T.k_Sender.cl T.f_Sender_next) (pe_op op_addM (pe_fldM (pv 0) T.k_Sender.cl T.f_Sender_low) (pe_fldM (pv 0) T.k_Sender.cl T.f_Sender_window)) (nomark _))))) (pss_one (ps_ret (pe_tupM (pa_cons (pe_fldM (pv 0) T.k_Sender.cl T.f_Sender_next) (pa_cons pe_int (pa_cons (pe_callB call_lenM (by rfl) T.n_len PySem.boot_len (pa_cons (pe_ix ix_listM (pe_fldM (pv 0) T.k_Sender.cl T.f_Sender__waiting) pe_int (fun _ _ => rfl)) pa_nil)) pa_nil)))))) pss_nil) (pss_one (ps_ret pe_non)))))), ?_⟩
    have hI := ra.i
    have hB := ra.b
    have hT := ra.t
    have hW := ra.w
    have hK := ra.k
    (repeat walk_at "rd")
    cases hka : m.kA with
    | cons k0 kr =>
      cases hd : s'.akd with
      | nil =>
        have := ra.sb.kl
        rw [hka, hd] at this
        cases this
      | cons x xr =>
        have h0 := ra.sb.ka 0 k0 x (by rw [hka]; rfl) (by rw [hd]; rfl)
        rw [hka] at hK
        refine br_T ?_
        (repeat walk_at "rd")
        refine rd_ixL (v := .ref k0) (sq_of hK) (at_of (j := 0) rfl rfl) ?_
        refine q _ H (Same.refl _) ?_
        unfold SnS.left
        rw [hd]
        exact ⟨k0, rfl, h0⟩
    | nil =>
      have hd : s'.akd = [] := List.length_eq_zero_iff.mp (by
        have := ra.sb.kl
        rw [hka] at this
        exact this.symm)
      refine br_F ?_
      (repeat walk_at "rd")
      rcases bgn_val (H := H) (s'.nxt - 1) ra.sb.be ra.sb.ba with ⟨e1, e2⟩ | ⟨pk, a, e1, e2, e3⟩
      · have e2' : valV (pkK m.bp) (.inl (s'.nxt - 1)) = none := e2
        rw [e2']
        have hL : s'.left = s'.left2 := by
          unfold SnS.left
          rw [hd]
          dsimp only
          rw [e1]
        refine br_F ?_
        (repeat walk_at "rd")
        cases hwa : m.wA with
        | nil =>
          have hd2 : s'.wtg = [] := List.length_eq_zero_iff.mp (by
            have := ra.sb.wl
            rw [hwa] at this
            exact this.symm)
          refine br_F ?_
          (repeat walk_at "rd")
          refine q _ H (Same.refl _) ?_
          rw [hL]
          unfold SnS.left2
          rw [hd2]
          exact rfl
        | cons w0 wr =>
          cases hd2 : s'.wtg with
          | nil =>
            have := ra.sb.wl
            rw [hwa, hd2] at this
            cases this
          | cons x xr =>
            have h0 := ra.sb.wa 0 w0 x (by rw [hwa]; rfl) (by rw [hd2]; rfl)
            rw [hwa] at hW
            refine br_T ?_
            (repeat walk_at "rd")
            refine br_by (fun h1 => ?_) (fun h1 => ?_)
            · (repeat walk_at "rd")
              refine rd_ixL (v := .ref w0) (sq_of hW) (at_of (j := 0) rfl rfl) ?_
              (repeat walk_at "rd")
              intro t H1 n1 s1 e4
              refine q _ H1 s1 ?_
              rw [hL]
              unfold SnS.left2
              rw [hd2]
              dsimp only
              rw [if_pos h1]
              exact ⟨t, rfl, e4⟩
            · (repeat walk_at "rd")
              refine q _ H (Same.refl _) ?_
              rw [hL]
              unfold SnS.left2
              rw [hd2]
              dsimp only
              rw [if_neg h1]
              exact rfl
      · obtain ⟨v, hv⟩ := sget_keys ra.ks e1
        have e2' : valV (pkK m.bp) (.inl (s'.nxt - 1)) = some (.ref a) := e2
        have e4' : valV (s'.snt.map fun x => ((.inl x.1 : Key), V.int x.2)) (.inl (s'.nxt - 1)) = some (.int v) := by
          rw [snt_val, hv]
          rfl
        rw [e2']
        refine br_T ?_
        (repeat walk_at "rd")
        refine rd_dget hT e4' ?_
        (repeat walk_at "rd")
        refine rd_dget hB e2' ?_
        (repeat walk_at "rd")
        refine br_by (fun hlt => ?_) (fun hlt => ?_)
        · (repeat walk_at "rd")
          refine rd_dget hT e4' ?_
          (repeat walk_at "rd")
          refine rd_dget hB e2' ?_
          (repeat walk_at "rd")
          intro t H1 n1 s1 e4
          refine q _ H1 s1 ?_
          unfold SnS.left
          rw [hd]
          dsimp only
          rw [e1, hv]
          dsimp only [Option.getD_some]
          rw [if_pos hlt]
          exact ⟨t, rfl, e4⟩
        · have hL : s'.left = s'.left2 := by
            unfold SnS.left
            rw [hd]
            dsimp only
            rw [e1, hv]
            exact if_neg hlt
          (repeat walk_at "rd")
          cases hwa : m.wA with
          | nil =>
            have hd2 : s'.wtg = [] := List.length_eq_zero_iff.mp (by
              have := ra.sb.wl
              rw [hwa] at this
              exact this.symm)
            refine br_F ?_
            (repeat walk_at "rd")
            refine q _ H (Same.refl _) ?_
            rw [hL]
            unfold SnS.left2
            rw [hd2]
            exact rfl
          | cons w0 wr =>
            cases hd2 : s'.wtg with
            | nil =>
              have := ra.sb.wl
              rw [hwa, hd2] at this
              cases this
            | cons x xr =>
              have h0 := ra.sb.wa 0 w0 x (by rw [hwa]; rfl) (by rw [hd2]; rfl)
              rw [hwa] at hW
              refine br_T ?_
              (repeat walk_at "rd")
              refine br_by (fun h1 => ?_) (fun h1 => ?_)
              · (repeat walk_at "rd")
                refine rd_ixL (v := .ref w0) (sq_of hW) (at_of (j := 0) rfl rfl) ?_
                (repeat walk_at "rd")
                intro t H1 n1 s1 e4
                refine q _ H1 s1 ?_
                rw [hL]
                unfold SnS.left2
                rw [hd2]
                dsimp only
                rw [if_pos h1]
                exact ⟨t, rfl, e4⟩
              · (repeat walk_at "rd")
                refine q _ H (Same.refl _) ?_
                rw [hL]
                unfold SnS.left2
                rw [hd2]
                dsimp only
                rw [if_neg h1]
                exact rfl
/-- the packet that has this number, or gets it -/
def SnS.pkt (s : SnS) (n : Int) : Option (List Int) := if n = s.nxt then s.wtg.head? else sget s.bgn n
def sp_Sender__packet (K : PySem.W.Frag) (C : Addr) : Sp := fun vs H Q _ => ∃ (A : SnA) (m : SnM) (s : SnS) (n : Int) (pk : List Int) (B : Hp), vs = [.ref A.p, .int n] ∧ SnAt C A m s H ∧ SnB B m s ∧ s.pkt n = some pk ∧ ∀ a : Addr, B a = some (.lst (pk.map V.int)) → Q (.ref a) H
@[irreducible] def ip_Sender__packet (K : PySem.W.Frag) (C : Addr) : Sp := sp_Sender__packet K C
theorem op_Sender__packet {K : PySem.W.Frag} {C : Addr} {vs : List V} {H : Hp} {Q : VK} {E : XK} (h : sp_Sender__packet K C vs H Q E) : ip_Sender__packet K C vs H Q E := by
  unfold ip_Sender__packet
  exact h
theorem un_Sender__packet {K : PySem.W.Frag} {C : Addr} {vs : List V} {H : Hp} {Q : VK} {E : XK} (h : ip_Sender__packet K C vs H Q E) : sp_Sender__packet K C vs H Q E := by
  unfold ip_Sender__packet at h
  exact h
theorem ok_Sender__packet (T : Tx P w K mg base) : FnOk P w K mg base CX0 1 T.a_Sender__packet T.d_Sender__packet ["self", "number"] (ip_Sender__packet K T.C_Sender) := by
  refine T.p_Sender__packet.F.ok sc_Sender__packet (fun vs H Q E h => ?_) (fun cdv A outer s H vs Q E hr h => ?_)
  · obtain ⟨A, m, s', n, pk, B, rfl, ra, sb, hpk, q⟩ := un_Sender__packet h
    rfl
  · obtain ⟨A, m, s', n, pk, B, rfl, ra, sb, hpk, q⟩ := un_Sender__packet h
    refine ⟨_, (pss_one (ps_ret (pe_ifM (pt_cmpR op_eq (pv 1) (pe_fldM (pv 0) T.k_Sender.cl T.f_Sender_next) (nomark _)) (pe_ix ix_listM (pe_fldM (pv 0) T.k_Sender.cl T.f_Sender__waiting) pe_int (fun _ _ => rfl)) (pe_dgetM (hu_of hr) (pe_fldM (pv 0) T.k_Sender.cl T.f_Sender__begun) (pv 1))))), ?_⟩
    have hI := ra.i
    have hB := ra.b
    have hW := ra.w
    unfold SnS.pkt at hpk
    (repeat walk_at "rd")
    refine br_eby (fun h => ?_) (fun h => ?_)
    · rw [if_pos h] at hpk
      cases hwa : m.wA with
      | nil =>
        have := ra.sb.wl
        rw [hwa] at this
        rw [List.length_eq_zero_iff.mp this.symm] at hpk
        cases hpk
      | cons w0 wr =>
        cases hd2 : s'.wtg with
        | nil =>
          rw [hd2] at hpk
          cases hpk
        | cons x xr =>
          rw [hd2] at hpk
          cases hpk
          have h0 := sb.wa 0 w0 pk (by rw [hwa]; rfl) (by rw [hd2]; rfl)
          rw [hwa] at hW
          (repeat walk_at "rd")
          refine rd_ixL (v := .ref w0) (sq_of hW) (at_of (j := 0) rfl rfl) ?_
          exact q w0 h0
    · rw [if_neg h] at hpk
      rcases bgn_val (H := B) n sb.be sb.ba with ⟨e1, e2⟩ | ⟨pk2, a, e1, e2, e3⟩
      · rw [hpk] at e1
        cases e1
      · rw [hpk] at e1
        cases e1
        (repeat walk_at "rd")
        refine rd_dget hB (show valV (pkK m.bp) (.inl n) = some (.ref a) from e2) ?_
        exact q a e3
def sp_Sender_is_idle (K : PySem.W.Frag) (C : Addr) : Sp := fun vs H Q _ => ∃ (A : SnA) (m : SnM) (s : SnS), vs = [.ref A.p] ∧ SnAt C A m s H ∧ Q (.bl (s.bgn.isEmpty && s.wtg.isEmpty)) H
@[irreducible] def ip_Sender_is_idle (K : PySem.W.Frag) (C : Addr) : Sp := sp_Sender_is_idle K C
theorem op_Sender_is_idle {K : PySem.W.Frag} {C : Addr} {vs : List V} {H : Hp} {Q : VK} {E : XK} (h : sp_Sender_is_idle K C vs H Q E) : ip_Sender_is_idle K C vs H Q E := by
  unfold ip_Sender_is_idle
  exact h
theorem un_Sender_is_idle {K : PySem.W.Frag} {C : Addr} {vs : List V} {H : Hp} {Q : VK} {E : XK} (h : ip_Sender_is_idle K C vs H Q E) : sp_Sender_is_idle K C vs H Q E := by
  unfold ip_Sender_is_idle at h
  exact h
theorem ok_Sender_is_idle (T : Tx P w K mg base) : FnOk P w K mg base CX0 1 T.a_Sender_is_idle T.d_Sender_is_idle ["self"] (ip_Sender_is_idle K T.C_Sender) := by
  refine T.p_Sender_is_idle.F.ok sc_Sender_is_idle (fun vs H Q E h => ?_) (fun cdv A outer s H vs Q E hr h => ?_)
  · obtain ⟨A, m, s', rfl, ra, q⟩ := un_Sender_is_idle h
    rfl
  · obtain ⟨A, m, s', rfl, ra, q⟩ := un_Sender_is_idle h
    refine ⟨_, (pss_one (ps_ret (pe_andM (pe_notTM (pe_fldM (pv 0) T.k_Sender.cl T.f_Sender__begun)) (pe_one (pe_notTM (pe_fldM (pv 0) T.k_Sender.cl T.f_Sender__waiting)))))), ?_⟩
    have hI := ra.i
    have hB := ra.b
    have hW := ra.w
    have e1 : (pkK m.bp).isEmpty = s'.bgn.isEmpty := by
      have hl : (pkK m.bp).length = s'.bgn.length := by
        rw [← ra.sb.be]
        unfold pkK pkX
        rw [List.length_map, List.length_map]
      cases h1 : pkK m.bp <;> cases h2 : s'.bgn <;> rw [h1, h2] at hl <;> first | rfl | cases hl
    have e2 : (m.wA.map V.ref).isEmpty = s'.wtg.isEmpty := by
      have hl := ra.sb.wl
      cases h1 : m.wA <;> cases h2 : s'.wtg <;> rw [h1, h2] at hl <;> first | rfl | cases hl
    (repeat walk_at "rd")
    refine rd_truD hB ?_
    (repeat walk_at "rd")
    rw [e1, Bool.not_not]
    refine br_b (fun h => ?_) (fun h => ?_)
    · rw [h, Bool.true_and] at q
      (repeat walk_at "rd")
      rw [e2, Bool.not_not]
      exact q
    · rw [h, Bool.false_and] at q
      exact q
def sp_Sender_waiting (K : PySem.W.Frag) (C : Addr) : Sp := fun vs H Q _ => ∃ (A : SnA) (m : SnM) (s : SnS), vs = [.ref A.p] ∧ SnAt C A m s H ∧ s.wtg.length ≤ 10000 ∧ ∀ D qs H', H D = none → Cpy H D qs s.wtg H' → Q (.ref D) H'
@[irreducible] def ip_Sender_waiting (K : PySem.W.Frag) (C : Addr) : Sp := sp_Sender_waiting K C
theorem op_Sender_waiting {K : PySem.W.Frag} {C : Addr} {vs : List V} {H : Hp} {Q : VK} {E : XK} (h : sp_Sender_waiting K C vs H Q E) : ip_Sender_waiting K C vs H Q E := by
  unfold ip_Sender_waiting
  exact h
theorem un_Sender_waiting {K : PySem.W.Frag} {C : Addr} {vs : List V} {H : Hp} {Q : VK} {E : XK} (h : ip_Sender_waiting K C vs H Q E) : sp_Sender_waiting K C vs H Q E := by
  unfold ip_Sender_waiting at h
  exact h
theorem ok_Sender_waiting (T : Tx P w K mg base) : FnOk P w K mg base CX0 1 T.a_Sender_waiting T.d_Sender_waiting ["self"] (ip_Sender_waiting K T.C_Sender) := by
  refine T.p_Sender_waiting.F.ok sc_Sender_waiting (fun vs H Q E h => ?_) (fun cdv A outer s H vs Q E hr h => ?_)
  · obtain ⟨A, m, s', rfl, ra, hl, q⟩ := un_Sender_waiting h
    rfl
  · obtain ⟨A, m, s', rfl, ra, hl, q⟩ := un_Sender_waiting h
    refine ⟨_, (pss_one (ps_ret (pe_lcW (own := [("packet", 1)]) (g := (gName 1)) [1] im_list rfl sc_Sender_waiting.nd (pi_list (pe_c (pe_fldM (pv 0) T.k_Sender.cl T.f_Sender__waiting))) (blkOk_by (own := [("packet", 1)]) (N := ["self", "packet"]) (sc := defScope S_Sender_waiting) (by decide +kernel)) (fun _ _ _ _ _ => (pg_name (i := 1) sc_Sender_waiting.nd rfl (Or.inl rfl))) (fun _ _ _ _ _ => pts_nil) (fun _ _ _ _ _ => (pe_callTy (call_listK (K := K) rfl) (by rfl) T.n_list (by decide +kernel) (pa_cons (pv 1) pa_nil)))))), ?_⟩
    have hI := ra.i
    have hW := ra.w
    (repeat walk_at "rd")
    refine rd_lcW ?_
    (repeat walk_at "rd")
    refine ⟨⟨_, sq_of hW⟩, ?_⟩
    refine wl_copy _ s'.wtg (sq_of hW) (by rw [List.length_map]; exact ra.sb.wl) (by rw [List.length_map, ra.sb.wl]; omega) (fun i y x hy hx H' R s k => ?_) (fun D qs H1 hD cp => ?_)
    · rw [List.getElem?_map] at hy
      obtain ⟨b, hb, rfl⟩ := Option.map_eq_some_iff.mp hy
      (repeat walk_at "rd")
      refine rd_list (sq_of (s _ _ (ra.sb.wa i b x hb hx))) ?_
      exact k
    exact q D qs H1 hD cp
end
/-- a packet as the document has it -/
structure PkIn (pk : List Int) : Prop where
  l1 : 1 ≤ pk.length
  l2 : pk.length ≤ 200
  by' : ∀ d ∈ pk, 0 ≤ d ∧ d < 256
structure SnOk (s : SnS) : Prop where
  bt : 3 ≤ s.bits ∧ s.bits ≤ 6
  wn : 1 ≤ s.win ∧ s.win ≤ 32
  ks : s.bgn.map Prod.fst = s.snt.map Prod.fst
  asc : (s.bgn.map Prod.fst).Pairwise (· < ·)
  kn : ∀ k ∈ s.bgn.map Prod.fst, k < s.nxt
  lo : s.low = (s.bgn.map Prod.fst).headD s.nxt
  wd : s.nxt ≤ s.low + s.win
  n0 : 0 ≤ s.low
  bp : ∀ x ∈ s.bgn, PkIn x.2
  wp : ∀ x ∈ s.wtg, PkIn x
  sr : ∀ n v pk, sget s.snt n = some v → sget s.bgn n = some pk → 1 ≤ v ∧ v ≤ (pk.length : Int)
  ak : ∀ x ∈ s.akd, ∃ pk, sget s.bgn x.1 = some pk ∧ 0 ≤ x.2.1 ∧ x.2.1 < x.2.2 ∧ x.2.2 ≤ (pk.length : Int)
  al : s.akd.length ≤ 6400
theorem sget_in {α : Type} {l : List (Int × α)} {n : Int} {v : α} (h : sget l n = some v) : (n, v) ∈ l := by
  unfold sget at h
  obtain ⟨x, hx, rfl⟩ := Option.map_eq_some_iff.mp h
  have h1 := List.mem_of_find?_eq_some hx
  have h2 := List.find?_some hx
  have h3 : x.1 = n := of_decide_eq_true h2
  rw [← h3]
  exact h1
theorem SnOk.left2 {s : SnS} (h : SnOk s) {x : Int × Int × Int} (hx : s.left2 = some x) : ∃ pk, s.pkt x.1 = some pk ∧ PkIn pk ∧ 0 ≤ x.2.1 ∧ x.2.1 < x.2.2 ∧ x.2.2 ≤ (pk.length : Int) := by
  unfold SnS.left2 at hx
  cases hw : s.wtg with
  | nil =>
    rw [hw] at hx
    cases hx
  | cons pk r =>
    rw [hw] at hx
    dsimp only at hx
    split at hx
    · cases hx
      have hp := h.wp pk (by rw [hw]; exact .head _)
      have := hp.l1
      refine ⟨pk, ?_, hp, Int.le_refl _, by show (0 : Int) < (pk.length : Int); omega, Int.le_refl _⟩
      unfold SnS.pkt
      rw [if_pos rfl, hw]
      rfl
    · cases hx
theorem SnOk.left {s : SnS} (h : SnOk s) {x : Int × Int × Int} (hx : s.left = some x) : ∃ pk, s.pkt x.1 = some pk ∧ PkIn pk ∧ 0 ≤ x.2.1 ∧ x.2.1 < x.2.2 ∧ x.2.2 ≤ (pk.length : Int) := by
  have old : ∀ {n : Int} {pk : List Int}, sget s.bgn n = some pk → s.pkt n = some pk ∧ PkIn pk := fun {n pk} e => by
    have hm := sget_in e
    have hk := h.kn n (List.mem_map.mpr ⟨_, hm, rfl⟩)
    refine ⟨?_, h.bp _ hm⟩
    unfold SnS.pkt
    rw [if_neg (by omega)]
    exact e
  unfold SnS.left at hx
  cases ha : s.akd with
  | cons y r =>
    rw [ha] at hx
    cases hx
    obtain ⟨pk, e1, e2⟩ := h.ak x (by rw [ha]; exact .head _)
    exact ⟨pk, (old e1).1, (old e1).2, e2⟩
  | nil =>
    rw [ha] at hx
    dsimp only at hx
    cases hb : sget s.bgn (s.nxt - 1) with
    | none =>
      rw [hb] at hx
      exact h.left2 hx
    | some pk =>
      rw [hb] at hx
      dsimp only at hx
      obtain ⟨v, hv⟩ := sget_keys h.ks hb
      rw [hv] at hx
      dsimp only [Option.getD_some] at hx
      split at hx
      · rename_i hlt
        cases hx
        have hr := h.sr _ _ _ hv hb
        exact ⟨pk, (old hb).1, (old hb).2, (show 0 ≤ v by omega), hlt, Int.le_refl _⟩
      · exact h.left2 hx
/-- where a piece that is sent first ends, by the room -/
def SnS.endL (s : SnS) (x : Int × Int × Int) (pk : List Int) (room : Int) : Int := endF s.bits pk.length x.2.1 x.2.2 room
def SnS.has (s : SnS) (room : Int) : Bool := match s.left with
  | none => false
  | some x => match s.pkt x.1 with
    | none => false
    | some pk => decide (x.2.1 < s.endL x pk room)
section
variable {P : Program} {w : World} {K : PySem.W.Frag} {mg : Str → Option Value} {base : Heap}
def sp_Sender_has_piece (K : PySem.W.Frag) (C : Addr) : Sp := fun vs H Q _ => ∃ (A : SnA) (m : SnM) (s : SnS) (room : Int), vs = [.ref A.p, .int room] ∧ SnAt C A m s H ∧ SnOk s ∧ ∀ H', Same H H' → Q (.bl (s.has room)) H'
@[irreducible] def ip_Sender_has_piece (K : PySem.W.Frag) (C : Addr) : Sp := sp_Sender_has_piece K C
theorem op_Sender_has_piece {K : PySem.W.Frag} {C : Addr} {vs : List V} {H : Hp} {Q : VK} {E : XK} (h : sp_Sender_has_piece K C vs H Q E) : ip_Sender_has_piece K C vs H Q E := by
  unfold ip_Sender_has_piece
  exact h
theorem un_Sender_has_piece {K : PySem.W.Frag} {C : Addr} {vs : List V} {H : Hp} {Q : VK} {E : XK} (h : ip_Sender_has_piece K C vs H Q E) : sp_Sender_has_piece K C vs H Q E := by
  unfold ip_Sender_has_piece at h
  exact h
theorem ok_Sender_has_piece (T : Tx P w K mg base) : FnOk P w K mg base CX0 7 T.a_Sender_has_piece T.d_Sender_has_piece ["self", "room"] (ip_Sender_has_piece K T.C_Sender) := by
  have G_Sender__first_left := ok_Sender__first_left T
  have G_cut := ok_cut T
  have G_Sender__packet := ok_Sender__packet T
  refine T.p_Sender_has_piece.F.ok sc_Sender_has_piece (fun vs H Q E h => ?_) (fun cdv A outer s H vs Q E hr h => ?_)
  · obtain ⟨A, m, s', room, rfl, ra, ok, q⟩ := un_Sender_has_piece h
    rfl
  · obtain ⟨A, m, s', room, rfl, ra, ok, q⟩ := un_Sender_has_piece h
    refine ⟨_, (pss_cons (ps_set (i := 2) sc_Sender_has_piece.nd rfl (Or.inl rfl) (meth_weak (pe_meth0 (pe_c (pv 0)) T.k_Sender.cl T.p_Sender__first_left.me G_Sender__first_left (hr.mono (by decide)) T.p_Sender__first_left.b .nil pass0))) (pss_cons (ps_ifM (pt_cmpR op_isN (pv 2) pe_non (nomark _)) (pss_one (ps_ret pe_bl)) pss_nil) (pss_cons (ps_asg (pv 2) (pg_tup rfl (pgs_cons (pg_name (i := 3) sc_Sender_has_piece.nd rfl (Or.inl rfl)) (pgs_cons (pg_name (i := 4) sc_Sender_has_piece.nd rfl (Or.inl rfl)) (pgs_cons (pg_name (i := 5) sc_Sender_has_piece.nd rfl (Or.inl rfl)) pgs_nil))))) (pss_one (ps_ret (pe_cmpR op_notN (pe_call G_cut (hr.mono (by decide)) rfl T.p_cut.m T.p_cut.F.kp T.p_cut.b .nil pass0 (pa_cons (pe_fldM (pv 0) T.k_Sender.cl T.f_Sender_bits) (pa_cons pe_bl (pa_cons (pv 3) (pa_cons (meth_weak (pe_meth (pe_c (pv 0)) T.k_Sender.cl T.p_Sender__packet.me G_Sender__packet (hr.mono (by decide)) T.p_Sender__packet.b .nil pass0 (pa_cons (pv 3) pa_nil))) (pa_cons (pv 4) (pa_cons (pv 5) (pa_cons (pv 1) pa_nil)))))))) pe_non (nomark _))))))), ?_⟩
    have hI0 := ra.i
    (repeat walk_at "rd")
    refine op_Sender__first_left ⟨A, m, s', rfl, ra, fun v H1 s1 hv => ?_⟩
    unfold SnS.has at q
    cases hx : s'.left with
    | none =>
      rw [hx] at hv q
      rw [show v = .non from hv]
      (repeat walk_at "rd")
      exact q H1 s1
    | some x =>
      rw [hx] at hv q
      obtain ⟨t, rfl, ht⟩ := hv
      obtain ⟨pk, hpk, hin, h0, h1, h2⟩ := ok.left hx
      dsimp only at q
      rw [hpk] at q
      dsimp only at q
      have ra1 := ra.mono s1
      have hI := ra1.i
      (repeat walk_at "rd")
      refine ⟨t, _, rfl, st_of ht, rfl, _, _, rfl, _, _, rfl, _, _, rfl, rfl, ?_⟩
      (repeat walk_at "rd")
      refine op_Sender__packet ⟨A, m, s', x.1, pk, H1, rfl, ra1, ra1.sb, hpk, fun a ha => ?_⟩
      have hl2 := hin.l2
      have hbt := ok.bt
      (repeat walk_at "rd")
      refine op_cut ⟨s'.bits, false, x.1, a, pk, x.2.1, x.2.2, room, rfl, by omega, sq_of ha, hl2, by omega, h1, fun hle H2 s2 => ?_, fun hlt t2 p2 H2 _ _ _ s2 e2 e3 => ?_⟩
      · (repeat walk_at "rd")
        unfold SnS.endL at q
        rw [decide_eq_false (by omega)] at q
        exact q H2 (s1.trans s2)
      · (repeat walk_at "rd")
        unfold SnS.endL at q
        rw [decide_eq_true hlt] at q
        exact q H2 (s1.trans s2)
end
theorem PrsAt.at {B : Hp} {ps : List Addr} {r : List (Int × Int)} (h : PrsAt B ps r) : ∀ {i : Nat} {p : Addr}, ps[i]? = some p → ∃ x, r[i]? = some x ∧ B p = some (.tup [.int x.1, .int x.2]) := by
  induction h with
  | nil => exact fun h => (nomatch h)
  | cons h _ ih =>
    intro i p hp
    cases i with
    | zero =>
      cases hp
      exact ⟨_, rfl, h⟩
    | succ i => exact ih hp
/-- which of the first n indexes are told -/
def toldF (rs : List (Int × Int)) (n : Nat) : List Bool := (List.range n).map fun (i : Nat) => rs.any fun x => decide (x.1 ≤ (i : Int)) && decide ((i : Int) ≤ x.2)
def toldG (rs : List (Int × Int)) (lo hi : Int) (n : Nat) : List Bool := (List.range n).map fun (i : Nat) => (rs.any fun x => decide (x.1 ≤ (i : Int)) && decide ((i : Int) ≤ x.2)) || (decide (lo ≤ (i : Int)) && decide ((i : Int) < hi))
theorem toldG_set (rs : List (Int × Int)) (lo hi : Int) (n : Nat) (h0 : 0 ≤ lo) (h1 : lo ≤ hi) (h2 : hi < (n : Int)) : ((toldG rs lo hi n).map V.bl).set hi.toNat (V.bl true) = (toldG rs lo (hi + 1) n).map V.bl := by
  refine List.ext_getElem? fun i => ?_
  rw [List.getElem?_set]
  unfold toldG
  rw [List.length_map, List.length_map, List.length_range, List.getElem?_map, List.getElem?_map, List.getElem?_map, List.getElem?_map]
  by_cases hi' : i < n
  · rw [List.getElem?_range hi']
    by_cases e : hi.toNat = i
    · rw [if_pos e, if_pos (by omega)]
      have e1 : decide (lo ≤ (i : Int)) = true := decide_eq_true (by omega)
      have e2 : decide ((i : Int) < hi + 1) = true := decide_eq_true (by omega)
      simp only [Option.map_some]
      rw [e1, e2, Bool.and_self, Bool.or_true]
    · rw [if_neg e]
      have e2 : decide ((i : Int) < hi + 1) = decide ((i : Int) < hi) := decide_eq_decide.mpr (by omega)
      simp only [Option.map_some]
      rw [e2]
  · rw [List.getElem?_eq_none (by rw [List.length_range]; omega), if_neg (by omega)]
    rfl
theorem toldG_start (rs : List (Int × Int)) (lo : Int) (n : Nat) : toldG rs lo lo n = toldF rs n := by
  unfold toldG toldF
  refine List.map_congr_left fun i _ => ?_
  by_cases h : lo ≤ (i : Int)
  · rw [decide_eq_false (show ¬ (i : Int) < lo by omega), Bool.and_false, Bool.or_false]
  · rw [decide_eq_false h, Bool.false_and, Bool.or_false]
theorem toldG_end (rs : List (Int × Int)) (x : Int × Int) (n : Nat) : toldG rs (max x.1 0) (max x.1 0 + ((min (x.2 + 1) (n : Int) - max x.1 0).toNat : Int)) n = toldF (rs ++ [x]) n := by
  unfold toldG toldF
  refine List.map_congr_left fun i hi => ?_
  have hi := List.mem_range.mp hi
  rw [List.any_append, List.any_cons, List.any_nil, Bool.or_false]
  congr 1
  rw [← Bool.decide_and, ← Bool.decide_and]
  refine decide_eq_decide.mpr ⟨fun h => ?_, fun h => ?_⟩ <;> omega
theorem toldG_len (rs : List (Int × Int)) (lo hi : Int) (n : Nat) : (toldG rs lo hi n).length = n := by
  unfold toldG
  rw [List.length_map, List.length_range]
theorem toldF_len (rs : List (Int × Int)) (n : Nat) : (toldF rs n).length = n := by
  unfold toldF
  rw [List.length_map, List.length_range]
theorem rep_flat {α : Type} (n : Nat) (x : α) : (List.replicate n [x]).flatten = List.replicate n x := by
  induction n with
  | zero => rfl
  | succ n ih =>
    rw [List.replicate_succ, List.flatten_cons, ih]
    rfl
theorem told0 (n : Nat) : (List.replicate n [V.bl false]).flatten = (toldF [] n).map V.bl := by
  rw [rep_flat]
  unfold toldF
  rw [List.map_map]
  refine List.ext_getElem? fun i => ?_
  by_cases h : i < n
  · rw [List.getElem?_replicate, if_pos h, List.getElem?_map, List.getElem?_range h]
    rfl
  · rw [List.getElem?_replicate, if_neg h, List.getElem?_map, List.getElem?_eq_none (by rw [List.length_range]; omega)]
    rfl
section
variable {P : Program} {w : World} {K : PySem.W.Frag} {mg : Str → Option Value} {base : Heap}
def sp_u_rows_told (K : PySem.W.Frag) : Sp := fun vs H Q _ => ∃ (a : Addr) (ps : List Addr) (rs : List (Int × Int)) (n : Int), vs = [.ref a, .int n] ∧ SqL K H a (ps.map V.ref) ∧ PrsAt H ps rs ∧ (0 ≤ n ∧ n ≤ 1000) ∧ (∀ x ∈ rs, (-1000000 ≤ x.1 ∧ x.1 ≤ 1000000) ∧ (-1000000 ≤ x.2 ∧ x.2 ≤ 1000000)) ∧ ∀ (p : Addr) (qs : List Addr) (H' : Hp), H p = none → Same H H' → H' p = some (.lst (qs.map V.ref)) → PrsAt H' qs (rowsF (toldF rs n.toNat)) → Q (.ref p) H'
@[irreducible] def ip_u_rows_told (K : PySem.W.Frag) : Sp := sp_u_rows_told K
theorem op_u_rows_told {K : PySem.W.Frag} {vs : List V} {H : Hp} {Q : VK} {E : XK} (h : sp_u_rows_told K vs H Q E) : ip_u_rows_told K vs H Q E := by
  unfold ip_u_rows_told
  exact h
theorem un_u_rows_told {K : PySem.W.Frag} {vs : List V} {H : Hp} {Q : VK} {E : XK} (h : ip_u_rows_told K vs H Q E) : sp_u_rows_told K vs H Q E := by
  unfold ip_u_rows_told at h
  exact h
theorem ok_u_rows_told (T : Tx P w K mg base) : FnOk P w K mg base CX0 2 T.a_u_rows_told T.d_u_rows_told ["ranges", "size"] (ip_u_rows_told K) := by
  have G_true_rows := ok_true_rows T
  refine T.p_u_rows_told.F.ok sc_u_rows_told (fun vs H Q E h => ?_) (fun cdv A outer s H vs Q E hr h => ?_)
  · obtain ⟨a, ps, rs, n, rfl, hS, hR, hn, hb, q⟩ := un_u_rows_told h
    rfl
  · obtain ⟨a, ps, rs, n, rfl, hS, hR, hn, hb, q⟩ := un_u_rows_told h
    refine ⟨_, (pss_cons (ps_set (i := 2) sc_u_rows_told.nd rfl (Or.inl rfl) (pe_op op_repM (pe_lstM (pa_cons pe_bl pa_nil)) (pv 1))) (pss_cons (ps_forG PassesOwn.never rfl (pv 0) (pg_tup rfl (pgs_cons (pg_name (i := 3) sc_u_rows_told.nd rfl (Or.inl rfl)) (pgs_cons (pg_name (i := 4) sc_u_rows_told.nd rfl (Or.inl rfl)) pgs_nil))) (pss_one (ps_forR2 PassesOwn.never rfl rfl T.n_range (pa_cons (pe_callB (call_max2 rfl) (by rfl) T.n_max (by decide +kernel) (pa_cons (pv 3) (pa_cons pe_int pa_nil))) (pa_cons (pe_callB (call_min2 rfl) (by rfl) T.n_min (by decide +kernel) (pa_cons (pe_op op_addM (pv 4) pe_int) (pa_cons (pv 1) pa_nil))) pa_nil)) (pg_name (i := 5) sc_u_rows_told.nd rfl (Or.inl rfl)) (pss_one (ps_asg pe_bl (pg_sub (pv 2) (pv 5) set_listM)))))) (pss_one (ps_ret (pe_call G_true_rows (hr.mono (by decide)) rfl T.p_true_rows.m T.p_true_rows.F.kp T.p_true_rows.b .nil pass0 (pa_cons (pv 2) pa_nil)))))), ?_⟩
    (repeat walk_at "rd")
    intro t0 H0 n0 s0 e0
    (repeat walk_at "rd")
    refine rd_rep e0 hn.1 (by omega) (by show 1 * _ ≤ _; omega) ?_
    intro t H1 n1 s1 e1
    rw [told0] at e1
    have nt : H t = none := same_none s0 n1
    (repeat walk_at "rd")
    refine rd_forG ?_
    (repeat walk_at "rd")
    refine ⟨a, ps.map V.ref, fun i σ H' => Stop (Same H H' ∧ H' t = some (.lst ((toldF (rs.take i) n.toNat).map V.bl)) ∧ ∃ x y z, σ = [some (.ref a), some (.int n), some (.ref t), x, y, z]), rfl, (s0.trans s1).seq hS, .a ⟨s0.trans s1, e1, _, _, _, rfl⟩, fun i σ' H' hi p => ?_, fun i y σ' H' hi p => ?_, fun σ' H' p => ?_⟩
    · exact p.un.1.seq hS
    · obtain ⟨sm, et, x1, x2, x3, rfl⟩ := p.un
      rw [List.getElem?_map] at hi
      obtain ⟨pa, hpa, rfl⟩ := Option.map_eq_some_iff.mp hi
      obtain ⟨x, hx, hpx⟩ := hR.at hpa
      have hbx := hb x (List.mem_of_getElem? hx)
      have ht := sm _ _ hpx
      refine ⟨pa, _, rfl, st_of ht, rfl, ?_⟩
      refine ⟨_, _, rfl, ?_⟩
      refine ⟨_, _, rfl, ?_⟩
      (repeat walk_at "rd")
      refine rd_forR2 ?_
      (repeat walk_at "rd")
      refine ⟨x.1, 0, rfl, ?_⟩
      (repeat walk_at "rd")
      refine ⟨x.2 + 1, n, rfl, ?_⟩
      have em1 : (if 0 > x.1 then (0 : Int) else x.1) = max x.1 0 := by split <;> omega
      have em2 : (if n < x.2 + 1 then n else x.2 + 1) = min (x.2 + 1) n := by split <;> omega
      rw [em1, em2]
      have en : ((n.toNat : Nat) : Int) = n := by omega
      refine ⟨max x.1 0, min (x.2 + 1) n, fun j σ H2 => Stop (Same H H2 ∧ H2 t = some (.lst ((toldG (rs.take i) (max x.1 0) (max x.1 0 + (j : Int)) n.toNat).map V.bl)) ∧ ∃ z, σ = [some (.ref a), some (.int n), some (.ref t), some (.int x.1), some (.int x.2), z]), rfl, by omega, .a ⟨sm, ?_, _, rfl⟩, fun j σ2 H2 hj p2 => ?_, fun σ2 H2 p2 => ?_⟩
      · show H' t = some (.lst ((toldG (rs.take i) (max x.1 0) (max x.1 0 + 0) n.toNat).map V.bl))
        rw [Int.add_zero, toldG_start]
        exact et
      · obtain ⟨sm2, et2, z, rfl⟩ := p2.un
        (repeat walk_at "rd")
        refine rd_setL et2 (by omega) (by rw [List.length_map, toldG_len]; omega) ?_
        refine .a ⟨same_mut sm2 nt, ?_, _, rfl⟩
        rw [upd_same, toldG_set _ _ _ _ (by omega) (by omega) (by omega), Int.add_assoc]
        rfl
      · obtain ⟨sm2, et2, z, rfl⟩ := p2.un
        refine .a ⟨sm2, ?_, _, _, _, rfl⟩
        have et3 := toldG_end (rs.take i) x n.toNat
        rw [en] at et3
        rw [et3] at et2
        rw [take_snoc hx]
        exact et2
    · obtain ⟨sm, et, x1, x2, x3, rfl⟩ := p.un
      rw [List.length_map, hR.len, List.take_length] at et
      (repeat walk_at "rd")
      exact op_true_rows ⟨t, _, rfl, sq_of et, by rw [toldF_len]; omega, fun p qs H3 n3 s3 e3 e4 => q p qs H3 (same_none sm n3) (sm.trans s3) e3 e4⟩
end
theorem sget_app {α : Type} (l r : List (Int × α)) (n : Int) : sget (l ++ r) n = (sget l n).or (sget r n) := by
  induction l with
  | nil => rfl
  | cons x t ih =>
    rw [List.cons_append, sget_cons, sget_cons, ih]
    split <;> rfl
theorem sget_none {α : Type} {l : List (Int × α)} {n : Int} (h : n ∉ l.map Prod.fst) : sget l n = none := by
  cases e : sget l n with
  | none => rfl
  | some v => exact absurd (List.mem_map.mpr ⟨_, sget_in e, rfl⟩) h
theorem sget_some {α : Type} {l : List (Int × α)} {n : Int} (h : n ∈ l.map Prod.fst) : ∃ v, sget l n = some v := by
  induction l with
  | nil => cases h
  | cons x t ih =>
    rw [sget_cons]
    by_cases e : x.1 = n
    · exact ⟨_, if_pos e⟩
    · rw [if_neg e]
      refine ih ?_
      rcases List.mem_cons.mp h with z | z
      · exact absurd z.symm e
      · exact z
theorem sget_key {α : Type} {l : List (Int × α)} {n : Int} {v : α} (h : sget l n = some v) : n ∈ l.map Prod.fst := List.mem_map.mpr ⟨_, sget_in h, rfl⟩
def sput (l : List (Int × Int)) (n v : Int) : List (Int × Int) := if n ∈ l.map Prod.fst then l.map (fun y => if y.1 = n then (y.1, v) else y) else l ++ [(n, v)]
abbrev sntK (l : List (Int × Int)) : List (Key × V) := l.map fun x => (.inl x.1, .int x.2)
theorem snt_put (l : List (Int × Int)) (n v : Int) : putK (sntK l) (.inl n) (.int v) = sntK (sput l n v) := by
  have e : ((sntK l).any fun kv => decide (kv.1 = Sum.inl n)) = decide (n ∈ l.map Prod.fst) := by
    refine Bool.eq_iff_iff.mpr ?_
    rw [decide_eq_true_iff, List.any_eq_true]
    refine ⟨fun ⟨y, hy, he⟩ => ?_, fun h => ?_⟩
    · obtain ⟨z, hz, rfl⟩ := List.mem_map.mp hy
      have := Sum.inl.inj (of_decide_eq_true he)
      exact List.mem_map.mpr ⟨z, hz, this⟩
    · obtain ⟨z, hz, rfl⟩ := List.mem_map.mp h
      exact ⟨_, List.mem_map.mpr ⟨z, hz, rfl⟩, decide_eq_true rfl⟩
  unfold putK sput
  rw [e]
  by_cases h : n ∈ l.map Prod.fst
  · rw [decide_eq_true h, if_pos rfl, if_pos h]
    unfold sntK
    rw [List.map_map, List.map_map]
    refine List.map_congr_left fun y _ => ?_
    by_cases hy : y.1 = n
    · show (if (Sum.inl y.1 : Key) = .inl n then _ else _) = ((Sum.inl (if y.1 = n then (y.1, v) else y).1 : Key), V.int (if y.1 = n then (y.1, v) else y).2)
      rw [if_pos (congrArg Sum.inl hy), if_pos hy]
    · show (if (Sum.inl y.1 : Key) = .inl n then _ else _) = ((Sum.inl (if y.1 = n then (y.1, v) else y).1 : Key), V.int (if y.1 = n then (y.1, v) else y).2)
      rw [if_neg (fun z => hy (Sum.inl.inj z)), if_neg hy]
  · rw [decide_eq_false h, if_neg (fun z => by cases z), if_neg h]
    unfold sntK
    rw [List.map_append]
    rfl
theorem snt_drop (l : List (Int × Int)) (n : Int) : dropK (sntK l) (.inl n) = sntK (l.filter fun x => !decide (x.1 = n)) := by
  unfold dropK sntK
  rw [List.filter_map]
  congr 1
  refine List.filter_congr fun x _ => ?_
  show decide ((Sum.inl x.1 : Key) ≠ Sum.inl n) = _
  by_cases h : x.1 = n
  · subst h
    simp
  · have e : (Sum.inl x.1 : Key) ≠ Sum.inl n := fun e => h (Sum.inl.inj e)
    simp [h]
theorem sput_keys_in {l : List (Int × Int)} {n v : Int} (h : n ∈ l.map Prod.fst) : (sput l n v).map Prod.fst = l.map Prod.fst := by
  unfold sput
  rw [if_pos h, List.map_map]
  refine List.map_congr_left fun y _ => ?_
  show (if y.1 = n then (y.1, v) else y).1 = y.1
  split <;> rfl
theorem sput_new {l : List (Int × Int)} {n v : Int} (h : n ∉ l.map Prod.fst) : sput l n v = l ++ [(n, v)] := if_neg h
theorem sget_sput (l : List (Int × Int)) (n v k : Int) : sget (sput l n v) k = if k = n then some v else sget l k := by
  by_cases h : n ∈ l.map Prod.fst
  · unfold sput
    rw [if_pos h]
    induction l with
    | nil => cases h
    | cons x t ih =>
      rw [List.map_cons, sget_cons, sget_cons]
      have e1 : (if x.1 = n then (x.1, v) else x).1 = x.1 := by split <;> rfl
      rw [e1]
      by_cases hk : x.1 = k
      · rw [if_pos hk, if_pos hk]
        by_cases hn : x.1 = n
        · rw [if_pos hn, if_pos (hk.symm.trans hn)]
        · rw [if_neg hn, if_neg (fun z => hn (hk.trans z))]
      · rw [if_neg hk, if_neg hk]
        by_cases ht : n ∈ t.map Prod.fst
        · exact ih ht
        · have e3 : t.map (fun y => if y.1 = n then (y.1, v) else y) = t := by
            conv => rhs; rw [← List.map_id t]
            refine List.map_congr_left fun y hy => ?_
            exact if_neg (fun z => ht (List.mem_map.mpr ⟨y, hy, z⟩))
          rw [e3]
          have hx : x.1 = n := by
            rcases List.mem_cons.mp h with z | z
            · exact z.symm
            · exact absurd z ht
          rw [if_neg (fun z => hk (hx.trans z.symm))]
  · rw [sput_new h, sget_app]
    by_cases hk : k = n
    · rw [if_pos hk, hk, sget_none h, sget_cons, if_pos rfl]
      rfl
    · rw [if_neg hk, sget_cons, if_neg (fun z => hk z.symm)]
      exact Option.or_none
theorem asc_len : ∀ (l : List Int) (lo hi : Int), l.Pairwise (· < ·) → (∀ x ∈ l, lo ≤ x ∧ x < hi) → (l.length : Int) ≤ max (hi - lo) 0 := by
  intro l
  induction l with
  | nil =>
    intro lo hi _ _
    show (0 : Int) ≤ _
    omega
  | cons x r ih =>
    intro lo hi hp hx
    have hp2 := List.pairwise_cons.mp hp
    have h1 := ih (x + 1) hi hp2.2 fun y hy => ⟨hp2.1 y hy, (hx y (.tail _ hy)).2⟩
    have h2 := hx x (.head _)
    rw [List.length_cons]
    omega
theorem SnOk.ge {s : SnS} (h : SnOk s) : ∀ k ∈ s.bgn.map Prod.fst, s.low ≤ k := by
  have hl := h.lo
  have ha := h.asc
  intro k hk
  cases e : s.bgn.map Prod.fst with
  | nil =>
    rw [e] at hk
    cases hk
  | cons x r =>
    rw [e] at hl ha hk
    have hl : s.low = x := hl
    rcases List.mem_cons.mp hk with z | z
    · omega
    · have := (List.pairwise_cons.mp ha).1 k z
      omega
theorem SnOk.len {s : SnS} (h : SnOk s) : s.bgn.length ≤ 32 := by
  have := asc_len _ s.low s.nxt h.asc fun x hx => ⟨h.ge x hx, h.kn x hx⟩
  rw [List.length_map] at this
  have := h.wd
  have := h.wn
  omega
theorem SnOk.slen {s : SnS} (h : SnOk s) : s.snt.length ≤ 32 := by
  have h1 := congrArg List.length h.ks
  rw [List.length_map, List.length_map] at h1
  have := h.len
  omega
/-- what was left first has been sent up to below e -/
def SnS.cnt (s : SnS) (x : Int × Int × Int) (e : Int) : SnS := match s.akd with
  | _ :: r => { s with akd := (if e < x.2.2 then [(x.1, e, x.2.2)] else []) ++ r }
  | [] => if x.1 = s.nxt then { s with bgn := s.bgn ++ [(x.1, s.wtg.headD [])], wtg := s.wtg.tail, nxt := s.nxt + 1, snt := sput s.snt x.1 e } else { s with snt := sput s.snt x.1 e }
theorem cutV_tail (v : V) (l : List V) : cutV (v :: l) (some 1) none = l := by
  unfold cutV
  rw [HT.sIx_none]
  have e : HT.sIx (v :: l).length 0 (some 1) = 1 := by
    have := HT.sIx_nat (v :: l).length 0 1
    refine this.trans ?_
    rw [List.length_cons]
    omega
  rw [e, List.drop_one, List.tail_cons, List.length_cons]
  exact List.take_length
/-- new rows of what is asked -/
def AkN (H H1 : Hp) (us : List Addr) (rs : List (Int × Int × Int)) : Prop := us.length = rs.length ∧ ∀ (i : Nat) (a : Addr) (y : Int × Int × Int), us[i]? = some a → rs[i]? = some y → H a = none ∧ H1 a = some (.tup [.int y.1, .int y.2.1, .int y.2.2])
theorem SnB.asks {B : Hp} {m : SnM} {s : SnS} (h : SnB B m s) {ak : Addr} {kA : List Addr} {akd : List (Int × Int × Int)} (hl : kA.length = akd.length) (ha : ∀ (i : Nat) (a : Addr) (x : Int × Int × Int), kA[i]? = some a → akd[i]? = some x → B a = some (.tup [.int x.1, .int x.2.1, .int x.2.2])) : SnB B { m with ak := ak, kA := kA } { s with akd := akd } := ⟨h.be, h.ba, h.wl, h.wa, hl, ha⟩
section
variable {P : Program} {w : World} {K : PySem.W.Frag} {mg : Str → Option Value} {base : Heap}
def sp_Sender__count_sent (K : PySem.W.Frag) (C : Addr) : Sp := fun vs H Q _ => ∃ (A : SnA) (m : SnM) (s : SnS) (t : Addr) (x : Int × Int × Int) (e : Int) (B : Hp), vs = [.ref A.p, .ref t, .int e] ∧ Cells H B (scells C A m s) ∧ SnB B m s ∧ SnOk s ∧ H t = some (.tup [.int x.1, .int x.2.1, .int x.2.2]) ∧ s.left = some x ∧ (x.2.1 < e ∧ e ≤ x.2.2) ∧
  ∀ (B' : Hp) (m' : SnM) (H' : Hp), Own H B (sas A m) B' (scells C A m' (s.cnt x e)) H' → SnB B' m' (s.cnt x e) → Q .non H'
@[irreducible] def ip_Sender__count_sent (K : PySem.W.Frag) (C : Addr) : Sp := sp_Sender__count_sent K C
theorem op_Sender__count_sent {K : PySem.W.Frag} {C : Addr} {vs : List V} {H : Hp} {Q : VK} {E : XK} (h : sp_Sender__count_sent K C vs H Q E) : ip_Sender__count_sent K C vs H Q E := by
  unfold ip_Sender__count_sent
  exact h
theorem un_Sender__count_sent {K : PySem.W.Frag} {C : Addr} {vs : List V} {H : Hp} {Q : VK} {E : XK} (h : ip_Sender__count_sent K C vs H Q E) : sp_Sender__count_sent K C vs H Q E := by
  unfold ip_Sender__count_sent at h
  exact h
theorem ok_Sender__count_sent (T : Tx P w K mg base) : FnOk P w K mg base CX0 1 T.a_Sender__count_sent T.d_Sender__count_sent ["self", "left", "end"] (ip_Sender__count_sent K T.C_Sender) := by
  refine T.p_Sender__count_sent.F.ok sc_Sender__count_sent (fun vs H Q E h => ?_) (fun cdv A outer s H vs Q E hr h => ?_)
  · obtain ⟨A, m, s', t, x, e, B, rfl, c, sb, ok, ht, hx, he, q⟩ := un_Sender__count_sent h
    rfl
  · obtain ⟨A, m, s', t, x, e, B, rfl, c, sb, ok, ht, hx, he, q⟩ := un_Sender__count_sent h
    refine ⟨_, (pss_cons (ps_asg (pv 1) (pg_tup rfl (pgs_cons (pg_name (i := 3) sc_Sender__count_sent.nd rfl (Or.inl rfl)) (pgs_cons (pg_name (i := 4) sc_Sender__count_sent.nd rfl (Or.inl rfl)) (pgs_cons (pg_name (i := 5) sc_Sender__count_sent.nd rfl (Or.inl rfl)) pgs_nil))))) (pss_cons (ps_ifM (pt_truthM (pe_fldM (pv 0) T.k_Sender.cl T.f_Sender__asked) (by intro _; rfl)) (pss_cons (ps_set (i := 6) sc_Sender__count_sent.nd rfl (Or.inl rfl) (pe_say (pe_ifM (pt_cmpR op_ltM (pv 2) (pv 5) (nomark _)) (pe_lstM (pa_cons (pe_tupM (pa_cons (pv 3) (pa_cons (pv 2) (pa_cons (pv 5) pa_nil)))) pa_nil)) (pe_lstM pa_nil)))) (pss_cons (ps_fldM (pv 0) (pe_op op_catM (pv 6) (pe_slice sl_listM (pe_fldM (pv 0) T.k_Sender.cl T.f_Sender__asked) (po_some pe_int) po_none)) T.k_Sender.cl T.f_Sender__asked) (pss_one ps_retN))) pss_nil) (pss_cons (ps_ifM (pt_cmpR op_eq (pv 3) (pe_fldM (pv 0) T.k_Sender.cl T.f_Sender_next) (nomark _)) (pss_cons (ps_dputM (hu_of hr) (pe_fldM (pv 0) T.k_Sender.cl T.f_Sender__begun) (pv 3) (pe_pop (pe_fldM (pv 0) T.k_Sender.cl T.f_Sender__waiting) pe_int)) (pss_one (ps_fldaugM (pv 0) pe_int in_add T.k_Sender.cl T.f_Sender_next))) pss_nil) (pss_one (ps_dputM (hu_of hr) (pe_fldM (pv 0) T.k_Sender.cl T.f_Sender__sent) (pv 3) (pv 2)))))), ?_⟩
    have w0 : Own H B (sas A m) B (scells T.C_Sender A m s') H := c.start
    have hI := w0.mem (p := A.p) (.head _)
    have hB := w0.mem (p := A.bg) (.tail _ (.head _))
    have hT := w0.mem (p := A.st) (.tail _ (.tail _ (.head _)))
    have hW := w0.mem (p := A.wt) (.tail _ (.tail _ (.tail _ (.head _))))
    have hK := w0.mem (p := m.ak) (.tail _ (.tail _ (.tail _ (.tail _ (.head _)))))
    have hkl := sb.kl
    unfold SnS.cnt at q
    unfold SnS.left at hx
    (repeat walk_at "rd")
    refine ⟨t, _, rfl, st_of ht, rfl, _, _, rfl, _, _, rfl, _, _, rfl, rfl, ?_⟩
    (repeat walk_at "rd")
    cases hka : m.kA with
    | cons k0 kr =>
      cases hd : s'.akd with
      | nil =>
        rw [hka, hd] at hkl
        cases hkl
      | cons y yr =>
        rw [hd] at hx q
        dsimp only at hx q
        cases hx
        rw [hka, hd] at hkl
        have hal := ok.al
        rw [hd, List.length_cons] at hal
        rw [hka] at hK
        refine br_T ?_
        (repeat walk_at "rd")
        refine rd_say (fun v H1 => ∃ r us, v = .ref r ∧ H r = none ∧ Same H H1 ∧ H1 r = some (.lst (us.map V.ref)) ∧ AkN H H1 us (if e < x.2.2 then [(x.1, e, x.2.2)] else [])) ?_ (fun v H1 p => ?_)
        · (repeat walk_at "rd")
          refine br_by (fun h => ?_) (fun h => ?_)
          · (repeat walk_at "rd")
            intro u H1 n1 s1 e1
            (repeat walk_at "rd")
            intro r H2 n2 s2 e2
            refine ⟨r, [u], rfl, same_none s1 n2, s1.trans s2, e2, ?_⟩
            rw [if_pos h]
            refine ⟨rfl, fun i a z h1 h2 => ?_⟩
            cases i with
            | zero =>
              cases h1
              cases h2
              exact ⟨n1, s2 _ _ e1⟩
            | succ i => cases h1
          · (repeat walk_at "rd")
            intro r H2 n2 s2 e2
            refine ⟨r, [], rfl, n2, s2, e2, ?_⟩
            rw [if_neg h]
            exact ⟨rfl, fun i a z h1 h2 => (nomatch h1)⟩
        obtain ⟨r, us, rfl, nr, s1, er, hul, hus⟩ := p
        obtain ⟨B1, sB1, hB1, w1⟩ := w0.adopt s1 us fun a ha => by
          obtain ⟨i, hi⟩ := List.getElem?_of_mem ha
          have hil := (List.getElem?_eq_some_iff.mp hi).1
          have := hus i a _ hi (List.getElem?_eq_getElem (hul ▸ hil))
          exact ⟨this.1, by rw [this.2]; exact fun z => (nomatch z)⟩
        have hul2 : us.length ≤ 1 := by
          rw [hul]
          split <;> simp
        have hp1 := w1.mem (p := A.p) (.head _)
        have hk1 := s1 _ _ hK
        (repeat walk_at "rd")
        refine rd_sl (sq_of hk1) ?_
        intro r2 H2 n2 s2 e2
        rw [List.map_cons, cutV_tail] at e2
        refine rd_cat (s2 _ _ er) e2 (by rw [List.length_map, List.length_map]; have := hkl; rw [List.length_cons, List.length_cons] at this; omega) ?_
        intro n H3 n3 s3 e3
        have w3 := (w1.more s2).add n3 s3 e3
        have hp3 := w3.mem (p := A.p) (.tail _ (.head _))
        (repeat walk_at "rd")
        refine rd_putF hp3 (by exact Nat.le_of_ble_eq_true rfl) rfl ?_
        have w4 := (w3.set 1 rfl (.ins T.C_Sender A.dx (s'.fs A { m with ak := n }))).pick [1, 2, 3, 4, 0] [5]
        rw [← List.map_append] at w4
        (repeat walk_at "rd")
        refine q B1 { m with ak := n, kA := us ++ kr } _ w4 ((sb.mono sB1).asks ?_ fun i a z h1 h2 => ?_)
        · rw [List.length_append, List.length_append, hul]
          have := hkl
          rw [List.length_cons, List.length_cons] at this
          omega
        · by_cases hi : i < us.length
          · rw [List.getElem?_append_left hi] at h1
            rw [List.getElem?_append_left (hul ▸ hi)] at h2
            rw [hB1 a (List.mem_of_getElem? h1)]
            exact (hus i a z h1 h2).2
          · rw [List.getElem?_append_right (by omega)] at h1 h2
            rw [← hul] at h2
            refine (sb.mono sB1).ka (i - us.length + 1) a z ?_ ?_
            · rw [hka]
              exact h1
            · rw [hd]
              exact h2
    | nil =>
      have hd : s'.akd = [] := List.length_eq_zero_iff.mp (by
        rw [hka] at hkl
        exact hkl.symm)
      rw [hd] at hx q
      dsimp only at hx q
      refine br_F ?_
      (repeat walk_at "rd")
      refine br_eby (fun h => ?_) (fun h => ?_)
      · rw [if_pos h] at q
        have hlt : s'.left2 = some x := by
          cases hb : sget s'.bgn (s'.nxt - 1) with
          | none =>
            rw [hb] at hx
            exact hx
          | some pk =>
            rw [hb] at hx
            dsimp only at hx
            split at hx
            · cases hx
              exact absurd h (by show ¬ s'.nxt - 1 = s'.nxt; omega)
            · exact hx
        unfold SnS.left2 at hlt
        cases hwa : m.wA with
        | nil =>
          have hd2 : s'.wtg = [] := List.length_eq_zero_iff.mp (by
            have := sb.wl
            rw [hwa] at this
            exact this.symm)
          rw [hd2] at hlt
          cases hlt
        | cons w1 wr =>
          cases hd2 : s'.wtg with
          | nil =>
            rw [hd2] at hlt
            cases hlt
          | cons pk pr =>
            have h0 := sb.wa 0 w1 pk (by rw [hwa]; rfl) (by rw [hd2]; rfl)
            rw [hd2] at q
            have hnin : x.1 ∉ m.bp.map Prod.fst := fun z => by
              rw [← pkX_keys, sb.be] at z
              have := ok.kn _ z
              omega
            have hbl : m.bp.length ≤ 100000 := by
              have := ok.len
              rw [← sb.be] at this
              unfold pkX at this
              rw [List.length_map] at this
              omega
            rw [hwa] at hW
            (repeat walk_at "rd")
            refine rd_pop0 hW ?_
            have w1' := w0.set 3 rfl (.lst (wr.map V.ref))
            (repeat walk_at "rd")
            refine rd_dput (w1'.mem (p := A.bg) (.tail _ (.head _))) (by unfold pkK; rw [List.length_map]; omega) ?_
            rw [pk_put hnin (x := pk)]
            have w2 := w1'.set 1 rfl (.dK (pkK (m.bp ++ [(x.1, w1, pk)])))
            have hp2 := w2.mem (p := A.p) (.head _)
            (repeat walk_at "rd")
            refine rd_putF hp2 (by exact Nat.le_of_ble_eq_true rfl) rfl ?_
            have w3 := w2.set 0 rfl (.ins T.C_Sender A.dx ({ s' with nxt := s'.nxt + 1 }.fs A m))
            have hp3 := w3.mem (p := A.p) (.head _)
            (repeat walk_at "rd")
            refine rd_dput (w3.mem (p := A.st) (.tail _ (.tail _ (.head _)))) (by rw [List.length_map]; have := ok.slen; omega) ?_
            rw [snt_put]
            have w4 := w3.set 2 rfl (.dK (sntK (sput s'.snt x.1 e)))
            (repeat walk_at "rd")
            refine q B { m with bp := m.bp ++ [(x.1, w1, pk)], wA := wr } _ w4 ⟨?_, sb.ba.snoc h0, ?_, fun i a z h1 h2 => ?_, ?_, fun i a z h1 h2 => ?_⟩
            · show pkX (m.bp ++ _) = _
              unfold pkX
              rw [List.map_append]
              have := sb.be
              unfold pkX at this
              rw [this]
              rfl
            · have := sb.wl
              rw [hwa, hd2] at this
              exact Nat.succ.inj this
            · refine sb.wa (i + 1) a z ?_ ?_
              · rw [hwa]
                exact h1
              · rw [hd2]
                exact h2
            · show m.kA.length = 0
              rw [hka]
              rfl
            · have h1 : m.kA[i]? = some a := h1
              rw [hka] at h1
              cases h1
      · rw [if_neg h] at q
        (repeat walk_at "rd")
        refine rd_dput hT (by rw [List.length_map]; have := ok.slen; omega) ?_
        rw [snt_put]
        have w4 := w0.set 2 rfl (.dK (sntK (sput s'.snt x.1 e)))
        (repeat walk_at "rd")
        exact q B m _ w4 ⟨sb.be, sb.ba, sb.wl, sb.wa, by (show m.kA.length = 0; rw [hka]; rfl), fun i a z h1 h2 => (by rw [hka] at h1; cases h1)⟩
end
theorem headD_app {l : List Int} {x d d' : Int} : (l ++ [x]).headD d = l.headD x := by
  cases l <;> rfl
theorem SnOk.cnt {s : SnS} (h : SnOk s) {x : Int × Int × Int} (hx : s.left = some x) {e : Int} (he : x.2.1 < e ∧ e ≤ x.2.2) : SnOk (s.cnt x e) := by
  obtain ⟨pk0, hpk, hin, hx0, hx1, hx2⟩ := h.left hx
  unfold SnS.cnt
  unfold SnS.left at hx
  cases hd : s.akd with
  | cons y r =>
    rw [hd] at hx
    cases hx
    obtain ⟨pk, e1, e2, e3, e4⟩ := h.ak x (by rw [hd]; exact .head _)
    have hal := h.al
    rw [hd, List.length_cons] at hal
    refine ⟨h.bt, h.wn, h.ks, h.asc, h.kn, h.lo, h.wd, h.n0, h.bp, h.wp, h.sr, fun z hz => ?_, ?_⟩
    · rcases List.mem_append.mp hz with hz | hz
      · split at hz
        · rename_i hlt
          rw [List.mem_singleton.mp hz]
          exact ⟨pk, e1, (show 0 ≤ e by omega), hlt, e4⟩
        · cases hz
      · exact h.ak z (by rw [hd]; exact .tail _ hz)
    · show ((if e < x.2.2 then [(x.1, e, x.2.2)] else []) ++ r).length ≤ 6400
      rw [List.length_append]
      split
      · rw [List.length_singleton]
        omega
      · rw [List.length_nil]
        omega
  | nil =>
    rw [hd] at hx
    dsimp only at hx ⊢
    have hkn : s.nxt ∉ s.bgn.map Prod.fst := fun z => by
      have := h.kn _ z
      omega
    by_cases hn : x.1 = s.nxt
    · rw [if_pos hn]
      have hlt : s.left2 = some x := by
        cases hb : sget s.bgn (s.nxt - 1) with
        | none =>
          rw [hb] at hx
          exact hx
        | some pk =>
          rw [hb] at hx
          dsimp only at hx
          split at hx
          · cases hx
            exact absurd hn (by show ¬ s.nxt - 1 = s.nxt; omega)
          · exact hx
      unfold SnS.left2 at hlt
      cases hw : s.wtg with
      | nil =>
        rw [hw] at hlt
        cases hlt
      | cons pk r =>
        rw [hw] at hlt
        dsimp only at hlt
        split at hlt
        · rename_i hwin
          cases hlt
          have hlen : (s.nxt, (0 : Int), (pk.length : Int)).2.2 = (pk.length : Int) := rfl
          have he1 : 0 < e := he.1
          have he2 : e ≤ (pk.length : Int) := he.2
          have hks : s.nxt ∉ s.snt.map Prod.fst := by
            rw [← h.ks]
            exact hkn
          refine ⟨h.bt, h.wn, ?_, ?_, fun k hk => ?_, ?_, ?_, h.n0, fun z hz => ?_, fun z hz => ?_, fun n v q hv hq => ?_, fun z hz => (nomatch hz), by show 0 ≤ 6400; omega⟩
          · show (s.bgn ++ [(s.nxt, pk)]).map Prod.fst = (sput s.snt s.nxt e).map Prod.fst
            rw [sput_new hks, List.map_append, List.map_append, h.ks]
            rfl
          · show ((s.bgn ++ [(s.nxt, pk)]).map Prod.fst).Pairwise (· < ·)
            rw [List.map_append]
            refine List.pairwise_append.mpr ⟨h.asc, List.pairwise_cons.mpr ⟨fun y hy => (nomatch hy), .nil⟩, fun a ha b hb => ?_⟩
            rw [List.mem_singleton.mp hb]
            exact h.kn a ha
          · have hk : k ∈ (s.bgn ++ [(s.nxt, pk)]).map Prod.fst := hk
            show k < s.nxt + 1
            rw [List.map_append] at hk
            rcases List.mem_append.mp hk with z | z
            · have := h.kn k z
              omega
            · have := List.mem_singleton.mp z
              have e3 : k = s.nxt := this
              omega
          · show s.low = ((s.bgn ++ [(s.nxt, pk)]).map Prod.fst).headD (s.nxt + 1)
            rw [List.map_append]
            refine h.lo.trans ?_
            exact (headD_app (d' := 0)).symm
          · show s.nxt + 1 ≤ s.low + s.win
            omega
          · have hz : z ∈ s.bgn ++ [(s.nxt, pk)] := hz
            rcases List.mem_append.mp hz with z1 | z1
            · exact h.bp z z1
            · rw [List.mem_singleton.mp z1]
              exact h.wp pk (by rw [hw]; exact .head _)
          · have hz : z ∈ r := hz
            exact h.wp z (by rw [hw]; exact .tail _ hz)
          · have hv : sget (sput s.snt s.nxt e) n = some v := hv
            have hq : sget (s.bgn ++ [(s.nxt, pk)]) n = some q := hq
            rw [sget_sput] at hv
            rw [sget_app] at hq
            by_cases hnn : n = s.nxt
            · rw [if_pos hnn] at hv
              rw [hnn, sget_none hkn] at hq
              have hq : sget [(s.nxt, pk)] s.nxt = some q := hq
              rw [sget_cons, if_pos rfl] at hq
              cases hv
              cases hq
              exact ⟨by omega, he2⟩
            · rw [if_neg hnn] at hv
              cases hb : sget s.bgn n with
              | some q2 =>
                rw [hb] at hq
                cases hq
                exact h.sr n v q hv hb
              | none =>
                rw [hb] at hq
                have hq : sget [(s.nxt, pk)] n = some q := hq
                rw [sget_cons, if_neg (fun z => hnn z.symm)] at hq
                cases hq
        · cases hlt
    · rw [if_neg hn]
      unfold SnS.pkt at hpk
      rw [if_neg hn] at hpk
      have hin2 : x.1 ∈ s.snt.map Prod.fst := by
        rw [← h.ks]
        exact sget_key hpk
      refine ⟨h.bt, h.wn, ?_, h.asc, h.kn, h.lo, h.wd, h.n0, h.bp, h.wp, fun n v q hv hq => ?_, fun z hz => ?_, ?_⟩
      · show s.bgn.map Prod.fst = (sput s.snt x.1 e).map Prod.fst
        rw [sput_keys_in hin2]
        exact h.ks
      · have hv : sget (sput s.snt x.1 e) n = some v := hv
        rw [sget_sput] at hv
        by_cases hnn : n = x.1
        · rw [if_pos hnn] at hv
          cases hv
          have hq : sget s.bgn n = some q := hq
          rw [hnn, hpk] at hq
          cases hq
          omega
        · rw [if_neg hnn] at hv
          exact h.sr n v q hv hq
      · cases hz
      · show 0 ≤ 6400
        omega
/-- the piece that is sent, and what is then -/
def SnS.sendP (s : SnS) (room : Int) : Option (List Int × SnS) := match s.left with
  | none => none
  | some x => match s.pkt x.1 with
    | none => none
    | some pk => if x.2.1 < s.endL x pk room then some (dataF s.bits (s.cnt x (s.endL x pk room)).left.isNone x.1 (partF pk.length x.2.1 (s.endL x pk room)) x.2.1 (midF pk x.2.1 (s.endL x pk room)), s.cnt x (s.endL x pk room)) else none
theorem SnS.sendP_some {s : SnS} {room : Int} {x : Int × Int × Int} {pk : List Int} (hx : s.left = some x) (hpk : s.pkt x.1 = some pk) (hlt : x.2.1 < s.endL x pk room) : s.sendP room = some (dataF s.bits (s.cnt x (s.endL x pk room)).left.isNone x.1 (partF pk.length x.2.1 (s.endL x pk room)) x.2.1 (midF pk x.2.1 (s.endL x pk room)), s.cnt x (s.endL x pk room)) := by
  unfold SnS.sendP
  rw [hx]
  dsimp only
  rw [hpk]
  exact if_pos hlt
theorem SnS.sendP_no {s : SnS} {room : Int} {x : Int × Int × Int} {pk : List Int} (hx : s.left = some x) (hpk : s.pkt x.1 = some pk) (hlt : ¬ x.2.1 < s.endL x pk room) : s.sendP room = none := by
  unfold SnS.sendP
  rw [hx]
  dsimp only
  rw [hpk]
  exact if_neg hlt
theorem SnOk.sendP {s : SnS} (h : SnOk s) {room : Int} {ds : List Int} {s2 : SnS} (e : s.sendP room = some (ds, s2)) : SnOk s2 := by
  unfold SnS.sendP at e
  cases hx : s.left with
  | none =>
    rw [hx] at e
    cases e
  | some x =>
    rw [hx] at e
    dsimp only at e
    cases hp : s.pkt x.1 with
    | none =>
      rw [hp] at e
      cases e
    | some pk =>
      rw [hp] at e
      dsimp only at e
      split at e
      · rename_i hlt
        cases e
        refine h.cnt hx ⟨hlt, ?_⟩
        unfold SnS.endL endF
        omega
      · cases e
section
variable {P : Program} {w : World} {K : PySem.W.Frag} {mg : Str → Option Value} {base : Heap}
def sp_Sender_send (K : PySem.W.Frag) (C : Addr) : Sp := fun vs H Q _ => ∃ (A : SnA) (m : SnM) (s : SnS) (room : Int) (B : Hp), vs = [.ref A.p, .int room] ∧ Cells H B (scells C A m s) ∧ SnB B m s ∧ SnOk s ∧
  (s.sendP room = none → ∀ H', Same H H' → Q .non H') ∧
  (∀ ds s2, s.sendP room = some (ds, s2) → ∀ (B' : Hp) (m' : SnM) (a : Addr) (H' : Hp), Own H B (sas A m) B' (scells C A m' s2) H' → SnB B' m' s2 → H a = none → B' a = some (.lst (ds.map V.int)) → Q (.ref a) H')
@[irreducible] def ip_Sender_send (K : PySem.W.Frag) (C : Addr) : Sp := sp_Sender_send K C
theorem op_Sender_send {K : PySem.W.Frag} {C : Addr} {vs : List V} {H : Hp} {Q : VK} {E : XK} (h : sp_Sender_send K C vs H Q E) : ip_Sender_send K C vs H Q E := by
  unfold ip_Sender_send
  exact h
theorem un_Sender_send {K : PySem.W.Frag} {C : Addr} {vs : List V} {H : Hp} {Q : VK} {E : XK} (h : ip_Sender_send K C vs H Q E) : sp_Sender_send K C vs H Q E := by
  unfold ip_Sender_send at h
  exact h
theorem ok_Sender_send (T : Tx P w K mg base) : FnOk P w K mg base CX0 7 T.a_Sender_send T.d_Sender_send ["self", "room"] (ip_Sender_send K T.C_Sender) := by
  have G_Sender__first_left := ok_Sender__first_left T
  have G_Sender__packet := ok_Sender__packet T
  have G_cut := ok_cut T
  have G_Sender__count_sent := ok_Sender__count_sent T
  refine T.p_Sender_send.F.ok sc_Sender_send (fun vs H Q E h => ?_) (fun cdv A outer s H vs Q E hr h => ?_)
  · obtain ⟨A, m, s', room, B, rfl, c, sb, ok, q1, q2⟩ := un_Sender_send h
    rfl
  · obtain ⟨A, m, s', room, B, rfl, c, sb, ok, q1, q2⟩ := un_Sender_send h
    refine ⟨_, (pss_cons (ps_set (i := 2) sc_Sender_send.nd rfl (Or.inl rfl) (meth_weak (pe_meth0 (pe_c (pv 0)) T.k_Sender.cl T.p_Sender__first_left.me G_Sender__first_left (hr.mono (by decide)) T.p_Sender__first_left.b .nil pass0))) (pss_cons (ps_ifM (pt_cmpR op_isN (pv 2) pe_non (nomark _)) (pss_one (ps_ret pe_non)) pss_nil) (pss_cons (ps_asg (pv 2) (pg_tup rfl (pgs_cons (pg_name (i := 3) sc_Sender_send.nd rfl (Or.inl rfl)) (pgs_cons (pg_name (i := 4) sc_Sender_send.nd rfl (Or.inl rfl)) (pgs_cons (pg_name (i := 5) sc_Sender_send.nd rfl (Or.inl rfl)) pgs_nil))))) (pss_cons (ps_set (i := 6) sc_Sender_send.nd rfl (Or.inl rfl) (meth_weak (pe_meth (pe_c (pv 0)) T.k_Sender.cl T.p_Sender__packet.me G_Sender__packet (hr.mono (by decide)) T.p_Sender__packet.b .nil pass0 (pa_cons (pv 3) pa_nil)))) (pss_cons (ps_set (i := 7) sc_Sender_send.nd rfl (Or.inl rfl) (pe_call G_cut (hr.mono (by decide)) rfl T.p_cut.m T.p_cut.F.kp T.p_cut.b .nil pass0 (pa_cons (pe_fldM (pv 0) T.k_Sender.cl T.f_Sender_bits) (pa_cons pe_bl (pa_cons (pv 3) (pa_cons (pv 6) (pa_cons (pv 4) (pa_cons (pv 5) (pa_cons (pv 1) pa_nil))))))))) (pss_cons (ps_ifM (pt_cmpR op_isN (pv 7) pe_non (nomark _)) (pss_one (ps_ret pe_non)) pss_nil) (pss_cons (ps_asg (pv 7) (pg_tup rfl (pgs_cons (pg_name (i := 8) sc_Sender_send.nd rfl (Or.inl rfl)) (pgs_cons (pg_name (i := 9) sc_Sender_send.nd rfl (Or.inl rfl)) pgs_nil)))) (pss_cons (ps_expr (meth_weak (pe_meth (pe_c (pv 0)) T.k_Sender.cl T.p_Sender__count_sent.me G_Sender__count_sent (hr.mono (by decide)) T.p_Sender__count_sent.b .nil pass0 (pa_cons (pv 2) (pa_cons (pv 9) pa_nil))))) (pss_cons (ps_ifM (pt_cmpR op_isN (meth_weak (pe_meth0 (pe_c (pv 0)) T.k_Sender.cl T.p_Sender__first_left.me G_Sender__first_left (hr.mono (by decide)) T.p_Sender__first_left.b .nil pass0)) pe_non (nomark _)) (pss_one (ps_asg (pe_call G_cut (hr.mono (by decide)) rfl T.p_cut.m T.p_cut.F.kp T.p_cut.b .nil pass0 (pa_cons (pe_fldM (pv 0) T.k_Sender.cl T.f_Sender_bits) (pa_cons pe_bl (pa_cons (pv 3) (pa_cons (pv 6) (pa_cons (pv 4) (pa_cons (pv 5) (pa_cons (pv 1) pa_nil)))))))) (pg_tup rfl (pgs_cons (pg_name (i := 8) sc_Sender_send.nd rfl (Or.inl rfl)) (pgs_cons (pg_name (i := 10) sc_Sender_send.nd rfl (Or.inl rfl)) pgs_nil))))) pss_nil) (pss_one (ps_ret (pv 8)))))))))))), ?_⟩
    have w0 : Own H B (sas A m) B (scells T.C_Sender A m s') H := c.start
    have ra : SnAt T.C_Sender A m s' H := .of w0 sb ok.ks
    have hI0 := ra.i
    (repeat walk_at "rd")
    refine op_Sender__first_left ⟨A, m, s', rfl, ra, fun v H1 s1 hv => ?_⟩
    cases hx : s'.left with
    | none =>
      rw [hx] at hv
      rw [show v = .non from hv]
      (repeat walk_at "rd")
      refine q1 ?_ H1 s1
      unfold SnS.sendP
      rw [hx]
    | some x =>
      rw [hx] at hv
      obtain ⟨t, rfl, ht⟩ := hv
      obtain ⟨pk, hpk, hin, h0, h1, h2⟩ := ok.left hx
      have ra1 := ra.mono s1
      have hI := ra1.i
      (repeat walk_at "rd")
      refine ⟨t, _, rfl, st_of ht, rfl, _, _, rfl, _, _, rfl, _, _, rfl, rfl, ?_⟩
      (repeat walk_at "rd")
      refine op_Sender__packet ⟨A, m, s', x.1, pk, B, rfl, ra1, sb, hpk, fun a ha => ?_⟩
      have hl2 := hin.l2
      have hbt := ok.bt
      have w1 := w0.more s1
      (repeat walk_at "rd")
      refine op_cut ⟨s'.bits, false, x.1, a, pk, x.2.1, x.2.2, room, rfl, by omega, sq_of (w1.imm _ _ ha), hl2, by omega, h1, fun hle H2 s2 => ?_, fun hlt t2 p2 H2 nt2 np2 _ s2 e2 e3 => ?_⟩
      · (repeat walk_at "rd")
        exact q1 (SnS.sendP_no hx hpk (by unfold SnS.endL; omega)) H2 (s1.trans s2)
      · have hsp := SnS.sendP_some hx hpk (room := room) hlt
        have hend : s'.endL x pk room = endF s'.bits pk.length x.2.1 x.2.2 room := rfl
        rw [← hend] at hlt e2 e3
        have hle2 : s'.endL x pk room ≤ x.2.2 := by
          unfold SnS.endL endF
          omega
        obtain ⟨B2, sB2, hB2, _, w2⟩ := w1.ro np2 s2 e3
        have hI2 := w2.mem (p := A.p) (.head _)
        (repeat walk_at "rd")
        refine ⟨t2, _, rfl, st_of e2, rfl, _, _, rfl, _, _, rfl, rfl, ?_⟩
        (repeat walk_at "rd")
        refine op_Sender__count_sent ⟨A, m, s', t, x, s'.endL x pk room, B2, rfl, w2.c, sb.mono sB2, ok, s2 _ _ ht, hx, ⟨hlt, hle2⟩, fun B3 m3 H3 w3' sb3 => ?_⟩
        have w3 := w2.call0 w3'
        have ok3 := ok.cnt hx ⟨hlt, hle2⟩
        have ra3 : SnAt T.C_Sender A m3 _ H3 := .of w3 sb3 ok3.ks
        have sB3 := w3'.grow
        have hI3 := ra3.i
        have hbits : (s'.cnt x (s'.endL x pk room)).bits = s'.bits := by
          unfold SnS.cnt
          split
          · rfl
          · split <;> rfl
        (repeat walk_at "rd")
        refine op_Sender__first_left ⟨A, m3, _, rfl, ra3, fun v4 H4 s4 hv4 => ?_⟩
        have w4 := w3.more s4
        cases hl4 : (s'.cnt x (s'.endL x pk room)).left with
        | none =>
          rw [hl4] at hv4 hsp
          rw [show v4 = .non from hv4]
          have hI4 := w4.mem (p := A.p) (.head _)
          have hA4 := w4.imm _ _ (sB3 _ _ (sB2 _ _ ha))
          (repeat walk_at "rd")
          rw [hbits]
          refine op_cut ⟨s'.bits, true, x.1, a, pk, x.2.1, x.2.2, room, rfl, by omega, sq_of hA4, hl2, by omega, h1, fun hle => ?_, fun _ t5 p5 H5 nt5 np5 _ s5 e5 e6 => ?_⟩
          · rw [← hend] at hle
            omega
          · rw [← hend] at e5 e6
            obtain ⟨B5, sB5, hB5, _, w5⟩ := w4.ro np5 s5 e6
            (repeat walk_at "rd")
            refine ⟨t5, _, rfl, st_of e5, rfl, _, _, rfl, _, _, rfl, rfl, ?_⟩
            (repeat walk_at "rd")
            exact q2 _ _ hsp B5 m3 p5 H5 w5 (sb3.mono sB5) (w4.frS np5).1 hB5
        | some y =>
          rw [hl4] at hv4 hsp
          obtain ⟨t4, rfl, _⟩ := hv4
          (repeat walk_at "rd")
          exact q2 _ _ hsp B3 m3 p2 H4 w4 sb3 (same_none s1 np2) (sB3 _ _ hB2)
end
theorem PrsAt.keep {H H' : Hp} {ps : List Addr} {r : List (Int × Int)} (h : PrsAt H ps r) (k : ∀ b xs, H b = some (.tup xs) → H' b = some (.tup xs)) : PrsAt H' ps r := by
  induction h with
  | nil => exact .nil
  | cons h _ ih => exact .cons (k _ _ h) ih
theorem sas_tup {C : Addr} {A : SnA} {m : SnM} {s : SnS} {H B : Hp} {b : Addr} {xs : List V} (c : Cells H B (scells C A m s)) (h : H b = some (.tup xs)) : b ∉ sas A m := fun z => by
  rcases List.mem_cons.mp z with e | z
  · rw [e, c.cell A.p _ (.head _)] at h
    cases h
  rcases List.mem_cons.mp z with e | z
  · rw [e, c.cell A.bg _ (.tail _ (.head _))] at h
    cases h
  rcases List.mem_cons.mp z with e | z
  · rw [e, c.cell A.st _ (.tail _ (.tail _ (.head _)))] at h
    cases h
  rcases List.mem_cons.mp z with e | z
  · rw [e, c.cell A.wt _ (.tail _ (.tail _ (.tail _ (.head _))))] at h
    cases h
  · rw [List.mem_singleton.mp z, c.cell m.ak _ (.tail _ (.tail _ (.tail _ (.tail _ (.head _)))))] at h
    cases h
theorem sas_new {C : Addr} {A : SnA} {m : SnM} {s : SnS} {H H1 B : Hp} {b : Addr} (c : Cells H B (scells C A m s)) (h : H b = none) : b ∉ sas A m := fun z => by
  rcases List.mem_cons.mp z with e | z
  · rw [e, c.cell A.p _ (.head _)] at h
    cases h
  rcases List.mem_cons.mp z with e | z
  · rw [e, c.cell A.bg _ (.tail _ (.head _))] at h
    cases h
  rcases List.mem_cons.mp z with e | z
  · rw [e, c.cell A.st _ (.tail _ (.tail _ (.head _)))] at h
    cases h
  rcases List.mem_cons.mp z with e | z
  · rw [e, c.cell A.wt _ (.tail _ (.tail _ (.tail _ (.head _))))] at h
    cases h
  · rw [List.mem_singleton.mp z, c.cell m.ak _ (.tail _ (.tail _ (.tail _ (.tail _ (.head _)))))] at h
    cases h
def SnS.ask (s : SnS) (n : Int) (rs : List (Int × Int)) : SnS := { s with akd := s.akd ++ rs.map fun r => (n, r.1, r.2 + 1) }
theorem SnS.ask_nil (s : SnS) (n : Int) : s.ask n [] = s := by
  unfold SnS.ask
  rw [List.map_nil, List.append_nil]
section
variable {P : Program} {w : World} {K : PySem.W.Frag} {mg : Str → Option Value} {base : Heap}
def sp_Sender__ask (K : PySem.W.Frag) (C : Addr) : Sp := fun vs H Q _ => ∃ (A : SnA) (m : SnM) (s : SnS) (n : Int) (ra : Addr) (ps : List Addr) (rs : List (Int × Int)) (v : Int) (B : Hp), vs = [.ref A.p, .int n, .ref ra] ∧ Cells H B (scells C A m s) ∧ SnB B m s ∧ sget s.snt n = some v ∧ (0 ≤ v ∧ v ≤ 1000) ∧ SqL K H ra (ps.map V.ref) ∧ PrsAt H ps rs ∧ (∀ x ∈ rs, (-1000000 ≤ x.1 ∧ x.1 ≤ 1000000) ∧ (-1000000 ≤ x.2 ∧ x.2 ≤ 1000000)) ∧ s.akd.length ≤ 500000 ∧
  ∀ (B' : Hp) (us : List Addr) (H' : Hp), Own H B (sas A m) B' (scells C A { m with kA := m.kA ++ us } (s.ask n (rowsF (toldF rs v.toNat)))) H' → SnB B' { m with kA := m.kA ++ us } (s.ask n (rowsF (toldF rs v.toNat))) → Q .non H'
@[irreducible] def ip_Sender__ask (K : PySem.W.Frag) (C : Addr) : Sp := sp_Sender__ask K C
theorem op_Sender__ask {K : PySem.W.Frag} {C : Addr} {vs : List V} {H : Hp} {Q : VK} {E : XK} (h : sp_Sender__ask K C vs H Q E) : ip_Sender__ask K C vs H Q E := by
  unfold ip_Sender__ask
  exact h
theorem un_Sender__ask {K : PySem.W.Frag} {C : Addr} {vs : List V} {H : Hp} {Q : VK} {E : XK} (h : ip_Sender__ask K C vs H Q E) : sp_Sender__ask K C vs H Q E := by
  unfold ip_Sender__ask at h
  exact h
theorem ok_Sender__ask (T : Tx P w K mg base) : FnOk P w K mg base CX0 3 T.a_Sender__ask T.d_Sender__ask ["self", "number", "ranges"] (ip_Sender__ask K T.C_Sender) := by
  have G_u_rows_told := ok_u_rows_told T
  refine T.p_Sender__ask.F.ok sc_Sender__ask (fun vs H Q E h => ?_) (fun cdv A outer s H vs Q E hr h => ?_)
  · obtain ⟨A, m, s', n, ra, ps, rs, v, B, rfl, c, sb, hv, hvb, hL, hR, hb, hlen, q⟩ := un_Sender__ask h
    rfl
  · obtain ⟨A, m, s', n, ra, ps, rs, v, B, rfl, c, sb, hv, hvb, hL, hR, hb, hlen, q⟩ := un_Sender__ask h
    refine ⟨_, (pss_one (ps_forG PassesOwn.never rfl (pe_call G_u_rows_told (hr.mono (by decide)) rfl T.p_u_rows_told.m T.p_u_rows_told.F.kp T.p_u_rows_told.b .nil pass0 (pa_cons (pv 2) (pa_cons (pe_dgetM (hu_of hr) (pe_fldM (pv 0) T.k_Sender.cl T.f_Sender__sent) (pv 1)) pa_nil))) (pg_tup rfl (pgs_cons (pg_name (i := 3) sc_Sender__ask.nd rfl (Or.inl rfl)) (pgs_cons (pg_name (i := 4) sc_Sender__ask.nd rfl (Or.inl rfl)) pgs_nil))) (pss_one (ps_expr (pe_app (pe_fldM (pv 0) T.k_Sender.cl T.f_Sender__asked) (pe_tupM (pa_cons (pv 1) (pa_cons (pv 3) (pa_cons (pe_op op_addM (pv 4) pe_int) pa_nil))))))))), ?_⟩
    have w0 : Own H B (sas A m) B (scells T.C_Sender A m s') H := c.start
    have hI := w0.mem (p := A.p) (.head _)
    have hT := w0.mem (p := A.st) (.tail _ (.tail _ (.head _)))
    have hvv : valV (sntK s'.snt) (.inl n) = some (.int v) := by
      rw [snt_val, hv]
      rfl
    refine rd_forG ?_
    (repeat walk_at "rd")
    refine rd_dget hT hvv ?_
    (repeat walk_at "rd")
    refine op_u_rows_told ⟨ra, ps, rs, v, rfl, hL, hR, hvb, hb, fun r qs H1 n1 s1 e1 hq => ?_⟩
    have hrl : (rowsF (toldF rs v.toNat)).length ≤ 1000 := by
      have := rowsG_len (toldF rs v.toNat) [] 0
      rw [toldF_len] at this
      unfold rowsF
      have e0 : ([] : List (Int × Int)).length = 0 := rfl
      omega
    generalize rowsF (toldF rs v.toNat) = rows at *
    have w1 := w0.more s1
    have wi : Own H1 B (sas A m) B (scells T.C_Sender A m s') H1 := w1.c.start
    have hrn : r ∉ sas A m := sas_new (H1 := H1) c n1
    refine ⟨r, qs.map V.ref, fun i σ H' => Stop (∃ (B2 : Hp) (us : List Addr) (x y : Option V), Own H1 B (sas A m) B2 (scells T.C_Sender A { m with kA := m.kA ++ us } (s'.ask n (rows.take i))) H' ∧ SnB B2 { m with kA := m.kA ++ us } (s'.ask n (rows.take i)) ∧ us.length ≤ i ∧ σ = [some (.ref A.p), some (.int n), some (.ref ra), x, y]), rfl, sq_of e1, .a ⟨B, [], _, _, ?_, ?_, Nat.le_refl _, rfl⟩, fun i σ' H' hi w => ?_, fun i y σ' H' hi w => ?_, fun σ' H' w => ?_⟩
    · rw [List.take_zero, SnS.ask_nil, List.append_nil]
      exact wi
    · rw [List.take_zero, SnS.ask_nil, List.append_nil]
      exact sb
    · obtain ⟨B2, us, x, y, w2, _, _, _⟩ := w.un
      exact sq_of (w2.kept r _ hrn e1)
    · obtain ⟨B2, us, x, y0, w2, sb2, hus, rfl⟩ := w.un
      rw [List.getElem?_map] at hi
      obtain ⟨pa, hpa, rfl⟩ := Option.map_eq_some_iff.mp hi
      obtain ⟨z, hz, hpz⟩ := hq.at hpa
      have hil := (List.getElem?_eq_some_iff.mp hz).1
      have ht := w2.kept pa _ (sas_tup w1.c hpz) hpz
      refine ⟨pa, _, rfl, st_of ht, rfl, ?_⟩
      refine ⟨_, _, rfl, ?_⟩
      refine ⟨_, _, rfl, ?_⟩
      have hI2 := w2.mem (p := A.p) (.head _)
      (repeat walk_at "rd")
      intro t H2 n2 s2 e2
      obtain ⟨B3, sB3, hB3, _, w3⟩ := w2.ro n2 s2 e2
      have hkl := sb2.kl
      have hkl2 : (m.kA ++ us).length = (s'.ask n (rows.take i)).akd.length := hkl
      have hal : (s'.ask n (rows.take i)).akd.length ≤ 501000 := by
        unfold SnS.ask
        rw [List.length_append, List.length_map, List.length_take]
        omega
      refine rd_app (w3.mem (p := m.ak) (.tail _ (.tail _ (.tail _ (.tail _ (.head _)))))) (by rw [List.length_map]; omega) ?_
      have w4 := w3.set 4 rfl (.lst ((m.kA ++ us).map V.ref ++ [.ref t]))
      have es : s'.ask n (rows.take (i + 1)) = { s'.ask n (rows.take i) with akd := (s'.ask n (rows.take i)).akd ++ [(n, z.1, z.2 + 1)] } := by
        rw [take_snoc hz]
        unfold SnS.ask
        dsimp only
        rw [List.map_append, List.append_assoc]
        rfl
      refine .a ⟨B3, us ++ [t], _, _, ?_, ?_, by rw [List.length_append, List.length_singleton]; omega, rfl⟩
      · rw [es, ← List.append_assoc]
        have e5 : (m.kA ++ us).map V.ref ++ [V.ref t] = (m.kA ++ us ++ [t]).map V.ref := (List.map_append (f := V.ref) (l₁ := m.kA ++ us) (l₂ := [t])).symm
        rw [e5] at w4
        rw [e5]
        exact w4
      · rw [es, ← List.append_assoc]
        refine (sb2.mono sB3).asks (by have h9 := hkl2; rw [List.length_append] at h9; rw [List.length_append, List.length_append, List.length_append, h9]; rfl) fun j a y h1 h2 => ?_
        by_cases hj : j < (m.kA ++ us).length
        · rw [List.getElem?_append_left hj] at h1
          rw [List.getElem?_append_left (hkl2 ▸ hj)] at h2
          exact (sb2.mono sB3).ka j a y h1 h2
        · rw [List.getElem?_append_right (by omega)] at h1 h2
          rw [← hkl2] at h2
          cases hj2 : j - (m.kA ++ us).length with
          | zero =>
            rw [hj2] at h1 h2
            cases h1
            cases h2
            exact hB3
          | succ j2 =>
            rw [hj2] at h1
            cases h1
    · obtain ⟨B2, us, x, y, w2, sb2, _, rfl⟩ := w.un
      rw [List.length_map, hq.len, List.take_length] at w2 sb2
      exact q B2 us H' (w1.call0 w2) sb2
end
/-- without the packets that these numbers name -/
def SnS.drp (s : SnS) (ns : List Int) : SnS := { s with bgn := s.bgn.filter fun x => !decide (x.1 ∈ ns), snt := s.snt.filter fun x => !decide (x.1 ∈ ns) }
def SnS.fgt (s : SnS) (ns : List Int) : SnS := { s.drp ns with low := ((s.drp ns).bgn.map Prod.fst).headD s.nxt }
theorem mnL_asc {d : Int} {l : List Int} (h : l.Pairwise (· < ·)) : mnL d l = l.headD d := by
  cases l with
  | nil => exact mnL_nil
  | cons x r =>
    obtain ⟨h1, h2⟩ := mnL_ok (d := d) (ns := x :: r) (fun z => (nomatch z))
    have hx := h2 x (.head _)
    have asc := List.pairwise_cons.mp h
    show mnL d (x :: r) = x
    rcases List.mem_cons.mp h1 with e | e
    · exact e
    · have := asc.1 _ e
      omega
theorem drop_more {α : Type} (l : List (Int × α)) {ns : List Int} {i : Nat} {n : Int} (hi : ns[i]? = some n) : (l.filter fun x => !decide (x.1 ∈ ns.take (i + 1))) = (l.filter fun x => !decide (x.1 ∈ ns.take i)).filter fun x => !decide (x.1 = n) := by
  rw [take_snoc hi, List.filter_filter]
  refine List.filter_congr fun x _ => ?_
  by_cases h : x.1 = n
  · rw [decide_eq_true (show x.1 ∈ ns.take i ++ [n] by rw [h]; exact List.mem_append_right _ (.head _)), decide_eq_true h]
    rfl
  · rw [decide_eq_false h]
    have : decide (x.1 ∈ ns.take i ++ [n]) = decide (x.1 ∈ ns.take i) := by
      refine decide_eq_decide.mpr ⟨fun z => ?_, fun z => List.mem_append_left _ z⟩
      rcases List.mem_append.mp z with z | z
      · exact z
      · exact absurd (List.mem_singleton.mp z) h
    rw [this]
    rfl
theorem drp_keys {α : Type} (l : List (Int × α)) (ns : List Int) : (l.filter fun x => !decide (x.1 ∈ ns)).map Prod.fst = (l.map Prod.fst).filter fun n => !decide (n ∈ ns) := by
  rw [List.filter_map]
  rfl
section
variable {P : Program} {w : World} {K : PySem.W.Frag} {mg : Str → Option Value} {base : Heap}
def sp_Sender__forget (K : PySem.W.Frag) (C : Addr) : Sp := fun vs H Q _ => ∃ (A : SnA) (m : SnM) (s : SnS) (ca : Addr) (ns : List Int) (B : Hp), vs = [.ref A.p, .ref ca] ∧ Cells H B (scells C A m s) ∧ SnB B m s ∧ SnOk s ∧ SqL K B ca (ns.map V.int) ∧ ns.Nodup ∧ (∀ n ∈ ns, n ∈ s.bgn.map Prod.fst) ∧
  ∀ (pk : Pk) (H' : Hp), Own H B (sas A m) B (scells C A { m with bp := pk } (s.fgt ns)) H' → SnB B { m with bp := pk } (s.fgt ns) → Q .non H'
@[irreducible] def ip_Sender__forget (K : PySem.W.Frag) (C : Addr) : Sp := sp_Sender__forget K C
theorem op_Sender__forget {K : PySem.W.Frag} {C : Addr} {vs : List V} {H : Hp} {Q : VK} {E : XK} (h : sp_Sender__forget K C vs H Q E) : ip_Sender__forget K C vs H Q E := by
  unfold ip_Sender__forget
  exact h
theorem un_Sender__forget {K : PySem.W.Frag} {C : Addr} {vs : List V} {H : Hp} {Q : VK} {E : XK} (h : ip_Sender__forget K C vs H Q E) : sp_Sender__forget K C vs H Q E := by
  unfold ip_Sender__forget at h
  exact h
theorem ok_Sender__forget (T : Tx P w K mg base) : FnOk P w K mg base CX0 1 T.a_Sender__forget T.d_Sender__forget ["self", "confirmed"] (ip_Sender__forget K T.C_Sender) := by
  refine T.p_Sender__forget.F.ok sc_Sender__forget (fun vs H Q E h => ?_) (fun cdv A outer s H vs Q E hr h => ?_)
  · obtain ⟨A, m, s', ca, ns, B, rfl, c, sb, ok, hL, nd, hin, q⟩ := un_Sender__forget h
    rfl
  · obtain ⟨A, m, s', ca, ns, B, rfl, c, sb, ok, hL, nd, hin, q⟩ := un_Sender__forget h
    refine ⟨_, (pss_cons (ps_forL PassesOwn.never rfl (pv 1) (pg_name (i := 2) sc_Sender__forget.nd rfl (Or.inl rfl)) (pss_cons (ps_ddelM (pe_fldM (pv 0) T.k_Sender.cl T.f_Sender__begun) (pv 2)) (pss_one (ps_ddelM (pe_fldM (pv 0) T.k_Sender.cl T.f_Sender__sent) (pv 2))))) (pss_one (ps_fldM (pv 0) (pe_callBK (cr_minDf rfl) (by rfl) T.n_min (by decide +kernel) (pa_cons (pe_fldM (pv 0) T.k_Sender.cl T.f_Sender__begun) pa_nil) (pk_cons (pe_fldM (pv 0) T.k_Sender.cl T.f_Sender_next) pk_nil)) T.k_Sender.cl T.f_Sender_low))), ?_⟩
    have w0 : Own H B (sas A m) B (scells T.C_Sender A m s') H := c.start
    refine rd_forL ?_
    (repeat walk_at "rd")
    have hk0 : m.bp.map Prod.fst = s'.bgn.map Prod.fst := by rw [← sb.be, pkX_keys]
    refine ⟨ca, ns.map V.int, fun i σ H' => Stop (Own H B (sas A m) B (scells T.C_Sender A { m with bp := m.bp.filter fun x => !decide (x.1 ∈ ns.take i) } (s'.drp (ns.take i))) H' ∧ ∃ y, σ = [some (.ref A.p), some (.ref ca), y]), rfl, w0.imm.seq hL, .a ⟨?_, _, rfl⟩, fun i σ' H' hi w => w.un.1.imm.seq hL, fun i y σ' H' hi w => ?_, fun σ' H' w => ?_⟩
    · have e1 : ∀ {α : Type} (l : List (Int × α)), (l.filter fun x => !decide (x.1 ∈ ns.take 0)) = l := fun l => List.filter_eq_self.mpr fun x _ => by rw [List.take_zero]; rfl
      unfold SnS.drp
      rw [e1, e1, e1]
      exact w0
    · obtain ⟨w2, x, rfl⟩ := w.un
      rw [List.getElem?_map] at hi
      obtain ⟨n, hn, rfl⟩ := Option.map_eq_some_iff.mp hi
      have hni : n ∉ ns.take i := fun z => by
        obtain ⟨j, hj⟩ := List.getElem?_of_mem z
        rw [List.getElem?_take] at hj
        split at hj
        · have hil := (List.getElem?_eq_some_iff.mp hj).1
          have := (List.getElem?_inj hil nd).mp (hj.trans hn.symm)
          omega
        · cases hj
      have hnin := hin n (List.mem_of_getElem? hn)
      have hI2 := w2.mem (p := A.p) (.head _)
      have hB2 := w2.mem (p := A.bg) (.tail _ (.head _))
      (repeat walk_at "rd")
      have h1 : n ∈ (m.bp.filter fun x => !decide (x.1 ∈ ns.take i)).map Prod.fst := by
        rw [drp_keys, hk0]
        refine List.mem_filter.mpr ⟨hnin, ?_⟩
        rw [decide_eq_false hni]
        rfl
      refine rd_ddel hB2 (by rw [pk_is]; exact decide_eq_true h1) ?_
      rw [pk_drop]
      have w3 := w2.set 1 rfl (.dK (pkK ((m.bp.filter fun x => !decide (x.1 ∈ ns.take i)).filter fun x => !decide (x.1 = n))))
      have hT3 := w3.mem (p := A.st) (.tail _ (.tail _ (.head _)))
      have hI3 := w3.mem (p := A.p) (.head _)
      (repeat walk_at "rd")
      have h2 : n ∈ (s'.drp (ns.take i)).snt.map Prod.fst := by
        show n ∈ (s'.snt.filter fun x => !decide (x.1 ∈ ns.take i)).map Prod.fst
        rw [drp_keys, ← ok.ks]
        refine List.mem_filter.mpr ⟨hnin, ?_⟩
        rw [decide_eq_false hni]
        rfl
      obtain ⟨u, hu⟩ := sget_some h2
      refine rd_ddel hT3 (by rw [snt_val, hu]; rfl) ?_
      rw [snt_drop]
      have w4 := w3.set 2 rfl (.dK (sntK ((s'.drp (ns.take i)).snt.filter fun x => !decide (x.1 = n))))
      refine .a ⟨?_, _, rfl⟩
      unfold SnS.drp
      rw [drop_more _ hn, drop_more _ hn, drop_more _ hn]
      exact w4
    · obtain ⟨w2, x, rfl⟩ := w.un
      rw [List.length_map, List.take_length] at w2
      have hI2 := w2.mem (p := A.p) (.head _)
      have hB2 := w2.mem (p := A.bg) (.tail _ (.head _))
      have hk2 : (m.bp.filter fun x => !decide (x.1 ∈ ns)).map Prod.fst = (s'.drp ns).bgn.map Prod.fst := by
        show _ = (s'.bgn.filter fun x => !decide (x.1 ∈ ns)).map Prod.fst
        rw [drp_keys, drp_keys, hk0]
      (repeat walk_at "rd")
      refine rd_minD (.inr ⟨_, hB2, pkK_keys _⟩) ?_
      (repeat walk_at "rd")
      refine rd_putF hI2 (by exact Nat.le_of_ble_eq_true rfl) rfl ?_
      have w3 := w2.set 0 rfl (.ins T.C_Sender A.dx ((s'.fgt ns).fs A m))
      have hasc : ((s'.drp ns).bgn.map Prod.fst).Pairwise (· < ·) := by
        show ((s'.bgn.filter fun x => !decide (x.1 ∈ ns)).map Prod.fst).Pairwise (· < ·)
        rw [drp_keys]
        exact ok.asc.filter _
      rw [hk2, mnL_asc hasc]
      (repeat walk_at "rd")
      refine q (m.bp.filter fun x => !decide (x.1 ∈ ns)) _ w3 ⟨?_, sb.ba.filter _, sb.wl, sb.wa, sb.kl, sb.ka⟩
      show pkX (m.bp.filter _) = s'.bgn.filter _
      rw [← sb.be]
      unfold pkX
      rw [List.filter_map]
      rfl
end
/-- a short number that is read from low on -/
def SnS.rdN (s : SnS) (v : Int) : Int := s.low + (v - s.low) % 2 ^ s.bits.toNat
def toldR (f : Int → Int) (ms : List (Int × Int × Int)) (n : Int) : List (Int × Int) := (ms.filter fun y => decide (f y.1 = n)).map (·.2)
theorem toldR_snoc (f : Int → Int) (ms : List (Int × Int × Int)) (y : Int × Int × Int) (n : Int) : toldR f (ms ++ [y]) n = if f y.1 = n then toldR f ms n ++ [y.2] else toldR f ms n := by
  unfold toldR
  rw [List.filter_append, List.map_append]
  by_cases h : f y.1 = n
  · rw [if_pos h, List.filter_cons, decide_eq_true h]
    rfl
  · rw [if_neg h, List.filter_cons, decide_eq_false h]
    exact List.append_nil _
theorem toldR_none {f : Int → Int} {ms : List (Int × Int × Int)} {n : Int} (h : n ∉ ms.map fun y => f y.1) : toldR f ms n = [] := by
  unfold toldR
  have : (ms.filter fun y => decide (f y.1 = n)) = [] := List.filter_eq_nil_iff.mpr fun y hy e => h (List.mem_map.mpr ⟨y, hy, of_decide_eq_true e⟩)
  rw [this]
  rfl
def SnS.below (s : SnS) (stop : Int) : List Int := (s.bgn.map Prod.fst).filter fun n => decide (n < stop)
def SnS.asks (s : SnS) (ms : List (Int × Int × Int)) (ns : List Int) : List (Int × Int × Int) := ns.flatMap fun n => if n ∈ (ms.map fun y => s.rdN y.1) then (rowsF (toldF (toldR s.rdN ms n) ((sget s.snt n).getD 0).toNat)).map fun r => (n, r.1, r.2 + 1) else []
def SnS.conf (s : SnS) (stop : Int) (ms : List (Int × Int × Int)) : List Int := (s.below stop).filter fun n => !decide (n ∈ (ms.map fun y => s.rdN y.1))
def SnS.statS (s : SnS) (upto : Int) (ms : List (Int × Int × Int)) : SnS := { s.fgt (s.conf (s.rdN upto) ms) with akd := s.asks ms (s.below (s.rdN upto)), hd := true }
def SnS.statP (s : SnS) (upto : Int) (ms : List (Int × Int × Int)) : Option (List Int × SnS) := if s.nxt < s.rdN upto then none else some (s.conf (s.rdN upto) ms, s.statS upto ms)
/-- what is told of numbers: a dict of lists of pairs -/
abbrev TdE := List (Int × Addr × List Addr)
def tdK (E : TdE) : List (Key × V) := E.map fun (x : Int × Addr × List Addr) => (.inl x.1, .ref x.2.1)
def tdC (D : Addr) (E : TdE) : List (Addr × HO) := (D, .dK (tdK E)) :: E.map fun (x : Int × Addr × List Addr) => (x.2.1, .lst (x.2.2.map V.ref))
theorem td_val {E : TdE} {n : Int} {v : V} (h : valV (tdK E) (.inl n) = some v) : ∃ (j : Nat) (x : Int × Addr × List Addr), E[j]? = some x ∧ x.1 = n ∧ v = .ref x.2.1 := by
  induction E with
  | nil => cases h
  | cons y r ih =>
    unfold tdK at h
    rw [List.map_cons] at h
    by_cases e : y.1 = n
    · rw [valV_pos (congrArg Sum.inl e)] at h
      cases h
      exact ⟨0, y, rfl, e, rfl⟩
    · rw [valV_neg (fun z => e (Sum.inl.inj z))] at h
      obtain ⟨j, x, h1, h2⟩ := ih h
      exact ⟨j + 1, x, h1, h2⟩
theorem td_is (E : TdE) (n : Int) : (valV (tdK E) (.inl n)).isSome = decide (n ∈ E.map Prod.fst) := by
  induction E with
  | nil => rfl
  | cons y r ih =>
    unfold tdK
    rw [List.map_cons, List.map_cons]
    by_cases e : y.1 = n
    · rw [valV_pos (congrArg Sum.inl e), e]
      exact (decide_eq_true (.head _)).symm
    · rw [valV_neg (fun z => e (Sum.inl.inj z))]
      refine ih.trans ?_
      refine decide_eq_decide.mpr ⟨fun z => .tail _ z, fun z => ?_⟩
      rcases List.mem_cons.mp z with z | z
      · exact absurd z.symm e
      · exact z
structure TdOk (H0 H B : Hp) (D : Addr) (E : TdE) (ns : List Int) (f : Int → List (Int × Int)) : Prop where
  w : Own H0 H0 [] B (tdC D E) H
  nd : (E.map Prod.fst).Nodup
  k : ∀ n, n ∈ E.map Prod.fst ↔ n ∈ ns
  p : ∀ x ∈ E, PrsAt B x.2.2 (f x.1)
  t : ∀ x ∈ E, ∀ u ∈ x.2.2, H0 u = none
  l : E.length ≤ ns.length
theorem TdOk.cell {H0 H B : Hp} {D : Addr} {E : TdE} {ns : List Int} {f : Int → List (Int × Int)} (h : TdOk H0 H B D E ns f) {j : Nat} {x : Int × Addr × List Addr} (hj : E[j]? = some x) : H x.2.1 = some (.lst (x.2.2.map V.ref)) := by
  refine h.w.mem (List.mem_of_getElem? (i := j + 1) ?_)
  show (E.map fun (x : Int × Addr × List Addr) => (x.2.1, HO.lst (x.2.2.map V.ref)))[j]? = _
  rw [List.getElem?_map, hj]
  rfl
theorem PrsAt.stay {B H : Hp} {ps : List Addr} {r : List (Int × Int)} (h : PrsAt H ps r) (k : ∀ p ∈ ps, B p = H p) : PrsAt B ps r := by
  induction h with
  | nil => exact .nil
  | cons h _ ih => exact .cons ((k _ (.head _)).trans h) (ih fun p hp => k p (.tail _ hp))
theorem PrsAt.mem {H : Hp} {ps : List Addr} {r : List (Int × Int)} (h : PrsAt H ps r) {p : Addr} (hp : p ∈ ps) : ∃ xs, H p = some (.tup xs) := by
  induction h with
  | nil => cases hp
  | cons h _ ih =>
    rcases List.mem_cons.mp hp with e | z
    · rw [e]
      exact ⟨_, h⟩
    · exact ih z
/-- all of it, to be read by somebody else -/
structure TdAt (H : Hp) (D : Addr) (E : TdE) (ns : List Int) (f : Int → List (Int × Int)) : Prop where
  d : H D = some (.dK (tdK E))
  nd : (E.map Prod.fst).Nodup
  k : ∀ n, n ∈ E.map Prod.fst ↔ n ∈ ns
  p : ∀ x ∈ E, H x.2.1 = some (.lst (x.2.2.map V.ref)) ∧ PrsAt H x.2.2 (f x.1)
theorem TdAt.mono {H H' : Hp} {D : Addr} {E : TdE} {ns : List Int} {f : Int → List (Int × Int)} (h : TdAt H D E ns f) (s : Same H H') : TdAt H' D E ns f := ⟨s _ _ h.d, h.nd, h.k, fun x hx => ⟨s _ _ (h.p x hx).1, (h.p x hx).2.mono s⟩⟩
theorem TdOk.give {S B0 H0 H B B1 : Hp} {as : List Addr} {l : List (Addr × HO)} {D : Addr} {E : TdE} {ns : List Int} {f : Int → List (Int × Int)} (h : TdOk H0 H B D E ns f) (w : Own S B0 as B1 l H0) : ∃ B', Same B1 B' ∧ TdAt B' D E ns f ∧ Own S B0 as B' l H := by
  have hn : ∀ p ∈ D :: (E.map (fun (x : Int × Addr × List Addr) => x.2.1) ++ E.flatMap fun (x : Int × Addr × List Addr) => x.2.2), H0 p = none ∧ H p ≠ none := fun p hp => by
    have hc : ∀ {o : HO}, (p, o) ∈ tdC D E → H0 p = none ∧ H p ≠ none := fun {o} hm => ⟨(h.w.own p o hm).elim (fun z => nomatch z) id, by rw [h.w.mem hm]; exact fun z => nomatch z⟩
    rcases List.mem_cons.mp hp with e | hp
    · exact hc (o := .dK (tdK E)) (e ▸ .head _)
    rcases List.mem_append.mp hp with hp | hp
    · obtain ⟨x, hx, rfl⟩ := List.mem_map.mp hp
      exact hc (.tail _ (List.mem_map.mpr ⟨x, hx, rfl⟩))
    · obtain ⟨x, hx, hp⟩ := List.mem_flatMap.mp hp
      refine ⟨h.t x hx p hp, ?_⟩
      obtain ⟨xs, e⟩ := (h.p x hx).mem hp
      rw [h.w.imm _ _ e]
      exact fun z => nomatch z
  obtain ⟨B', sB, hB, w'⟩ := w.adopt h.w.same _ hn
  refine ⟨B', sB, ⟨(hB D (.head _)).trans (h.w.mem (.head _)), h.nd, h.k, fun x hx => ⟨?_, ?_⟩⟩, w'⟩
  · refine (hB _ (.tail _ (List.mem_append_left _ (List.mem_map.mpr ⟨x, hx, rfl⟩)))).trans ?_
    obtain ⟨j, hj⟩ := List.getElem?_of_mem hx
    exact h.cell hj
  · exact ((h.p x hx).mono h.w.imm).stay fun p hp => hB p (.tail _ (List.mem_append_right _ (List.mem_flatMap.mpr ⟨x, hx, hp⟩)))
/-- a new number with its first pair -/
theorem TdOk.new {H0 H B H2 H3 : Hp} {D : Addr} {E : TdE} {ms : List (Int × Int × Int)} {g : Int → Int} (h : TdOk H0 H B D E (ms.map fun y => g y.1) (toldR g ms)) {y : Int × Int × Int} {z t : Addr} (nz : H z = none) (s : Same H H2) (ez : H2 z = some (.lst []))
    (hn : g y.1 ∉ E.map Prod.fst) (nt : upd H2 D (.dK (tdK E ++ [(.inl (g y.1), .ref z)])) t = none) (st : Same (upd H2 D (.dK (tdK E ++ [(.inl (g y.1), .ref z)]))) H3) (et : H3 t = some (.tup [.int y.2.1, .int y.2.2])) :
    ∃ B' E', H3 z = some (.lst []) ∧ TdOk H0 (upd H3 z (.lst [.ref t])) B' D E' ((ms ++ [y]).map fun y => g y.1) (toldR g (ms ++ [y])) := by
  have w1 := h.w.add nz s ez
  have w2 := w1.set 1 rfl (.dK (tdK E ++ [(.inl (g y.1), .ref z)]))
  obtain ⟨B', sB, hB, _, w3⟩ := w2.ro nt st et
  have hz := w3.mem (p := z) (.head _)
  have w4 := w3.set 0 rfl (.lst [.ref t])
  refine ⟨B', E ++ [(g y.1, z, [t])], hz, ⟨?_, ?_, fun n => ?_, fun x hx => ?_, fun x hx u hu => ?_, ?_⟩⟩
  · refine w4.perm ?_
    unfold tdC tdK
    rw [List.map_append, List.map_append]
    show List.Perm (((D, _) :: (E.map _)) ++ [(z, HO.lst [V.ref t])]) ((z, _) :: (D, _) :: E.map _)
    exact List.perm_append_comm (l₂ := [(z, HO.lst [V.ref t])])
  · rw [List.map_append]
    refine List.nodup_append.mpr ⟨h.nd, List.nodup_cons.mpr ⟨fun z => (nomatch z), List.nodup_nil⟩, fun a ha b hb e => hn ?_⟩
    rw [List.mem_singleton.mp hb] at e
    have e : a = g y.1 := e
    rw [← e]
    exact ha
  · rw [List.map_append, List.map_append, List.mem_append, List.mem_append, h.k n]
    exact Iff.rfl
  · rcases List.mem_append.mp hx with hx | hx
    · have hne : ¬ g y.1 = x.1 := fun e => hn (e ▸ List.mem_map.mpr ⟨x, hx, rfl⟩)
      rw [toldR_snoc, if_neg hne]
      exact (h.p x hx).mono sB
    · rw [List.mem_singleton.mp hx]
      show PrsAt B' [t] (toldR g (ms ++ [y]) (g y.1))
      rw [toldR_snoc, if_pos rfl, toldR_none (fun z => hn ((h.k _).mpr z))]
      exact .cons hB .nil
  · rcases List.mem_append.mp hx with hx | hx
    · exact h.t x hx u hu
    · rw [List.mem_singleton.mp hx] at hu
      rw [List.mem_singleton.mp hu]
      exact (w2.frS nt).1
  · have := h.l
    rw [List.length_map] at this ⊢
    rw [List.length_append, List.length_append, List.length_singleton, List.length_singleton]
    omega
/-- one more pair of a number that is there -/
theorem TdOk.more {H0 H B H2 H3 : Hp} {D : Addr} {E : TdE} {ms : List (Int × Int × Int)} {g : Int → Int} (h : TdOk H0 H B D E (ms.map fun y => g y.1) (toldR g ms)) {y : Int × Int × Int} {t : Addr} {j : Nat} {x : Int × Addr × List Addr} (hj : E[j]? = some x) (hx1 : x.1 = g y.1) (s : Same H H2)
    (nt : H2 t = none) (st : Same H2 H3) (et : H3 t = some (.tup [.int y.2.1, .int y.2.2])) :
    H3 x.2.1 = some (.lst (x.2.2.map V.ref)) ∧ ∃ B' E', TdOk H0 (upd H3 x.2.1 (.lst (x.2.2.map V.ref ++ [.ref t]))) B' D E' ((ms ++ [y]).map fun y => g y.1) (toldR g (ms ++ [y])) := by
  obtain ⟨B', sB, hB, _, w3⟩ := (h.w.more s).ro nt st et
  have hi : (tdC D E)[j + 1]? = some (x.2.1, .lst (x.2.2.map V.ref)) := by
    show (E.map fun (x : Int × Addr × List Addr) => (x.2.1, HO.lst (x.2.2.map V.ref)))[j]? = _
    rw [List.getElem?_map, hj]
    rfl
  have hm := w3.mem (List.mem_of_getElem? hi)
  have w4 := w3.set (j + 1) hi (.lst (x.2.2.map V.ref ++ [.ref t]))
  refine ⟨hm, B', E.set j (x.1, x.2.1, x.2.2 ++ [t]), ?_⟩
  have ek : (E.set j (x.1, x.2.1, x.2.2 ++ [t])).map Prod.fst = E.map Prod.fst := by
    rw [List.map_set]
    refine List.ext_getElem? fun i => ?_
    rw [List.getElem?_set]
    split
    · rename_i e
      subst e
      rw [List.getElem?_map, hj, if_pos (by rw [List.length_map]; exact (List.getElem?_eq_some_iff.mp hj).1)]
      rfl
    · rfl
  have hin : ∀ u ∈ E.set j (x.1, x.2.1, x.2.2 ++ [t]), (u = (x.1, x.2.1, x.2.2 ++ [t])) ∨ (u ∈ E ∧ u.1 ≠ x.1) := fun u hu => by
    obtain ⟨i, hi2⟩ := List.getElem?_of_mem hu
    rw [List.getElem?_set] at hi2
    split at hi2
    · split at hi2
      · cases hi2
        exact .inl rfl
      · cases hi2
    · rename_i hne
      refine .inr ⟨List.mem_of_getElem? hi2, fun e => hne ?_⟩
      have h1 : (E.map Prod.fst)[i]? = some x.1 := by rw [List.getElem?_map, hi2, ← e]; rfl
      have h2 : (E.map Prod.fst)[j]? = some x.1 := by rw [List.getElem?_map, hj]; rfl
      have hjl := (List.getElem?_eq_some_iff.mp h2).1
      exact (List.getElem?_inj hjl h.nd).mp (h2.trans h1.symm)
  refine ⟨?_, by rw [ek]; exact h.nd, fun n => ?_, fun u hu => ?_, fun u hu a ha => ?_, ?_⟩
  · have e1 : tdC D (E.set j (x.1, x.2.1, x.2.2 ++ [t])) = (tdC D E).set (j + 1) (x.2.1, .lst (x.2.2.map V.ref ++ [.ref t])) := by
      unfold tdC
      rw [List.set_cons_succ, List.map_set]
      have ek2 : tdK (E.set j (x.1, x.2.1, x.2.2 ++ [t])) = tdK E := by
        unfold tdK
        rw [List.map_set]
        refine List.ext_getElem? fun i => ?_
        rw [List.getElem?_set]
        split
        · rename_i e
          subst e
          rw [List.getElem?_map, hj, if_pos (by rw [List.length_map]; exact (List.getElem?_eq_some_iff.mp hj).1)]
          rfl
        · rfl
      rw [ek2]
      dsimp only
      rw [List.map_append]
      rfl
    rw [e1]
    exact w4
  · rw [ek, List.map_append, List.mem_append, h.k n]
    refine ⟨fun z => .inl z, fun z => z.elim id fun z => ?_⟩
    rw [List.mem_singleton.mp z]
    refine (h.k _).mp ?_
    show g y.1 ∈ _
    rw [← hx1]
    exact List.mem_map.mpr ⟨x, List.mem_of_getElem? hj, rfl⟩
  · rcases hin u hu with rfl | ⟨h1, h2⟩
    · show PrsAt B' (x.2.2 ++ [t]) (toldR g (ms ++ [y]) x.1)
      rw [toldR_snoc, if_pos hx1.symm]
      exact ((h.p x (List.mem_of_getElem? hj)).mono sB).snoc hB
    · rw [toldR_snoc, if_neg (fun e => h2 (e.symm.trans hx1.symm))]
      exact (h.p u h1).mono sB
  · rcases hin u hu with rfl | ⟨h1, h2⟩
    · have ha : a ∈ x.2.2 ++ [t] := ha
      rcases List.mem_append.mp ha with ha | ha
      · exact h.t x (List.mem_of_getElem? hj) a ha
      · rw [List.mem_singleton.mp ha]
        exact ((h.w.more s).frS nt).1
    · exact h.t u h1 a ha
  · have := h.l
    rw [List.length_map] at this ⊢
    rw [List.length_set, List.length_append]
    omega
theorem asc_self {l ys : List Int} (h : l.Pairwise (· < ·)) (hp : ys.Perm l) (ho : ys.Pairwise (· ≤ ·)) : ys = l :=
  List.Perm.eq_of_pairwise (le := fun a b => a ≤ b) (fun a b _ _ h1 h2 => by omega) ho (h.imp fun z => Int.le_of_lt z) hp
theorem sget_drp {α : Type} (l : List (Int × α)) {ns : List Int} {n : Int} (h : n ∉ ns) : sget (l.filter fun x => !decide (x.1 ∈ ns)) n = sget l n := by
  induction l with
  | nil => rfl
  | cons x r ih =>
    rw [List.filter_cons, sget_cons]
    by_cases hx : x.1 = n
    · rw [if_pos hx, hx, decide_eq_false h]
      show sget (x :: _) n = _
      rw [sget_cons, if_pos hx]
    · rw [if_neg hx]
      split
      · rw [sget_cons, if_neg hx]
        exact ih
      · exact ih
theorem SnS.asks_snoc (s : SnS) (ms : List (Int × Int × Int)) (ns : List Int) (n : Int) : s.asks ms (ns ++ [n]) = s.asks ms ns ++ if n ∈ (ms.map fun y => s.rdN y.1) then (rowsF (toldF (toldR s.rdN ms n) ((sget s.snt n).getD 0).toNat)).map fun r => (n, r.1, r.2 + 1) else [] := by
  unfold SnS.asks
  rw [List.flatMap_append, List.flatMap_cons, List.flatMap_nil, List.append_nil]
theorem SnOk.snt_at {s : SnS} (h : SnOk s) {n : Int} (hn : n ∈ s.bgn.map Prod.fst) : ∃ v pk, sget s.snt n = some v ∧ sget s.bgn n = some pk ∧ (1 ≤ v ∧ v ≤ (pk.length : Int)) ∧ PkIn pk := by
  obtain ⟨pk, hpk⟩ := sget_some hn
  obtain ⟨v, hv⟩ := sget_keys h.ks hpk
  exact ⟨v, pk, hv, hpk, h.sr _ _ _ hv hpk, h.bp _ (sget_in hpk)⟩
theorem rowsF_len (fl : List Bool) : (rowsF fl).length ≤ fl.length := by
  have := rowsG_len fl [] 0
  unfold rowsF
  have e0 : ([] : List (Int × Int)).length = 0 := rfl
  omega
theorem SnOk.asks_len {s : SnS} (h : SnOk s) (ms : List (Int × Int × Int)) : ∀ ns : List Int, (∀ n ∈ ns, n ∈ s.bgn.map Prod.fst) → (s.asks ms ns).length ≤ 200 * ns.length := by
  intro ns
  induction ns with
  | nil => exact fun _ => Nat.le_refl _
  | cons n r ih =>
    intro hn
    have h1 := ih fun x hx => hn x (.tail _ hx)
    obtain ⟨v, pk, hv, hpk, hr, hin⟩ := h.snt_at (hn n (.head _))
    have h2 := hin.l2
    unfold SnS.asks at h1 ⊢
    rw [List.flatMap_cons, List.length_append, List.length_cons]
    split
    · rw [List.length_map]
      have h3 := rowsF_len (toldF (toldR s.rdN ms n) ((sget s.snt n).getD 0).toNat)
      rw [toldF_len, hv, Option.getD_some] at h3
      rw [hv, Option.getD_some]
      omega
    · rw [List.length_nil]
      omega
section
variable {P : Program} {w : World} {K : PySem.W.Frag} {mg : Str → Option Value} {base : Heap}
def sp_Sender_take_status (K : PySem.W.Frag) (C : Addr) : Sp := fun vs H Q _ => ∃ (A : SnA) (m : SnM) (s : SnS) (upto : Int) (ma : Addr) (ms : List (Int × Int × Int)) (B : Hp), vs = [.ref A.p, .int upto, .ref ma] ∧ Cells H B (scells C A m s) ∧ SnB B m s ∧ SnOk s ∧ RowsAt H ma ms ∧ (∀ x ∈ ms, (-1000000 ≤ x.2.1 ∧ x.2.1 ≤ 1000000) ∧ (-1000000 ≤ x.2.2 ∧ x.2.2 ≤ 1000000)) ∧ ms.length ≤ 1000 ∧
  (s.statP upto ms = none → ∀ H', Same H H' → Q .non H') ∧
  (∀ ns s2, s.statP upto ms = some (ns, s2) → ∀ (B' : Hp) (m' : SnM) (a : Addr) (H' : Hp), Own H B (sas A m) B' (scells C A m' s2) H' → SnB B' m' s2 → H a = none → B' a = some (.lst (ns.map V.int)) → Q (.ref a) H')
@[irreducible] def ip_Sender_take_status (K : PySem.W.Frag) (C : Addr) : Sp := sp_Sender_take_status K C
theorem op_Sender_take_status {K : PySem.W.Frag} {C : Addr} {vs : List V} {H : Hp} {Q : VK} {E : XK} (h : sp_Sender_take_status K C vs H Q E) : ip_Sender_take_status K C vs H Q E := by
  unfold ip_Sender_take_status
  exact h
theorem un_Sender_take_status {K : PySem.W.Frag} {C : Addr} {vs : List V} {H : Hp} {Q : VK} {E : XK} (h : ip_Sender_take_status K C vs H Q E) : sp_Sender_take_status K C vs H Q E := by
  unfold ip_Sender_take_status at h
  exact h
theorem ok_Sender_take_status (T : Tx P w K mg base) : FnOk P w K mg base CX0 4 T.a_Sender_take_status T.d_Sender_take_status ["self", "upto", "missing"] (ip_Sender_take_status K T.C_Sender) := by
  have G_read_short := ok_read_short T
  have G_Sender__forget := ok_Sender__forget T
  have G_Sender__ask := ok_Sender__ask T
  refine T.p_Sender_take_status.F.ok sc_Sender_take_status (fun vs H Q E h => ?_) (fun cdv A outer s H vs Q E hr h => ?_)
  · obtain ⟨A, m, s', upto, ma, ms, B, rfl, c, sb, ok, hm, hb, hlen, q1, q2⟩ := un_Sender_take_status h
    rfl
  · obtain ⟨A, m, s', upto, ma, ms, B, rfl, c, sb, ok, hm, hb, hlen, q1, q2⟩ := un_Sender_take_status h
    refine ⟨_, (pss_cons (ps_set (i := 3) sc_Sender_take_status.nd rfl (Or.inr rfl) (pe_call G_read_short (hr.mono (by decide)) rfl T.p_read_short.m T.p_read_short.F.kp T.p_read_short.b .nil pass0 (pa_cons (pv 1) (pa_cons (pe_fldM (pv 0) T.k_Sender.cl T.f_Sender_low) (pa_cons pe_int (pa_cons (pe_fldM (pv 0) T.k_Sender.cl T.f_Sender_bits) pa_nil)))))) (pss_cons (ps_ifM (pt_cmpR op_gtM (pv 3) (pe_fldM (pv 0) T.k_Sender.cl T.f_Sender_next) (nomark _)) (pss_one (ps_ret pe_non)) pss_nil) (pss_cons (ps_set (i := 4) sc_Sender_take_status.nd rfl (Or.inr rfl) pe_dnewK) (pss_cons (ps_forG PassesOwn.never rfl (pv 2) (pg_tup rfl (pgs_cons (pg_name (i := 5) sc_Sender_take_status.nd rfl (Or.inl rfl)) (pgs_cons (pg_name (i := 6) sc_Sender_take_status.nd rfl (Or.inl rfl)) (pgs_cons (pg_name (i := 7) sc_Sender_take_status.nd rfl (Or.inl rfl)) pgs_nil)))) (pss_cons (ps_set (i := 8) sc_Sender_take_status.nd rfl (Or.inl rfl) (pe_call G_read_short (hr.mono (by decide)) rfl T.p_read_short.m T.p_read_short.F.kp T.p_read_short.b .nil pass0 (pa_cons (pv 5) (pa_cons (pe_fldM (pv 0) T.k_Sender.cl T.f_Sender_low) (pa_cons pe_int (pa_cons (pe_fldM (pv 0) T.k_Sender.cl T.f_Sender_bits) pa_nil)))))) (pss_one (ps_expr (pe_app (pe_dsetdM (pv 4) (pv 8) (pe_lstM pa_nil)) (pe_tupM (pa_cons (pv 6) (pa_cons (pv 7) pa_nil)))))))) (pss_cons (ps_setLcW (i := 9) (own := [("number", 8)]) (g := (gName 8)) [8] im_list rfl sc_Sender_take_status.nd rfl rfl (sw_true rfl rfl rfl (by decide +kernel)) (pi_list (pe_c (pe_callB (call_sortDBM rfl) (by rfl) T.n_sorted (by decide +kernel) (pa_cons (pe_fldM (pv 0) T.k_Sender.cl T.f_Sender__begun) pa_nil)))) (blkOk_by (own := [("number", 8)]) (N := ["self", "upto", "missing", "stop", "told", "short_number", "first", "last", "number", "below", "confirmed"]) (sc := defScope S_Sender_take_status) (by decide +kernel)) (fun _ _ _ _ _ => (pg_name (i := 8) sc_Sender_take_status.nd rfl (Or.inl rfl))) (fun _ _ _ _ _ => (pts_one (pt_cmpR op_ltM (pv 8) (pv 3) (nomark _)))) (fun _ _ _ _ _ => (pv 8))) (pss_cons (ps_setLcW (i := 10) (own := [("number", 8)]) (g := (gName 8)) [8] im_list rfl sc_Sender_take_status.nd rfl rfl (sw_true rfl rfl rfl (by decide +kernel)) (pi_list (pe_c (pv 9))) (blkOk_by (own := [("number", 8)]) (N := ["self", "upto", "missing", "stop", "told", "short_number", "first", "last", "number", "below", "confirmed"]) (sc := defScope S_Sender_take_status) (by decide +kernel)) (fun _ _ _ _ _ => (pg_name (i := 8) sc_Sender_take_status.nd rfl (Or.inl rfl))) (fun _ _ _ _ _ => (pts_one (pt_cmp (pc_dnotinM (hu_of hr) (pv 8) (pv 4))))) (fun _ _ _ _ _ => (pv 8))) (pss_cons (ps_expr (meth_weak (pe_meth (pe_c (pv 0)) T.k_Sender.cl T.p_Sender__forget.me G_Sender__forget (hr.mono (by decide)) T.p_Sender__forget.b .nil pass0 (pa_cons (pv 10) pa_nil)))) (pss_cons (ps_fldM (pv 0) (pe_lstM pa_nil) T.k_Sender.cl T.f_Sender__asked) (pss_cons (ps_forL PassesOwn.never rfl (pv 9) (pg_name (i := 8) sc_Sender_take_status.nd rfl (Or.inl rfl)) (pss_one (ps_ifM (pt_cmp (pc_dinM (hu_of hr) (pv 8) (pv 4))) (pss_one (ps_expr (meth_weak (pe_meth (pe_c (pv 0)) T.k_Sender.cl T.p_Sender__ask.me G_Sender__ask (hr.mono (by decide)) T.p_Sender__ask.b .nil pass0 (pa_cons (pv 8) (pa_cons (pe_dgetM (hu_of hr) (pv 4) (pv 8)) pa_nil)))))) pss_nil))) (pss_cons (ps_fldM (pv 0) pe_bl T.k_Sender.cl T.f_Sender__has_heard) (pss_one (ps_ret (pv 10))))))))))))), ?_⟩
    have w0 : Own H B (sas A m) B (scells T.C_Sender A m s') H := c.start
    have hI := w0.mem (p := A.p) (.head _)
    have hbt := ok.bt
    (repeat walk_at "rd")
    refine op_read_short ⟨_, _, _, _, rfl, by omega, by omega, ?_⟩
    rw [Int.sub_zero]
    have er : ∀ v, s'.low + (v - s'.low) % 2 ^ s'.bits.toNat = s'.rdN v := fun v => rfl
    rw [er]
    (repeat walk_at "rd")
    unfold SnS.statP at q1 q2
    refine br_by (fun h => ?_) (fun h => ?_)
    · (repeat walk_at "rd")
      exact q1 (if_pos (by omega)) H (Same.refl _)
    rw [if_neg (by omega)] at q2
    clear q1
    (repeat walk_at "rd")
    intro D nD
    obtain ⟨ps, hma, hpl, hpt⟩ := hm.ex
    have t0 : TdOk H (upd H D (.dK [])) H D [] (([] : List (Int × Int × Int)).map fun y => s'.rdN y.1) (toldR s'.rdN []) := ⟨Own.mk0.add nD (same_upd nD) upd_same, List.nodup_nil, fun n => Iff.rfl, fun x hx => (nomatch hx), fun x hx => (nomatch hx), Nat.le_refl _⟩
    (repeat walk_at "rd")
    refine rd_forG ?_
    (repeat walk_at "rd")
    refine ⟨ma, ps.map V.ref, fun i σ H' => Stop (∃ (B2 : Hp) (E : TdE) (x1 x2 x3 x4 : Option V), TdOk H H' B2 D E ((ms.take i).map fun y => s'.rdN y.1) (toldR s'.rdN (ms.take i)) ∧ σ = [some (.ref A.p), some (.int upto), some (.ref ma), some (.int (s'.rdN upto)), some (.ref D), x1, x2, x3, x4, none, none]), rfl, (same_upd nD).seq (sq_of hma), .a ⟨_, [], _, _, _, _, t0, rfl⟩, fun i σ' H' hi w => ?_, fun i y σ' H' hi w => ?_, fun σ' H' w => ?_⟩
    · obtain ⟨B2, E, x1, x2, x3, x4, w2, rfl⟩ := w.un
      exact w2.w.same.seq (sq_of hma)
    · obtain ⟨B2, E, x1, x2, x3, x4, w2, rfl⟩ := w.un
      rw [List.getElem?_map] at hi
      obtain ⟨pa, hpa, rfl⟩ := Option.map_eq_some_iff.mp hi
      have hil := (List.getElem?_eq_some_iff.mp hpa).1
      have hmi : ms[i]? = some ms[i] := List.getElem?_eq_getElem (by omega)
      have ht := w2.w.same _ _ (hpt i pa ms[i] hpa hmi)
      have hI2 := w2.w.same _ _ hI
      generalize ms[i] = y at *
      have hD2 := w2.w.mem (p := D) (.head _)
      have hEl : E.length ≤ 1000 := by
        have := w2.l
        rw [List.length_map, List.length_take] at this
        omega
      refine ⟨pa, _, rfl, st_of ht, rfl, ?_⟩
      refine ⟨_, _, rfl, ?_⟩
      refine ⟨_, _, rfl, ?_⟩
      refine ⟨_, _, rfl, ?_⟩
      (repeat walk_at "rd")
      refine op_read_short ⟨_, _, _, _, rfl, by omega, by omega, ?_⟩
      rw [Int.sub_zero]
      rw [er]
      (repeat walk_at "rd")
      intro z H2 n2 s2 e2
      (repeat walk_at "rd")
      refine rd_dsetd (s2 _ _ hD2) (by unfold tdK; rw [List.length_map]; omega) (fun v hv => ?_) (fun hv => ?_)
      · obtain ⟨j, x, hj, hx1, rfl⟩ := td_val hv
        refine ⟨_, _, rfl, s2 _ _ (w2.cell hj), ?_⟩
        (repeat walk_at "rd")
        intro t H3 n3 s3 e3
        obtain ⟨hm3, B3, E3, w3⟩ := w2.more hj hx1 s2 n3 s3 e3
        have hxl : x.2.2.length ≤ 1000 := by
          rw [(w2.p x (List.mem_of_getElem? hj)).len]
          unfold toldR
          rw [List.length_map]
          refine Nat.le_trans (List.length_filter_le ..) ?_
          rw [List.length_take]
          omega
        refine rd_app hm3 (by rw [List.length_map]; omega) ?_
        refine .a ⟨B3, E3, _, _, _, _, ?_, rfl⟩
        rw [take_snoc hmi]
        exact w3
      · rw [putK_new _ hv]
        have hzD : z ≠ D := fun e => by
          rw [e, hD2] at n2
          cases n2
        refine ⟨z, [], rfl, (upd_ne hzD).trans e2, ?_⟩
        (repeat walk_at "rd")
        intro t H3 n3 s3 e3
        have hnin : s'.rdN y.1 ∉ E.map Prod.fst := fun z => by
          have := td_is E (s'.rdN y.1)
          rw [hv, decide_eq_true z] at this
          cases this
        obtain ⟨B3, E3, hz3, w3⟩ := w2.new n2 s2 e2 hnin n3 s3 e3
        refine rd_app hz3 (by decide) ?_
        refine .a ⟨B3, E3, _, _, _, _, ?_, rfl⟩
        rw [take_snoc hmi]
        exact w3
    · obtain ⟨B2, E, x1, x2, x3, x4, w2, rfl⟩ := w.un
      rw [List.length_map, hpl, List.take_length] at w2
      obtain ⟨B1, sB1, td, w1⟩ := w2.give w0
      have sb1 := sb.mono sB1
      have hI1 := w1.mem (p := A.p) (.head _)
      have hB1 := w1.mem (p := A.bg) (.tail _ (.head _))
      have hk0 : m.bp.map Prod.fst = s'.bgn.map Prod.fst := by rw [← sb.be, pkX_keys]
      (repeat walk_at "rd")
      refine rd_lcW ?_
      (repeat walk_at "rd")
      refine rd_sortDB hB1 (pkK_keys _) (fun ys hp ho => ?_)
      rw [hk0] at hp
      have := asc_self ok.asc hp ho
      subst this
      have hkl : (s'.bgn.map Prod.fst).length ≤ 32 := by
        rw [List.length_map]
        exact ok.len
      intro r1 H3 n3 s3 e3
      have hnb : ∀ (stop : Int), s'.below stop = (s'.bgn.map Prod.fst).filter fun n => decide (n < stop) := fun _ => rfl
      (repeat walk_at "rd")
      refine ⟨⟨_, sq_of e3⟩, ?_⟩
      refine wl_filtI (s'.bgn.map Prod.fst) (fun n => decide (n < s'.rdN upto)) (sq_of e3) (by omega) (fun n hn H4 R s4 k => ?_) (fun n hn H4 R k => ?_) ?_
      · (repeat walk_at "rd")
        exact k H4 (Same.refl _)
      · (repeat walk_at "rd")
        exact k
      intro r2 H4 n4 s4 e4
      rw [← hnb] at e4
      have hbl : (s'.below (s'.rdN upto)).length ≤ 32 := by
        rw [hnb]
        exact Nat.le_trans (List.length_filter_le ..) hkl
      have hcf : (s'.below (s'.rdN upto)).filter (fun n => !decide (n ∈ (ms.map fun y => s'.rdN y.1))) = s'.conf (s'.rdN upto) ms := rfl
      obtain ⟨B4, sB4, hB4, _, w4⟩ := (w1.more s3).ro n4 s4 e4
      have hD4 := w4.imm _ _ (sB4 _ _ td.d)
      (repeat walk_at "rd")
      refine rd_lcW ?_
      (repeat walk_at "rd")
      refine ⟨⟨_, sq_of e4⟩, ?_⟩
      refine wl_filtI (s'.below (s'.rdN upto)) (fun n => !decide (n ∈ (ms.map fun y => s'.rdN y.1))) (sq_of e4) (by omega) (fun n hn H5 R s5 k => ?_) (fun n hn H5 R k => ?_) ?_
      · have hD5 := s5 _ _ hD4
        (repeat walk_at "rd")
        rw [td_is, show decide (n ∈ E.map Prod.fst) = decide (n ∈ (ms.map fun y => s'.rdN y.1)) from decide_eq_decide.mpr (td.k n)]
        exact k H5 (Same.refl _)
      · (repeat walk_at "rd")
        exact k
      rw [hcf]
      intro r3 H5 n5 s5 e5
      obtain ⟨B5, sB5, hB5, _, w5⟩ := w4.ro n5 s5 e5
      have sb5 := sb1.mono (sB4.trans sB5)
      have hcin : ∀ n ∈ s'.conf (s'.rdN upto) ms, n ∈ s'.bgn.map Prod.fst := fun n hn => (List.mem_filter.mp (List.mem_filter.mp hn).1).1
      have hcnd : (s'.conf (s'.rdN upto) ms).Nodup := (((ok.asc.imp fun z => Int.ne_of_lt z).filter _).filter _)
      have hI5 := w5.mem (p := A.p) (.head _)
      (repeat walk_at "rd")
      refine op_Sender__forget ⟨A, m, s', r3, _, B5, rfl, w5.c, sb5, ok, sq_of hB5, hcnd, hcin, fun pk H6 w6' sb6 => ?_⟩
      have w6 := w5.call0 w6'
      have hI6 := w6.mem (p := A.p) (.head _)
      (repeat walk_at "rd")
      intro ak H7 n7 s7 e7
      have w7 := w6.add n7 s7 e7
      have hI7 := w7.mem (p := A.p) (.tail _ (.head _))
      (repeat walk_at "rd")
      refine rd_putF hI7 (by exact Nat.le_of_ble_eq_true rfl) rfl ?_
      have w8 := (w7.set 1 rfl (.ins T.C_Sender A.dx (({ s'.fgt (s'.conf (s'.rdN upto) ms) with akd := [] } : SnS).fs A { m with bp := pk, ak := ak }))).pick [1, 2, 3, 4, 0] [5]
      have w9 : Own H B (sas A m) B5 (scells T.C_Sender A { m with bp := pk, ak := ak, kA := [] } { s'.fgt (s'.conf (s'.rdN upto) ms) with akd := [] }) _ := w8
      have sb9 : SnB B5 { m with bp := pk, ak := ak, kA := [] } { s'.fgt (s'.conf (s'.rdN upto) ms) with akd := [] } := sb6.asks rfl fun i a x h1 _ => (nomatch h1)
      clear w8 w7 w6 w6' hI7 hI6
      refine rd_forL ?_
      (repeat walk_at "rd")
      have hsk : ∀ (k : List (Int × Int × Int)), ({ s'.fgt (s'.conf (s'.rdN upto) ms) with akd := k } : SnS).snt = s'.snt.filter fun x => !decide (x.1 ∈ s'.conf (s'.rdN upto) ms) := fun _ => rfl
      have hbin : ∀ n ∈ s'.below (s'.rdN upto), n ∈ s'.bgn.map Prod.fst := fun n hn => (List.mem_filter.mp hn).1
      refine ⟨r2, (s'.below (s'.rdN upto)).map V.int, fun i σ H' => Stop (∃ (B6 : Hp) (kA : List Addr) (x8 : Option V), Own H B (sas A m) B6 (scells T.C_Sender A { m with bp := pk, ak := ak, kA := kA } { s'.fgt (s'.conf (s'.rdN upto) ms) with akd := s'.asks ms ((s'.below (s'.rdN upto)).take i) }) H' ∧ Same B5 B6 ∧ SnB B6 { m with bp := pk, ak := ak, kA := kA } { s'.fgt (s'.conf (s'.rdN upto) ms) with akd := s'.asks ms ((s'.below (s'.rdN upto)).take i) } ∧ σ = [some (.ref A.p), some (.int upto), some (.ref ma), some (.int (s'.rdN upto)), some (.ref D), x1, x2, x3, x8, some (.ref r2), some (.ref r3)]), rfl, w9.imm.seq (sB5.seq (sq_of hB4)), .a ⟨B5, [], _, w9, Same.refl _, sb9, rfl⟩, fun i σ' H' hi w => ?_, fun i y σ' H' hi w => ?_, fun σ' H' w => ?_⟩
      · obtain ⟨B6, kA, x8, w10, sB6, _, _⟩ := w.un
        exact (sB6.trans w10.imm).seq (sB5.seq (sq_of hB4))
      · obtain ⟨B6, kA, x8, w10, sB6, sb10, rfl⟩ := w.un
        rw [List.getElem?_map] at hi
        obtain ⟨n, hn, rfl⟩ := Option.map_eq_some_iff.mp hi
        have hnm := List.mem_of_getElem? hn
        have hnb2 := hbin n hnm
        obtain ⟨v, pk2, hv, hpk2, hvr, hin2⟩ := ok.snt_at hnb2
        have hl200 := hin2.l2
        have td6 := td.mono (((sB4.trans sB5).trans sB6).trans w10.imm)
        have hD6 := td6.d
        have hI10 := w10.mem (p := A.p) (.head _)
        have hsn := s'.asks_snoc ms ((s'.below (s'.rdN upto)).take i) n
        (repeat walk_at "rd")
        rw [td_is, show decide (n ∈ E.map Prod.fst) = decide (n ∈ (ms.map fun y => s'.rdN y.1)) from decide_eq_decide.mpr (td.k n)]
        refine br_by (fun hin => ?_) (fun hin => ?_)
        · have hnc : n ∉ s'.conf (s'.rdN upto) ms := fun z => by
            have := (List.mem_filter.mp z).2
            rw [decide_eq_true hin] at this
            cases this
          have hvs : (valV (tdK E) (.inl n)).isSome = true := by
            rw [td_is]
            exact decide_eq_true ((td.k n).mpr hin)
          obtain ⟨u, hu⟩ := Option.isSome_iff_exists.mp hvs
          obtain ⟨j, x, hj, hx1, rfl⟩ := td_val hu
          obtain ⟨hx2, hx3⟩ := td6.p x (List.mem_of_getElem? hj)
          rw [hx1] at hx3
          (repeat walk_at "rd")
          refine rd_dget hD6 hu ?_
          (repeat walk_at "rd")
          refine op_Sender__ask ⟨A, _, _, n, x.2.1, x.2.2, toldR s'.rdN ms n, v, B6, rfl, w10.c, sb10, ?_, by omega, sq_of hx2, hx3, fun z hz => ?_, ?_, fun B7 us H7 w11' sb11 => ?_⟩
          · rw [hsk, sget_drp _ hnc]
            exact hv
          · obtain ⟨y, hy, rfl⟩ := List.mem_map.mp hz
            exact hb y (List.mem_filter.mp hy).1
          · have h1 := ok.asks_len ms ((s'.below (s'.rdN upto)).take i) fun a ha => hbin a (List.mem_of_mem_take ha)
            rw [List.length_take] at h1
            show (s'.asks ms _).length ≤ _
            omega
          · have w11 := w10.call0 w11'
            rw [if_pos hin, hv, Option.getD_some] at hsn
            refine .a ⟨B7, kA ++ us, _, ?_, sB6.trans w11'.grow, ?_, rfl⟩
            · rw [take_snoc hn, hsn]
              exact w11
            · rw [take_snoc hn, hsn]
              exact sb11
        · rw [if_neg hin, List.append_nil] at hsn
          refine .a ⟨B6, kA, _, ?_, sB6, ?_, rfl⟩
          · rw [take_snoc hn, hsn]
            exact w10
          · rw [take_snoc hn, hsn]
            exact sb10
      · obtain ⟨B6, kA, x8, w10, sB6, sb10, rfl⟩ := w.un
        rw [List.length_map, List.take_length] at w10 sb10
        have hI10 := w10.mem (p := A.p) (.head _)
        (repeat walk_at "rd")
        refine rd_putF hI10 (by exact Nat.le_of_ble_eq_true rfl) rfl ?_
        have w11 := w10.set 0 rfl (.ins T.C_Sender A.dx ((s'.statS upto ms).fs A { m with bp := pk, ak := ak, kA := kA }))
        (repeat walk_at "rd")
        exact q2 _ _ rfl B6 { m with bp := pk, ak := ak, kA := kA } r3 _ w11 ⟨sb10.be, sb10.ba, sb10.wl, sb10.wa, sb10.kl, sb10.ka⟩ (w4.frS n5).1 (sB6 _ _ hB5)
    theorem rowStep_in {r : List (Int × Int)} {k : Int} {f : Bool} (h0 : 0 ≤ k) (h : ∀ x ∈ r, 0 ≤ x.1 ∧ x.1 ≤ x.2 ∧ x.2 < k) : ∀ x ∈ rowStep r k f, 0 ≤ x.1 ∧ x.1 ≤ x.2 ∧ x.2 < k + 1 := by
      have up : ∀ x ∈ r, 0 ≤ x.1 ∧ x.1 ≤ x.2 ∧ x.2 < k + 1 := fun x hx => by
        have := h x hx
        omega
      intro x hx
      unfold rowStep at hx
      split at hx
      · split at hx
        · rename_i z hz
          split at hx
          · rcases List.mem_append.mp hx with hx | hx
            · exact up x ((List.dropLast_sublist r).subset hx)
            · rw [List.mem_singleton.mp hx]
              have := h z (List.mem_of_getLast? hz)
              show 0 ≤ z.1 ∧ z.1 ≤ k ∧ k < k + 1
              omega
          · rcases List.mem_append.mp hx with hx | hx
            · exact up x hx
            · rw [List.mem_singleton.mp hx]
              show 0 ≤ k ∧ k ≤ k ∧ k < k + 1
              omega
        · rcases List.mem_append.mp hx with hx | hx
          · exact up x hx
          · rw [List.mem_singleton.mp hx]
            show 0 ≤ k ∧ k ≤ k ∧ k < k + 1
            omega
      · exact up x hx
    theorem rowsG_in : ∀ (fl : List Bool) (r : List (Int × Int)) (k : Int), 0 ≤ k → (∀ x ∈ r, 0 ≤ x.1 ∧ x.1 ≤ x.2 ∧ x.2 < k) → ∀ x ∈ rowsG r k fl, 0 ≤ x.1 ∧ x.1 ≤ x.2 ∧ x.2 < k + fl.length
      | [], r, k, _, h => fun x hx => by
        have := h x hx
        show 0 ≤ x.1 ∧ x.1 ≤ x.2 ∧ x.2 < k + ((0 : Nat) : Int)
        omega
      | f :: t, r, k, h0, h => fun x hx => by
        have := rowsG_in t (rowStep r k f) (k + 1) (by omega) (rowStep_in h0 h) x hx
        rw [List.length_cons]
        omega
    theorem rowsF_in (fl : List Bool) : ∀ x ∈ rowsF fl, 0 ≤ x.1 ∧ x.1 ≤ x.2 ∧ x.2 < (fl.length : Int) := fun x hx => by
      have := rowsG_in fl [] 0 (Int.le_refl _) (fun y hy => (nomatch hy)) x hx
      omega
    theorem sget_drp_some {α : Type} {l : List (Int × α)} {ns : List Int} {n : Int} {v : α} (h : sget (l.filter fun x => !decide (x.1 ∈ ns)) n = some v) : sget l n = some v ∧ n ∉ ns := by
      have h1 := sget_key h
      rw [drp_keys] at h1
      have h2 := (List.mem_filter.mp h1).2
      have h3 : n ∉ ns := fun z => by
        rw [decide_eq_true z] at h2
        cases h2
      rw [sget_drp _ h3] at h
      exact ⟨h, h3⟩
    theorem SnOk.low_le {s : SnS} (h : SnOk s) : s.low ≤ s.nxt := by
      have hl := h.lo
      cases e : s.bgn.map Prod.fst with
      | nil =>
        rw [e] at hl
        exact Int.le_of_eq hl
      | cons x r =>
        rw [e] at hl
        have hl : s.low = x := hl
        have := h.kn x (by rw [e]; exact .head _)
        omega
    theorem SnOk.fgt_low {s : SnS} (h : SnOk s) (ns : List Int) : s.low ≤ (s.fgt ns).low := by
      show s.low ≤ ((s.bgn.filter fun x => !decide (x.1 ∈ ns)).map Prod.fst).headD s.nxt
      rw [drp_keys]
      cases e : (s.bgn.map Prod.fst).filter fun n => !decide (n ∈ ns) with
      | nil => exact h.low_le
      | cons x r =>
        have hx : x ∈ (s.bgn.map Prod.fst).filter fun n => !decide (n ∈ ns) := by
          rw [e]
          exact .head _
        exact h.ge x (List.mem_filter.mp hx).1
    theorem SnOk.statS {s : SnS} (h : SnOk s) (upto : Int) (ms : List (Int × Int × Int)) : SnOk (s.statS upto ms) where
      bt := h.bt
      wn := h.wn
      ks := by
        show (s.bgn.filter fun x => !decide (x.1 ∈ s.conf (s.rdN upto) ms)).map Prod.fst = (s.snt.filter fun x => !decide (x.1 ∈ s.conf (s.rdN upto) ms)).map Prod.fst
        rw [drp_keys, drp_keys, h.ks]
      asc := by
        show ((s.bgn.filter fun x => !decide (x.1 ∈ s.conf (s.rdN upto) ms)).map Prod.fst).Pairwise (· < ·)
        rw [drp_keys]
        exact h.asc.filter _
      kn := fun k hk => by
        have hk : k ∈ (s.bgn.filter fun x => !decide (x.1 ∈ s.conf (s.rdN upto) ms)).map Prod.fst := hk
        rw [drp_keys] at hk
        exact h.kn k (List.mem_filter.mp hk).1
      lo := rfl
      wd := by
        have h1 := h.fgt_low (s.conf (s.rdN upto) ms)
        have h2 := h.wd
        show s.nxt ≤ (s.fgt (s.conf (s.rdN upto) ms)).low + s.win
        omega
      n0 := Int.le_trans h.n0 (h.fgt_low (s.conf (s.rdN upto) ms))
      bp := fun x hx => h.bp x (List.mem_filter.mp hx).1
      wp := h.wp
      sr := fun n v pk hv hpk => h.sr n v pk (sget_drp_some hv).1 (sget_drp_some hpk).1
      ak := fun x hx => by
        obtain ⟨n, hn, hx2⟩ := List.mem_flatMap.mp hx
        have hb := (List.mem_filter.mp hn).1
        split at hx2
        · rename_i hin
          obtain ⟨r, hr, rfl⟩ := List.mem_map.mp hx2
          obtain ⟨v, pk, hv, hpk, hvr, hpi⟩ := h.snt_at hb
          have h1 := rowsF_in _ r hr
          rw [toldF_len, hv, Option.getD_some] at h1
          have hnc : n ∉ s.conf (s.rdN upto) ms := fun z => by
            have := (List.mem_filter.mp z).2
            rw [decide_eq_true hin] at this
            cases this
          refine ⟨pk, ?_, h1.1, ?_, ?_⟩
          · show sget (s.bgn.filter fun x => !decide (x.1 ∈ s.conf (s.rdN upto) ms)) n = some pk
            rw [sget_drp _ hnc]
            exact hpk
          · show r.1 < r.2 + 1
            omega
          · show r.2 + 1 ≤ (pk.length : Int)
            omega
        · cases hx2
      al := by
        have h1 := h.asks_len ms (s.below (s.rdN upto)) fun n hn => (List.mem_filter.mp hn).1
        have h2 : (s.below (s.rdN upto)).length ≤ (s.bgn.map Prod.fst).length := List.length_filter_le ..
        rw [List.length_map] at h2
        have h3 := h.len
        show (s.asks ms (s.below (s.rdN upto))).length ≤ 6400
        omega
end
def SnS.quiet (s : SnS) : Bool := !s.bgn.isEmpty && (!s.hd && s.left.isNone)
def SnS.qn (s : SnS) : Int := if s.quiet = true then s.qt + 1 else 0
def SnS.tck (s : SnS) : SnS := if s.qn = 4 then { s with hd := false, qt := 0, akd := [(s.low, 0, (sget s.snt s.low).getD 0)] } else { s with hd := false, qt := s.qn }
theorem SnOk.low_in {s : SnS} (h : SnOk s) (hq : s.bgn ≠ []) : s.low ∈ s.bgn.map Prod.fst := by
  have hl := h.lo
  cases e : s.bgn with
  | nil => exact absurd e hq
  | cons x r =>
    rw [e] at hl
    have hl : s.low = x.1 := hl
    rw [hl]
    exact .head _
theorem SnS.quiet_ne {s : SnS} (h : s.quiet = true) : s.bgn ≠ [] := fun e => by
  unfold SnS.quiet at h
  rw [e] at h
  cases h
theorem SnS.tck_q {s : SnS} (h : s.qn = 4) : s.quiet = true := by
  unfold SnS.qn at h
  cases e : s.quiet with
  | true => rfl
  | false =>
    rw [e, if_neg (fun z => by cases z)] at h
    cases h
theorem SnOk.tck {s : SnS} (h : SnOk s) : SnOk s.tck := by
  unfold SnS.tck
  split
  · rename_i h4
    obtain ⟨v, pk, hv, hpk, hvr, _⟩ := h.snt_at (h.low_in (SnS.quiet_ne (SnS.tck_q h4)))
    refine ⟨h.bt, h.wn, h.ks, h.asc, h.kn, h.lo, h.wd, h.n0, h.bp, h.wp, h.sr, fun x hx => ?_, by show 1 ≤ 6400; omega⟩
    have e := List.mem_singleton.mp hx
    subst e
    refine ⟨pk, hpk, Int.le_refl _, ?_, ?_⟩
    · show 0 < (sget s.snt s.low).getD 0
      rw [hv, Option.getD_some]
      omega
    · show (sget s.snt s.low).getD 0 ≤ (pk.length : Int)
      rw [hv, Option.getD_some]
      omega
  · exact ⟨h.bt, h.wn, h.ks, h.asc, h.kn, h.lo, h.wd, h.n0, h.bp, h.wp, h.sr, h.ak, h.al⟩
section
variable {P : Program} {w : World} {K : PySem.W.Frag} {mg : Str → Option Value} {base : Heap}
def sp_Sender_tick (K : PySem.W.Frag) (C : Addr) : Sp := fun vs H Q _ => ∃ (A : SnA) (m : SnM) (s : SnS) (B : Hp), vs = [.ref A.p] ∧ Cells H B (scells C A m s) ∧ SnB B m s ∧ SnOk s ∧ ∀ (B' : Hp) (m' : SnM) (H' : Hp), Own H B (sas A m) B' (scells C A m' s.tck) H' → SnB B' m' s.tck → Q .non H'
@[irreducible] def ip_Sender_tick (K : PySem.W.Frag) (C : Addr) : Sp := sp_Sender_tick K C
theorem op_Sender_tick {K : PySem.W.Frag} {C : Addr} {vs : List V} {H : Hp} {Q : VK} {E : XK} (h : sp_Sender_tick K C vs H Q E) : ip_Sender_tick K C vs H Q E := by
  unfold ip_Sender_tick
  exact h
theorem un_Sender_tick {K : PySem.W.Frag} {C : Addr} {vs : List V} {H : Hp} {Q : VK} {E : XK} (h : ip_Sender_tick K C vs H Q E) : sp_Sender_tick K C vs H Q E := by
  unfold ip_Sender_tick at h
  exact h
theorem ok_Sender_tick (T : Tx P w K mg base) : FnOk P w K mg base CX0 2 T.a_Sender_tick T.d_Sender_tick ["self"] (ip_Sender_tick K T.C_Sender) := by
  have G_Sender__first_left := ok_Sender__first_left T
  refine T.p_Sender_tick.F.ok sc_Sender_tick (fun vs H Q E h => ?_) (fun cdv A outer s H vs Q E hr h => ?_)
  · obtain ⟨A, m, s', B, rfl, c, sb, ok, q⟩ := un_Sender_tick h
    rfl
  · obtain ⟨A, m, s', B, rfl, c, sb, ok, q⟩ := un_Sender_tick h
    refine ⟨_, (pss_cons (ps_set (i := 1) sc_Sender_tick.nd rfl (Or.inl rfl) (pe_say (pe_andM (pe_cmpR op_gtM (pe_callB call_lenD (by rfl) T.n_len PySem.boot_len (pa_cons (pe_fldM (pv 0) T.k_Sender.cl T.f_Sender__begun) pa_nil)) pe_int (nomark _)) (pe_andM (pe_not (pe_fldM (pv 0) T.k_Sender.cl T.f_Sender__has_heard)) (pe_one (pe_cmpR op_isN (meth_weak (pe_meth0 (pe_c (pv 0)) T.k_Sender.cl T.p_Sender__first_left.me G_Sender__first_left (hr.mono (by decide)) T.p_Sender__first_left.b .nil pass0)) pe_non (nomark _))))))) (pss_cons (ps_fldM (pv 0) pe_bl T.k_Sender.cl T.f_Sender__has_heard) (pss_cons (ps_fldM (pv 0) (pe_say (pe_ifM (pt_val (pv 1)) (pe_op op_addM (pe_fldM (pv 0) T.k_Sender.cl T.f_Sender__quiet_turns) pe_int) pe_int)) T.k_Sender.cl T.f_Sender__quiet_turns) (pss_one (ps_ifM (pt_cmpR op_eq (pe_fldM (pv 0) T.k_Sender.cl T.f_Sender__quiet_turns) (pe_gint rfl T.g_PATIENCE) (nomark _)) (pss_cons (ps_fldM (pv 0) pe_int T.k_Sender.cl T.f_Sender__quiet_turns) (pss_one (ps_fldM (pv 0) (pe_lstM (pa_cons (pe_tupM (pa_cons (pe_fldM (pv 0) T.k_Sender.cl T.f_Sender_low) (pa_cons pe_int (pa_cons (pe_dgetM (hu_of hr) (pe_fldM (pv 0) T.k_Sender.cl T.f_Sender__sent) (pe_fldM (pv 0) T.k_Sender.cl T.f_Sender_low)) pa_nil)))) pa_nil)) T.k_Sender.cl T.f_Sender__asked))) pss_nil))))), ?_⟩
    have w0 : Own H B (sas A m) B (scells T.C_Sender A m s') H := c.start
    have ra : SnAt T.C_Sender A m s' H := .of w0 sb ok.ks
    have hI := ra.i
    have hB := ra.b
    have hle : (pkK m.bp).length = s'.bgn.length := by
      rw [← sb.be]
      unfold pkK pkX
      rw [List.length_map, List.length_map]
    (repeat walk_at "rd")
    refine rd_say (fun v H' => v = .bl s'.quiet ∧ Same H H') ?_ (fun v H1 p => ?_)
    · unfold SnS.quiet
      (repeat walk_at "rd")
      rw [hle]
      cases hbe : s'.bgn with
      | nil =>
        refine br_f (by decide) ?_
        exact ⟨rfl, Same.refl _⟩
      | cons b br =>
        refine br_t (by rw [List.length_cons]; omega) ?_
        (repeat walk_at "rd")
        cases hh : s'.hd with
        | true =>
          refine br_nF ?_
          exact ⟨rfl, Same.refl _⟩
        | false =>
          refine br_nT ?_
          (repeat walk_at "rd")
          refine op_Sender__first_left ⟨A, m, s', rfl, ra, fun v H1 s1 hv => ?_⟩
          cases hx : s'.left with
          | none =>
            rw [hx] at hv
            rw [show v = .non from hv]
            (repeat walk_at "rd")
            exact s1
          | some x =>
            rw [hx] at hv
            obtain ⟨t, rfl, _⟩ := hv
            (repeat walk_at "rd")
            exact s1
    · obtain ⟨rfl, s1⟩ := p
      have w1 := w0.more s1
      have hI1 := w1.mem (p := A.p) (.head _)
      (repeat walk_at "rd")
      refine rd_putF hI1 (by exact Nat.le_of_ble_eq_true rfl) rfl ?_
      have w2 := w1.set 0 rfl (.ins T.C_Sender A.dx (({ s' with hd := false } : SnS).fs A m))
      have hI2 := w2.mem (p := A.p) (.head _)
      (repeat walk_at "rd")
      refine rd_say (fun v H' => v = .int s'.qn ∧ (upd H1 A.p (.ins T.C_Sender A.dx (({ s' with hd := false } : SnS).fs A m))) = H') ?_ (fun v H2 p => ?_)
      · unfold SnS.qn
        (repeat walk_at "rd")
        refine br_b (fun h => ?_) (fun h => ?_)
        · rw [if_pos h]
          (repeat walk_at "rd")
          exact rfl
        · rw [if_neg (fun z => by rw [h] at z; cases z)]
          (repeat walk_at "rd")
          exact rfl
      obtain ⟨rfl, rfl⟩ := p
      (repeat walk_at "rd")
      refine rd_putF hI2 (by exact Nat.le_of_ble_eq_true rfl) rfl ?_
      have w3 := w2.set 0 rfl (.ins T.C_Sender A.dx (({ s' with hd := false, qt := s'.qn } : SnS).fs A m))
      have hI3 := w3.mem (p := A.p) (.head _)
      unfold SnS.tck at q
      (repeat walk_at "rd")
      refine br_eby (fun h4 => ?_) (fun h4 => ?_)
      · rw [if_pos h4] at q
        obtain ⟨v, pk, hv, hpk, hvr, _⟩ := ok.snt_at (ok.low_in (SnS.quiet_ne (SnS.tck_q h4)))
        rw [hv, Option.getD_some] at q
        (repeat walk_at "rd")
        refine rd_putF hI3 (by exact Nat.le_of_ble_eq_true rfl) rfl ?_
        have w4 := w3.set 0 rfl (.ins T.C_Sender A.dx (({ s' with hd := false, qt := 0 } : SnS).fs A m))
        have hI4 := w4.mem (p := A.p) (.head _)
        have hT4 := w4.mem (p := A.st) (.tail _ (.tail _ (.head _)))
        (repeat walk_at "rd")
        refine rd_dget hT4 (v := .int v) (by rw [snt_val, hv]; rfl) ?_
        (repeat walk_at "rd")
        intro t H5 n5 s5 e5
        obtain ⟨B5, sB5, hB5, _, w5⟩ := w4.ro n5 s5 e5
        (repeat walk_at "rd")
        intro ak H6 n6 s6 e6
        have w6 := w5.add n6 s6 e6
        have hI6 := w6.mem (p := A.p) (.tail _ (.head _))
        (repeat walk_at "rd")
        refine rd_putF hI6 (by exact Nat.le_of_ble_eq_true rfl) rfl ?_
        have w7 := (w6.set 1 rfl (.ins T.C_Sender A.dx (({ s' with hd := false, qt := 0 } : SnS).fs A { m with ak := ak }))).pick [1, 2, 3, 4, 0] [5]
        (repeat walk_at "rd")
        refine q B5 { m with ak := ak, kA := [t] } _ w7 (SnB.asks (m := m) (s := { s' with hd := false, qt := 0 }) ⟨(sb.mono sB5).be, (sb.mono sB5).ba, (sb.mono sB5).wl, (sb.mono sB5).wa, (sb.mono sB5).kl, (sb.mono sB5).ka⟩ rfl fun i a x h1 h2 => ?_)
        cases i with
        | zero =>
          cases h1
          cases h2
          exact hB5
        | succ i => cases h1
      · rw [if_neg h4] at q
        (repeat walk_at "rd")
        exact q B m _ w3 ⟨sb.be, sb.ba, sb.wl, sb.wa, sb.kl, sb.ka⟩
theorem keys_own {α : Type} (d : α) : ∀ {l : List (Int × α)}, (l.map Prod.fst).Nodup → (l.map Prod.fst).map (fun n => (n, (sget l n).getD d)) = l := by
  intro l nd
  rw [List.map_map]
  conv => rhs; rw [← List.map_id l]
  refine List.map_congr_left fun x hx => ?_
  show (x.1, (sget l x.1).getD d) = x
  have : sget l x.1 = some x.2 := by
    induction l with
    | nil => cases hx
    | cons y r ih =>
      have nd2 := List.nodup_cons.mp nd
      rw [sget_cons]
      rcases List.mem_cons.mp hx with e | z
      · rw [e, if_pos rfl]
      · rw [if_neg (fun e => nd2.1 (by rw [e]; exact List.mem_map.mpr ⟨x, z, rfl⟩))]
        exact ih nd2.2 z
  rw [this]
  rfl
def sp_Sender_unconfirmed (K : PySem.W.Frag) (C : Addr) : Sp := fun vs H Q _ => ∃ (A : SnA) (m : SnM) (s : SnS), vs = [.ref A.p] ∧ SnAt C A m s H ∧ SnOk s ∧ ∀ (D : Addr) (ts qs : List Addr) (H' : Hp), H D = none → IO H D ts qs s.bgn H' → Q (.ref D) H'
@[irreducible] def ip_Sender_unconfirmed (K : PySem.W.Frag) (C : Addr) : Sp := sp_Sender_unconfirmed K C
theorem op_Sender_unconfirmed {K : PySem.W.Frag} {C : Addr} {vs : List V} {H : Hp} {Q : VK} {E : XK} (h : sp_Sender_unconfirmed K C vs H Q E) : ip_Sender_unconfirmed K C vs H Q E := by
  unfold ip_Sender_unconfirmed
  exact h
theorem un_Sender_unconfirmed {K : PySem.W.Frag} {C : Addr} {vs : List V} {H : Hp} {Q : VK} {E : XK} (h : ip_Sender_unconfirmed K C vs H Q E) : sp_Sender_unconfirmed K C vs H Q E := by
  unfold ip_Sender_unconfirmed at h
  exact h
theorem ok_Sender_unconfirmed (T : Tx P w K mg base) : FnOk P w K mg base CX0 1 T.a_Sender_unconfirmed T.d_Sender_unconfirmed ["self"] (ip_Sender_unconfirmed K T.C_Sender) := by
  refine T.p_Sender_unconfirmed.F.ok sc_Sender_unconfirmed (fun vs H Q E h => ?_) (fun cdv A outer s H vs Q E hr h => ?_)
  · obtain ⟨A, m, s', rfl, ra, ok, q⟩ := un_Sender_unconfirmed h
    rfl
  · obtain ⟨A, m, s', rfl, ra, ok, q⟩ := un_Sender_unconfirmed h
    refine ⟨_, (pss_one (ps_ret (pe_lcW (own := [("number", 1)]) (g := (gName 1)) [1] im_list rfl sc_Sender_unconfirmed.nd (pi_list (pe_c (pe_callB (call_sortDBM rfl) (by rfl) T.n_sorted (by decide +kernel) (pa_cons (pe_fldM (pv 0) T.k_Sender.cl T.f_Sender__begun) pa_nil)))) (blkOk_by (own := [("number", 1)]) (N := ["self", "number"]) (sc := defScope S_Sender_unconfirmed) (by decide +kernel)) (fun _ _ _ _ _ => (pg_name (i := 1) sc_Sender_unconfirmed.nd rfl (Or.inl rfl))) (fun _ _ _ _ _ => pts_nil) (fun _ _ _ _ _ => (pe_tupM (pa_cons (pv 1) (pa_cons (pe_callTy (call_listK (K := K) rfl) (by rfl) T.n_list (by decide +kernel) (pa_cons (pe_dgetM (hu_of hr) (pe_fldM (pv 0) T.k_Sender.cl T.f_Sender__begun) (pv 1)) pa_nil)) pa_nil))))))), ?_⟩
    have hI := ra.i
    have hB := ra.b
    have hk0 : m.bp.map Prod.fst = s'.bgn.map Prod.fst := by rw [← ra.sb.be, pkX_keys]
    have hkl : (s'.bgn.map Prod.fst).length ≤ 32 := by
      rw [List.length_map]
      exact ok.len
    (repeat walk_at "rd")
    refine rd_lcW ?_
    (repeat walk_at "rd")
    refine rd_sortDB hB (pkK_keys _) (fun ys hp ho => ?_)
    rw [hk0] at hp
    have := asc_self ok.asc hp ho
    subst this
    intro r1 H3 n3 s3 e3
    (repeat walk_at "rd")
    refine ⟨⟨_, sq_of e3⟩, ?_⟩
    refine wl_io (s'.bgn.map Prod.fst) (fun n => (sget s'.bgn n).getD []) (sq_of e3) (by omega) (fun n hn H4 R s4 k => ?_) (fun D ts qs H4 hD io => ?_)
    · have s34 := s3.trans s4
      obtain ⟨pk, hpk⟩ := sget_some hn
      rcases bgn_val (H := H) n ra.sb.be ra.sb.ba with ⟨e1, e2⟩ | ⟨pk2, a, e1, e2, e5⟩
      · rw [hpk] at e1
        cases e1
      · rw [hpk] at e1
        cases e1
        have hI4 := s34 _ _ hI
        have hB4 := s34 _ _ hB
        (repeat walk_at "rd")
        refine rd_dget hB4 e2 ?_
        (repeat walk_at "rd")
        refine rd_list (sq_of (s34 _ _ e5)) ?_
        intro q1 H5 n5 s5 e6
        (repeat walk_at "rd")
        intro t H6 n6 s6 e7
        rw [hpk] at k
        exact k q1 H5 t H6 n5 s5 e6 n6 s6 e7
    · rw [keys_own [] (ok.asc.imp fun z => Int.ne_of_lt z)] at io
      exact q D ts qs H4 (same_none s3 hD) ⟨s3.trans io.sm, io.at', io.ls, fun t ht => same_none s3 (io.frt t ht), fun q hq => ⟨same_none s3 (io.frq q hq).1, (io.frq q hq).2⟩, io.nd⟩
def sp_u_law_cell (K : PySem.W.Frag) : Sp := fun vs H Q _ => ∃ (a : Addr) (ns : List Int) (k : Int), vs = [.ref a, .int k] ∧ SqL K H a (ns.map V.int) ∧ 0 ≤ k ∧ Q (.int (ns.getD k.toNat 0)) H
@[irreducible] def ip_u_law_cell (K : PySem.W.Frag) : Sp := sp_u_law_cell K
theorem op_u_law_cell {K : PySem.W.Frag} {vs : List V} {H : Hp} {Q : VK} {E : XK} (h : sp_u_law_cell K vs H Q E) : ip_u_law_cell K vs H Q E := by
  unfold ip_u_law_cell
  exact h
theorem un_u_law_cell {K : PySem.W.Frag} {vs : List V} {H : Hp} {Q : VK} {E : XK} (h : ip_u_law_cell K vs H Q E) : sp_u_law_cell K vs H Q E := by
  unfold ip_u_law_cell at h
  exact h
theorem ok_u_law_cell (T : Tx P w K mg base) : FnOk P w K mg base CX0 1 T.a_u_law_cell T.d_u_law_cell ["script", "k"] (ip_u_law_cell K) := by
  refine T.p_u_law_cell.F.ok sc_u_law_cell (fun vs H Q E h => ?_) (fun cdv A outer s H vs Q E hr h => ?_)
  · obtain ⟨a, ns, k, rfl, hS, hk, q⟩ := un_u_law_cell h
    rfl
  · obtain ⟨a, ns, k, rfl, hS, hk, q⟩ := un_u_law_cell h
    refine ⟨_, (pss_cons (ps_ifM (pt_cmpR op_ltM (pv 1) (pe_callB call_lenM (by rfl) T.n_len PySem.boot_len (pa_cons (pv 0) pa_nil)) (nomark _)) (pss_one (ps_ret (pe_callTy call_int1 (by rfl) T.n_int (by decide +kernel) (pa_cons (pe_ix ix_listM (pv 0) (pv 1) (fun _ _ => rfl)) pa_nil)))) pss_nil) (pss_one (ps_ret pe_int))), ?_⟩
    (repeat walk_at "rd")
    refine br_by (fun h => ?_) (fun h => ?_)
    · (repeat walk_at "rd")
      refine rd_ixI hS hk h ?_
      (repeat walk_at "rd")
      exact q
    · have e : ns.getD k.toNat 0 = 0 := by
        rw [List.getD_eq_getElem?_getD, List.getElem?_eq_none (by omega)]
        rfl
      rw [e] at q
      exact q
end
/-! digits within their bases -/
inductive DigOk : List Int → List Int → Prop where
  | nil : DigOk [] []
  | cons {b d : Int} {bs ds : List Int} (h0 : 0 ≤ d) (h1 : d < b) (h : DigOk bs ds) : DigOk (b :: bs) (d :: ds)
theorem DigOk.snoc {b d : Int} {bs ds : List Int} (h : DigOk bs ds) (h0 : 0 ≤ d) (h1 : d < b) : DigOk (bs ++ [b]) (ds ++ [d]) := by
  induction h with
  | nil => exact .cons h0 h1 .nil
  | cons a0 a1 _ ih => exact .cons a0 a1 ih
theorem DigOk.len {bs ds : List Int} (h : DigOk bs ds) : ds.length = bs.length := by
  induction h with
  | nil => rfl
  | cons _ _ _ ih => rw [List.length_cons, List.length_cons, ih]
theorem DigOk.un {b : Int} {bs ds : List Int} (h : DigOk (b :: bs) ds) : ∃ d r, ds = d :: r ∧ (0 ≤ d ∧ d < b) ∧ DigOk bs r := by
  cases h with
  | cons h0 h1 h => exact ⟨_, _, rfl, ⟨h0, h1⟩, h⟩
theorem DigOk.end {ds : List Int} (h : DigOk [] ds) : ds = [] := by
  cases h
  rfl
theorem dig4 {a b c d : Int} {ds : List Int} (h : DigOk [a, b, c, d] ds) : ∃ p q r s, ds = [p, q, r, s] ∧ (0 ≤ p ∧ p < a) ∧ (0 ≤ q ∧ q < b) ∧ (0 ≤ r ∧ r < c) ∧ (0 ≤ s ∧ s < d) := by
  obtain ⟨p, _, rfl, h1, h⟩ := h.un
  obtain ⟨q, _, rfl, h2, h⟩ := h.un
  obtain ⟨r, _, rfl, h3, h⟩ := h.un
  obtain ⟨s, _, rfl, h4, h⟩ := h.un
  have e := h.end
  subst e
  exact ⟨p, q, r, s, rfl, h1, h2, h3, h4⟩
theorem dig_take {bs : List Int} {i : Nat} {b : Int} (h : bs[i]? = some b) : bs.take (i + 1) = bs.take i ++ [b] := by
  rw [List.take_add_one, h]
  rfl
section
variable {P : Program} {w : World} {K : PySem.W.Frag} {mg : Str → Option Value} {base : Heap}
def sp_u_law_digits (K : PySem.W.Frag) : Sp := fun vs H Q _ => ∃ (c : Int) (b : Addr) (bs : List Int), vs = [.int c, .ref b] ∧ SqL K H b (bs.map V.int) ∧ (∀ x ∈ bs, 1 ≤ x ∧ x ≤ 1000000000000) ∧ bs.length ≤ 100 ∧ ∀ ds, DigOk bs ds → NewO (.lst (ds.map V.int)) H Q
structure DigW (H : Hp) (c : Int) (b p : Addr) (bs : List Int) (i : Nat) (σ : L2.St) (H' : Hp) : Prop where
  sm : Same H H'
  dg : ∃ ds, H' p = some (.lst (ds.map V.int)) ∧ DigOk (bs.take i) ds
  fr : ∃ r x y, σ = [some (.int c), some (.ref b), some (.ref p), some (.int r), x, y]
@[irreducible] def ip_u_law_digits (K : PySem.W.Frag) : Sp := sp_u_law_digits K
theorem op_u_law_digits {K : PySem.W.Frag} {vs : List V} {H : Hp} {Q : VK} {E : XK} (h : sp_u_law_digits K vs H Q E) : ip_u_law_digits K vs H Q E := by
  unfold ip_u_law_digits
  exact h
theorem un_u_law_digits {K : PySem.W.Frag} {vs : List V} {H : Hp} {Q : VK} {E : XK} (h : ip_u_law_digits K vs H Q E) : sp_u_law_digits K vs H Q E := by
  unfold ip_u_law_digits at h
  exact h
theorem ok_u_law_digits (T : Tx P w K mg base) : FnOk P w K mg base CX0 1 T.a_u_law_digits T.d_u_law_digits ["cell", "bases"] (ip_u_law_digits K) := by
  refine T.p_u_law_digits.F.ok sc_u_law_digits (fun vs H Q E h => ?_) (fun cdv A outer s H vs Q E hr h => ?_)
  · obtain ⟨c, b, bs, rfl, hS, hb, hl, q⟩ := un_u_law_digits h
    rfl
  · obtain ⟨c, b, bs, rfl, hS, hb, hl, q⟩ := un_u_law_digits h
    refine ⟨_, (pss_cons (ps_set (i := 2) sc_u_law_digits.nd rfl (Or.inl rfl) (pe_lstM pa_nil)) (pss_cons (ps_set (i := 3) sc_u_law_digits.nd rfl (Or.inl rfl) (pe_callTy call_int1 (by rfl) T.n_int (by decide +kernel) (pa_cons (pv 0) pa_nil))) (pss_cons (ps_forL PassesOwn.never rfl (pv 1) (pg_name (i := 4) sc_u_law_digits.nd rfl (Or.inl rfl)) (pss_one (ps_ifM (pt_cmpR op_geM (pv 0) (pe_op op_powM pe_int pe_int) (nomark _)) (pss_cons (ps_expr (pe_app (pv 2) (pe_op op_modM (pe_callTy call_int1 (by rfl) T.n_int (by decide +kernel) (pa_cons (pv 3) pa_nil)) (pv 4)))) (pss_one (ps_set (i := 3) sc_u_law_digits.nd rfl (Or.inl rfl) (pe_op op_fdivWM (pv 3) (pv 4))))) (pss_cons (ps_set (i := 3) sc_u_law_digits.nd rfl (Or.inl rfl) (pe_op op_modM (pe_op op_addM (pe_op op_addM (pe_op op_mulM (pe_callTy call_int1 (by rfl) T.n_int (by decide +kernel) (pa_cons (pv 3) pa_nil)) pe_int) (pe_op op_mulM pe_int (pe_callB call_lenM (by rfl) T.n_len PySem.boot_len (pa_cons (pv 2) pa_nil)))) pe_int) pe_int)) (pss_cons (ps_set (i := 5) sc_u_law_digits.nd rfl (Or.inl rfl) (pe_op op_modM (pe_op op_mulM (pe_callTy call_int1 (by rfl) T.n_int (by decide +kernel) (pa_cons (pv 3) pa_nil)) (pe_callTy call_int1 (by rfl) T.n_int (by decide +kernel) (pa_cons (pv 3) pa_nil))) pe_int)) (pss_one (ps_expr (pe_app (pv 2) (pe_op op_modM (pe_op op_fdivM (pe_callTy call_int1 (by rfl) T.n_int (by decide +kernel) (pa_cons (pv 5) pa_nil)) pe_int) (pv 4)))))))))) (pss_one (ps_ret (pv 2)))))), ?_⟩
    refine rd_lst ?_
    (repeat walk_at "rd")
    intro p H1 np s1 e1
    (repeat walk_at "rd")
    refine rd_forL ?_
    (repeat walk_at "rd")
    refine ⟨b, bs.map V.int, fun i σ H' => Stop (DigW H c b p bs i σ H'), rfl, (by walk_at "sq"), .a ⟨s1, ⟨[], e1, .nil⟩, _, _, _, rfl⟩, fun i σ' H' _ w => w.un.sm.seq hS, fun i y σ' H' hi w => ?_, fun σ' H' w => ?_⟩
    · obtain ⟨sm, ⟨ds, ed, hd⟩, r, x, z, rfl⟩ := w.un
      rw [List.getElem?_map] at hi
      obtain ⟨ba, hba, rfl⟩ := Option.map_eq_some_iff.mp hi
      have hb1 := hb ba (List.mem_of_getElem? hba)
      have hi2 : i < bs.length := (List.getElem?_eq_some_iff.mp hba).1
      have hdl : ds.length ≤ 100 := by
        rw [hd.len, List.length_take]
        omega
      (repeat walk_at "rd")
      refine br_by (fun h => ?_) (fun h => ?_)
      · (repeat walk_at "rd")
        refine rd_app ed (by rw [List.length_map]; omega) ?_
        (repeat walk_at "rd")
        refine ⟨wide_div (b := 64) (by omega) (by omega) (by decide) (by decide), ?_⟩
        refine .a ⟨same_mut sm np, ⟨ds ++ [r % ba], ?_, ?_⟩, _, _, _, rfl⟩
        · rw [upd_same, List.map_append]
          rfl
        · rw [dig_take hba]
          exact hd.snoc (Int.emod_nonneg _ (by omega)) (Int.emod_lt_of_pos _ (by omega))
      · (repeat walk_at "rd")
        refine rd_app ed (by rw [List.length_map]; omega) ?_
        refine .a ⟨same_mut sm np, ⟨ds ++ [?w], ?h1, ?h2⟩, ?r, ?x, ?y, ?h3⟩
        case h3 => rfl
        case h1 =>
          rw [upd_same, List.map_append]
          rfl
        case h2 =>
          rw [dig_take hba]
          exact hd.snoc (Int.emod_nonneg _ (by omega)) (Int.emod_lt_of_pos _ (by omega))
    · obtain ⟨sm, ⟨ds, ed, hd⟩, r, x, z, rfl⟩ := w.un
      (repeat walk_at "rd")
      rw [List.length_map, List.take_length] at hd
      exact q ds hd p H' np sm ed
def sp_u_law_many (K : PySem.W.Frag) : Sp := fun vs H Q _ => ∃ (a : Addr) (ns : List Int) (x y : Int), vs = [.ref a, .int x, .int y] ∧ SqL K H a (ns.map V.int) ∧ ∀ z : Int, z = x ∨ z = y → Q (.int z) H
@[irreducible] def ip_u_law_many (K : PySem.W.Frag) : Sp := sp_u_law_many K
theorem op_u_law_many {K : PySem.W.Frag} {vs : List V} {H : Hp} {Q : VK} {E : XK} (h : sp_u_law_many K vs H Q E) : ip_u_law_many K vs H Q E := by
  unfold ip_u_law_many
  exact h
theorem un_u_law_many {K : PySem.W.Frag} {vs : List V} {H : Hp} {Q : VK} {E : XK} (h : ip_u_law_many K vs H Q E) : sp_u_law_many K vs H Q E := by
  unfold ip_u_law_many at h
  exact h
theorem ok_u_law_many (T : Tx P w K mg base) : FnOk P w K mg base CX0 1 T.a_u_law_many T.d_u_law_many ["script", "few", "many"] (ip_u_law_many K) := by
  refine T.p_u_law_many.F.ok sc_u_law_many (fun vs H Q E h => ?_) (fun cdv A outer s H vs Q E hr h => ?_)
  · obtain ⟨a, ns, x, y, rfl, hS, q⟩ := un_u_law_many h
    rfl
  · obtain ⟨a, ns, x, y, rfl, hS, q⟩ := un_u_law_many h
    refine ⟨_, (pss_cons (ps_ifM (PW.pt (pw_andM (pt_cmpR op_gtM (pe_callB call_lenM (by rfl) T.n_len PySem.boot_len (pa_cons (pv 0) pa_nil)) pe_int (nomark _)) (pw_and1 (pt_cmpR op_eq (pe_op op_modM (pe_op op_fdivM (pe_callTy call_int1 (by rfl) T.n_int (by decide +kernel) (pa_cons (pe_ix ix_listM (pv 0) pe_int (fun _ _ => rfl)) pa_nil)) pe_int) pe_int) pe_int (nomark _))))) (pss_one (ps_ret (pv 2))) pss_nil) (pss_one (ps_ret (pv 1)))), ?_⟩
    (repeat walk_at "rd")
    refine br_by (fun h => ?_) (fun h => ?_)
    · (repeat walk_at "rd")
      refine rd_ixI hS (by decide) (by omega) ?_
      (repeat walk_at "rd")
      refine br_eby (fun h => ?_) (fun h => ?_)
      · (repeat walk_at "rd")
        exact q _ (.inr rfl)
      · (repeat walk_at "rd")
        exact q _ (.inl rfl)
    · (repeat walk_at "rd")
      exact q _ (.inl rfl)
end
theorem dig6b {a b c d e f : Int} {ds : List Int} (h : DigOk [a, b, c, d, e, f] ds) : ∃ p q r s t u, ds = [p, q, r, s, t, u] ∧ (0 ≤ p ∧ p < a) ∧ (0 ≤ q ∧ q < b) ∧ (0 ≤ r ∧ r < c) ∧ (0 ≤ s ∧ s < d) ∧ (0 ≤ t ∧ t < e) ∧ (0 ≤ u ∧ u < f) := by
  obtain ⟨p, _, rfl, h1, h⟩ := h.un
  obtain ⟨q, _, rfl, h2, h⟩ := h.un
  obtain ⟨r, s, t, u, rfl, h3⟩ := dig4 h
  exact ⟨p, q, r, s, t, u, rfl, h1, h2, h3⟩
theorem SnS.has_is {s : SnS} (h : SnOk s) (room : Int) : s.has room = (s.sendP room).isSome := by
  unfold SnS.has SnS.sendP
  cases hx : s.left with
  | none => rfl
  | some x =>
    dsimp only
    cases hp : s.pkt x.1 with
    | none => rfl
    | some pk =>
      dsimp only
      by_cases hlt : x.2.1 < s.endL x pk room
      · rw [if_pos hlt, decide_eq_true hlt]
        rfl
      · rw [if_neg hlt, decide_eq_false hlt]
        rfl
theorem SnS.cnt_wl (s : SnS) (x : Int × Int × Int) (e : Int) : (s.cnt x e).wtg.length ≤ s.wtg.length := by
  unfold SnS.cnt
  split
  · exact Nat.le_refl _
  · split
    · show s.wtg.tail.length ≤ _
      rw [List.length_tail]
      omega
    · exact Nat.le_refl _
theorem SnS.sendP_wl {s : SnS} {room : Int} {ds : List Int} {s2 : SnS} (e : s.sendP room = some (ds, s2)) : s2.wtg.length ≤ s.wtg.length := by
  unfold SnS.sendP at e
  split at e
  · cases e
  · split at e
    · cases e
    · split at e
      · cases e
        exact SnS.cnt_wl ..
      · cases e
theorem SnS.tck_wl (s : SnS) : s.tck.wtg.length ≤ s.wtg.length := by
  unfold SnS.tck
  split <;> exact Nat.le_refl _
theorem SnOk.put {s : SnS} (h : SnOk s) {ds : List Int} (hd : PkIn ds) : SnOk { s with wtg := s.wtg ++ [ds] } := ⟨h.bt, h.wn, h.ks, h.asc, h.kn, h.lo, h.wd, h.n0, h.bp, fun x hx => by
  have hx : x ∈ s.wtg ++ [ds] := hx
  rcases List.mem_append.mp hx with z | z
  · exact h.wp x z
  · rw [List.mem_singleton.mp z]
    exact hd, h.sr, h.ak, h.al⟩
theorem pkB_of {ds : List Int} (h : PkIn ds) : pkB ds 200 = true := by
  have h1 := h.l1
  have h2 := h.l2
  unfold pkB
  rw [decide_eq_true (by omega), decide_eq_true (by omega), Bool.true_and, Bool.true_and]
  refine List.all_eq_true.mpr fun d hd => ?_
  have := h.by' d hd
  rw [decide_eq_true this.1, decide_eq_true (show d ≤ 255 by omega)]
  rfl
/-- two senders with one state -/
def two (C : Addr) (A1 : SnA) (m1 : SnM) (A2 : SnA) (m2 : SnM) (s : SnS) : List (Addr × HO) := scells C A1 m1 s ++ scells C A2 m2 s
section
variable {P : Program} {w : World} {K : PySem.W.Frag} {mg : Str → Option Value} {base : Heap}
def sp_u_law_both (K : PySem.W.Frag) (C : Addr) : Sp := fun vs H Q _ => ∃ (A1 : SnA) (m1 : SnM) (A2 : SnA) (m2 : SnM) (s : SnS) (d : Addr) (ds : List Int) (B : Hp), vs = [.ref A1.p, .ref A2.p, .ref d] ∧ Cells H B (two C A1 m1 A2 m2 s) ∧ SnB B m1 s ∧ SnB B m2 s ∧ SnOk s ∧ s.wtg.length ≤ 1000 ∧ B d = some (.lst (ds.map V.int)) ∧ DigOk [8, 256, 41, 41, 6, 64] ds ∧
  ∀ (s2 : SnS) (m1' m2' : SnM) (B' H' : Hp), Own H B (sas A1 m1 ++ sas A2 m2) B' (two C A1 m1' A2 m2' s2) H' → SnB B' m1' s2 → SnB B' m2' s2 → SnOk s2 → s2.wtg.length ≤ s.wtg.length + 1 → Q (.bl true) H'
@[irreducible] def ip_u_law_both (K : PySem.W.Frag) (C : Addr) : Sp := sp_u_law_both K C
theorem op_u_law_both {K : PySem.W.Frag} {C : Addr} {vs : List V} {H : Hp} {Q : VK} {E : XK} (h : sp_u_law_both K C vs H Q E) : ip_u_law_both K C vs H Q E := by
  unfold ip_u_law_both
  exact h
theorem un_u_law_both {K : PySem.W.Frag} {C : Addr} {vs : List V} {H : Hp} {Q : VK} {E : XK} (h : ip_u_law_both K C vs H Q E) : sp_u_law_both K C vs H Q E := by
  unfold ip_u_law_both at h
  exact h
theorem ok_u_law_both (T : Tx P w K mg base) : FnOk P w K mg base CX0 8 T.a_u_law_both T.d_u_law_both ["one", "other", "digits"] (ip_u_law_both K T.C_Sender) := by
  have G_Sender_tick := ok_Sender_tick T
  have G_Sender_put := ok_Sender_put T
  have G_Sender_has_piece := ok_Sender_has_piece T
  have G_Sender_send := ok_Sender_send T
  have G_Sender_take_status := ok_Sender_take_status T
  refine T.p_u_law_both.F.ok sc_u_law_both (fun vs H Q E h => ?_) (fun cdv A outer s H vs Q E hr h => ?_)
  · obtain ⟨A1, m1, A2, m2, s', d, ds, B, rfl, c, sb1, sb2, ok, hwl, hd, hdg, q⟩ := un_u_law_both h
    rfl
  · obtain ⟨A1, m1, A2, m2, s', d, ds, B, rfl, c, sb1, sb2, ok, hwl, hd, hdg, q⟩ := un_u_law_both h
    refine ⟨_, (pss_cons (ps_ifM (pt_cmpR op_ltM (pe_ix ix_listM (pv 2) pe_int (fun _ _ => rfl)) pe_int (nomark _)) (pss_cons (ps_setLcR1 (i := 3) rfl sc_u_law_both.nd rfl rfl (sw_true rfl rfl rfl (by decide +kernel)) rfl T.n_range (pa_cons (pe_op op_addM pe_int (pe_op op_modM (pe_ix ix_listM (pv 2) pe_int (fun _ _ => rfl)) pe_int)) pa_nil) (blkOk_by (own := [("k", 9)]) (N := ["one", "other", "digits", "packet", "room", "told", "piece", "missing", "upto", "k"]) (sc := defScope S_u_law_both) (by decide +kernel)) (fun _ _ _ _ _ => (pg_name (i := 9) sc_u_law_both.nd rfl (Or.inl rfl))) (fun _ _ _ _ _ => (pe_op op_modM (pe_op op_addM (pe_ix (ix_listK (K := K) rfl) (pv 2) pe_int (fun _ _ => rfl)) (pe_op op_mulM pe_int (pv 9))) pe_int))) (pss_cons (ps_expr (meth_weak (pe_meth (pe_c (pv 0)) T.k_Sender.cl T.p_Sender_put.me G_Sender_put (hr.mono (by decide)) T.p_Sender_put.b .nil passL (pa_cons (pe_callTy call_listM (by rfl) T.n_list (by decide +kernel) (pa_cons (pv 3) pa_nil)) pa_nil)))) (pss_cons (ps_expr (meth_weak (pe_meth (pe_c (pv 1)) T.k_Sender.cl T.p_Sender_put.me G_Sender_put (hr.mono (by decide)) T.p_Sender_put.b .nil passL (pa_cons (pe_callTy call_listM (by rfl) T.n_list (by decide +kernel) (pa_cons (pv 3) pa_nil)) pa_nil)))) (pss_one (ps_ret pe_bl))))) pss_nil) (pss_cons (ps_ifM (pt_cmpR op_ltM (pe_ix ix_listM (pv 2) pe_int (fun _ _ => rfl)) pe_int (nomark _)) (pss_cons (ps_set (i := 4) sc_u_law_both.nd rfl (Or.inl rfl) (pe_ix ix_listM (pv 2) pe_int (fun _ _ => rfl))) (pss_cons (ps_set (i := 5) sc_u_law_both.nd rfl (Or.inl rfl) (meth_weak (pe_meth (pe_c (pv 0)) T.k_Sender.cl T.p_Sender_has_piece.me G_Sender_has_piece (hr.mono (by decide)) T.p_Sender_has_piece.b .nil pass0 (pa_cons (pv 4) pa_nil)))) (pss_cons (ps_expr (meth_weak (pe_meth (pe_c (pv 0)) T.k_Sender.cl T.p_Sender_has_piece.me G_Sender_has_piece (hr.mono (by decide)) T.p_Sender_has_piece.b .nil pass0 (pa_cons (pe_ix ix_listM (pv 2) pe_int (fun _ _ => rfl)) pa_nil)))) (pss_cons (ps_set (i := 6) sc_u_law_both.nd rfl (Or.inl rfl) (meth_weak (pe_meth (pe_c (pv 0)) T.k_Sender.cl T.p_Sender_send.me G_Sender_send (hr.mono (by decide)) T.p_Sender_send.b .nil pass0 (pa_cons (pv 4) pa_nil)))) (pss_one (ps_ret (pe_andM (pe_callB call_isiM (by rfl) T.n_isinstance (by decide +kernel) (pa_cons (pv 5) (pa_cons (pe_bltn (v := .ty "bool") rfl T.n_bool (by decide +kernel) rfl) pa_nil))) (pe_andM (pe_cmpR op_eq (pv 5) (pe_cmpR op_notN (pv 6) pe_non (nomark _)) (nomark _)) (pe_one (pe_cmpR (op_eqDM hr.units) (meth_weak (pe_meth (pe_c (pv 1)) T.k_Sender.cl T.p_Sender_send.me G_Sender_send (hr.mono (by decide)) T.p_Sender_send.b .nil pass0 (pa_cons (pv 4) pa_nil))) (pv 6) (nomark _))))))))))) pss_nil) (pss_cons (ps_ifM (pt_cmpR op_eq (pe_ix ix_listM (pv 2) pe_int (fun _ _ => rfl)) pe_int (nomark _)) (pss_cons (ps_set (i := 7) sc_u_law_both.nd rfl (Or.inl rfl) (pe_slice sl_listM (pe_lstM (pa_cons (pe_tupM (pa_cons (pe_op op_modM (pe_ix ix_listM (pv 2) pe_int (fun _ _ => rfl)) pe_int) (pa_cons (pe_op op_modM (pe_ix ix_listM (pv 2) pe_int (fun _ _ => rfl)) pe_int) (pa_cons (pe_op op_addM (pe_op op_modM (pe_ix ix_listM (pv 2) pe_int (fun _ _ => rfl)) pe_int) (pe_ix ix_listM (pv 2) pe_int (fun _ _ => rfl))) pa_nil)))) pa_nil)) po_none (po_some (pe_op op_modM (pe_ix ix_listM (pv 2) pe_int (fun _ _ => rfl)) pe_int)))) (pss_cons (ps_set (i := 8) sc_u_law_both.nd rfl (Or.inl rfl) (pe_op op_modM (pe_ix ix_listM (pv 2) pe_int (fun _ _ => rfl)) pe_int)) (pss_one (ps_ret (pe_cmpR (op_eqDM hr.units) (meth_weak (pe_meth (pe_c (pv 0)) T.k_Sender.cl T.p_Sender_take_status.me G_Sender_take_status (hr.mono (by decide)) T.p_Sender_take_status.b .nil pass0 (pa_cons (pv 8) (pa_cons (pe_callTy call_listM (by rfl) T.n_list (by decide +kernel) (pa_cons (pv 7) pa_nil)) pa_nil)))) (meth_weak (pe_meth (pe_c (pv 1)) T.k_Sender.cl T.p_Sender_take_status.me G_Sender_take_status (hr.mono (by decide)) T.p_Sender_take_status.b .nil pass0 (pa_cons (pv 8) (pa_cons (pe_callTy call_listM (by rfl) T.n_list (by decide +kernel) (pa_cons (pv 7) pa_nil)) pa_nil)))) (nomark _)))))) pss_nil) (pss_cons (ps_expr (meth_weak (pe_meth0 (pe_c (pv 0)) T.k_Sender.cl T.p_Sender_tick.me G_Sender_tick (hr.mono (by decide)) T.p_Sender_tick.b .nil pass0))) (pss_cons (ps_expr (meth_weak (pe_meth0 (pe_c (pv 1)) T.k_Sender.cl T.p_Sender_tick.me G_Sender_tick (hr.mono (by decide)) T.p_Sender_tick.b .nil pass0))) (pss_one (ps_ret pe_bl))))))), ?_⟩
    obtain ⟨d0, d1, d2, d3, d4, d5, rfl, k0, k1, k2, k3, k4, k5⟩ := dig6b hdg
    have w0 : Own H B (sas A1 m1 ++ sas A2 m2) B (scells T.C_Sender A1 m1 s' ++ scells T.C_Sender A2 m2 s') H := c.start
    have hd0 := w0.imm _ _ hd
    have hp1 := w0.pre.mem (p := A1.p) (.head _)
    (repeat walk_at "rd")
    refine rd_ixI (sq_of hd0) (by decide) (by show _ < (6 : Int); decide) ?_
    (repeat walk_at "rd")
    refine br_by (fun h0 => ?_) (fun h0 => ?_)
    · (repeat walk_at "rd")
      refine rd_lcR1 ?_
      (repeat walk_at "rd")
      refine rd_ixI (sq_of hd0) (by decide) (by show _ < (6 : Int); decide) ?_
      (repeat walk_at "rd")
      refine ⟨1 + d2 % 30, fun (j : Nat) => V.int ((d1 + 7 * (j : Int)) % 256), rfl, ⟨by omega, by omega⟩, fun j hj H' s' => ?_, ?_⟩
      · (repeat walk_at "rd")
        refine rd_ixI (sq_of (s' _ _ hd0)) (by decide) (by show _ < (6 : Int); decide) ?_
        (repeat walk_at "rd")
        exact (by walk_at "sm")
      intro pa H1 n1 s1 e1
      have e1' : H1 pa = some (.lst (((List.range (1 + d2 % 30).toNat).map fun (j : Nat) => (d1 + 7 * (j : Int)) % 256).map V.int)) := by
        rw [e1, List.map_map]
        rfl
      have hin : PkIn ((List.range (1 + d2 % 30).toNat).map fun (j : Nat) => (d1 + 7 * (j : Int)) % 256) := by
        refine ⟨?_, ?_, fun x hx => ?_⟩
        · rw [List.length_map, List.length_range]
          omega
        · rw [List.length_map, List.length_range]
          omega
        · obtain ⟨j, _, rfl⟩ := List.mem_map.mp hx
          omega
      clear e1
      generalize (List.range (1 + d2 % 30).toNat).map (fun (j : Nat) => (d1 + 7 * (j : Int)) % 256) = pk at *
      obtain ⟨B1, sB1, hB1, _, w1⟩ := w0.ro n1 s1 e1'
      have hp1 := w1.pre.mem (p := A1.p) (.head _)
      (repeat walk_at "rd")
      refine rd_list (sq_of e1') ?_
      intro pb H2 n2 s2 e2
      have w2 := w1.more s2
      (repeat walk_at "rd")
      refine op_Sender_put ⟨A1, m1, s', pb, pk, B1, rfl, w2.cellsL, sb1.mono sB1, e2, pkB_of hin, by omega, fun B3 H3 a3 w3' sb3 => ?_⟩
      have w3 := w2.call (lc := scells T.C_Sender A1 m1 s') w3'
      have hp2 := (w3.perm List.perm_append_comm).pre.mem (p := A2.p) (.head _)
      have hpa3 := w3.imm _ _ (w3'.grow _ _ hB1)
      (repeat walk_at "rd")
      refine rd_list (sq_of hpa3) ?_
      intro pc H4 n4 s4 e4
      have w4 := (w3.more s4).perm (l' := scells T.C_Sender A2 m2 s' ++ scells T.C_Sender A1 { m1 with wA := m1.wA ++ [a3] } { s' with wtg := s'.wtg ++ [pk] }) List.perm_append_comm
      (repeat walk_at "rd")
      refine op_Sender_put ⟨A2, m2, s', pc, pk, B3, rfl, w4.cellsL, (sb2.mono sB1).mono w3'.grow, e4, pkB_of hin, by omega, fun B5 H5 a5 w5' sb5 => ?_⟩
      have w5 := (w4.call (lc := scells T.C_Sender A2 m2 s') w5').perm (l' := two T.C_Sender A1 { m1 with wA := m1.wA ++ [a3] } A2 { m2 with wA := m2.wA ++ [a5] } { s' with wtg := s'.wtg ++ [pk] }) List.perm_append_comm
      (repeat walk_at "rd")
      refine q _ _ _ B5 H5 w5 (sb3.mono w5'.grow) sb5 (ok.put hin) ?_
      show (s'.wtg ++ [pk]).length ≤ _
      rw [List.length_append, List.length_singleton]
      omega
    (repeat walk_at "rd")
    refine rd_ixI (sq_of hd0) (by decide) (by show _ < (6 : Int); decide) ?_
    (repeat walk_at "rd")
    refine br_by (fun h1 => ?_) (fun h1 => ?_)
    · (repeat walk_at "rd")
      refine rd_ixI (sq_of hd0) (by decide) (by show _ < (6 : Int); decide) ?_
      (repeat walk_at "rd")
      refine op_Sender_has_piece ⟨A1, m1, s', d2, rfl, .of w0.pre sb1 ok.ks, ok, fun H1 s1 => ?_⟩
      have w1 := w0.more s1
      have hd1 := w1.imm _ _ hd
      have hp1 := w1.pre.mem (p := A1.p) (.head _)
      (repeat walk_at "rd")
      refine rd_ixI (sq_of hd1) (by decide) (by show _ < (6 : Int); decide) ?_
      (repeat walk_at "rd")
      refine op_Sender_has_piece ⟨A1, m1, s', d3, rfl, .of w1.pre sb1 ok.ks, ok, fun H2 s2 => ?_⟩
      have w2 := w1.more s2
      have hp1 := w2.pre.mem (p := A1.p) (.head _)
      (repeat walk_at "rd")
      refine op_Sender_send ⟨A1, m1, s', d2, B, rfl, w2.cellsL, sb1, ok, fun hs H3 s3 => ?_, fun dsp sP hs B3 m3 a3 H3 w3' sb3 na3 ha3 => ?_⟩
      · have w3 := (w2.more s3).perm (l' := scells T.C_Sender A2 m2 s' ++ scells T.C_Sender A1 m1 s') List.perm_append_comm
        have hp2 := w3.pre.mem (p := A2.p) (.head _)
        rw [SnS.has_is ok, hs]
        (repeat walk_at "rd")
        refine rd_isiBB ?_
        (repeat walk_at "rd")
        refine br_t rfl ?_
        (repeat walk_at "rd")
        refine op_Sender_send ⟨A2, m2, s', d2, B, rfl, w3.cellsL, sb2, ok, fun _ H4 s4 => ?_, fun dsp sP hs2 => ?_⟩
        · (repeat walk_at "rd")
          refine rd_eqS (n := 1) .none .non .non sh_non ?_
          exact q s' m1 m2 B H4 ((w3.more s4).perm List.perm_append_comm) sb1 sb2 ok (by omega)
        · rw [hs] at hs2
          cases hs2
      · have w3 := (w2.call (lc := scells T.C_Sender A1 m1 s') w3').perm (l' := scells T.C_Sender A2 m2 s' ++ scells T.C_Sender A1 m3 sP) List.perm_append_comm
        have hp2 := w3.pre.mem (p := A2.p) (.head _)
        rw [SnS.has_is ok, hs]
        (repeat walk_at "rd")
        refine rd_isiBB ?_
        (repeat walk_at "rd")
        refine br_t rfl ?_
        (repeat walk_at "rd")
        refine op_Sender_send ⟨A2, m2, s', d2, B3, rfl, w3.cellsL, sb2.mono w3'.grow, ok, fun hs2 => ?_, fun dsp2 sP2 hs2 B4 m4 a4 H4 w4' sb4 na4 ha4 => ?_⟩
        · rw [hs] at hs2
          cases hs2
        · rw [hs] at hs2
          cases hs2
          have w4 := (w3.call (lc := scells T.C_Sender A2 m2 s') w4').perm (l' := two T.C_Sender A1 m3 A2 m4 sP) List.perm_append_comm
          (repeat walk_at "rd")
          refine rd_eqI (sq_of (w4.imm _ _ ha4)) (sq_of (w4.imm _ _ (w4'.grow _ _ ha3))) ?_
          rw [decide_eq_true rfl]
          exact q sP m3 m4 B4 H4 w4 (sb3.mono w4'.grow) sb4 (ok.sendP hs) (by have := SnS.sendP_wl hs; omega)
    (repeat walk_at "rd")
    refine rd_ixI (sq_of hd0) (by decide) (by show _ < (6 : Int); decide) ?_
    (repeat walk_at "rd")
    refine br_eby (fun h2 => ?_) (fun h2 => ?_)
    · (repeat walk_at "rd")
      refine rd_ixI (sq_of hd0) (by decide) (by show _ < (6 : Int); decide) ?_
      (repeat walk_at "rd")
      refine rd_ixI (sq_of hd0) (by decide) (by show _ < (6 : Int); decide) ?_
      (repeat walk_at "rd")
      refine rd_ixI (sq_of hd0) (by decide) (by show _ < (6 : Int); decide) ?_
      (repeat walk_at "rd")
      refine rd_ixI (sq_of hd0) (by decide) (by show _ < (6 : Int); decide) ?_
      (repeat walk_at "rd")
      intro t1 H1 n1 s1 e1
      obtain ⟨B1, sB1, hB1, _, w1⟩ := w0.ro n1 s1 e1
      (repeat walk_at "rd")
      intro l1 H2 n2 s2 e2
      (repeat walk_at "rd")
      refine rd_ixI (sq_of (s2 _ _ (s1 _ _ hd0))) (by decide) (by show _ < (6 : Int); decide) ?_
      (repeat walk_at "rd")
      refine rd_sl (sq_of e2) ?_
      have hcut : ∃ (us : List Addr) (ms : List (Int × Int × Int)), cutV [V.ref t1] none (some (d4 % 2)) = us.map V.ref ∧ us.length = ms.length ∧ (∀ (i : Nat) (a : Addr) (r : Int × Int × Int), us[i]? = some a → ms[i]? = some r → B1 a = some (.tup (rowV r))) ∧ ms.length ≤ 1 ∧ ∀ x ∈ ms, x = (d1 % 8, d3 % 9, d3 % 9 + d4) := by
        rcases (by omega : d4 % 2 = 0 ∨ d4 % 2 = 1) with h | h
        · exact ⟨[], [], by rw [h]; rfl, rfl, fun i a r h1 _ => (nomatch h1), by decide, fun x hx => (nomatch hx)⟩
        · refine ⟨[t1], [(d1 % 8, d3 % 9, d3 % 9 + d4)], by rw [h]; rfl, rfl, fun i a r h1 h2 => ?_, Nat.le_refl _, fun x hx => List.mem_singleton.mp hx⟩
          cases i with
          | zero =>
            cases h1
            cases h2
            exact hB1
          | succ i => cases h1
      obtain ⟨us, ms, hcv, hul, hus, hml, hmb⟩ := hcut
      intro l2 H3 n3 s3 e3
      have e3 : H3 l2 = some (.lst (us.map V.ref)) := e3.trans (by rw [← hcv]; rfl)
      obtain ⟨B3, sB13, hB3, _, w3⟩ := (w1.more s2).ro n3 s3 e3
      have sB3 := sB1.trans sB13
      have hd3 := w3.imm _ _ (sB3 _ _ hd)
      have hp1 := w3.pre.mem (p := A1.p) (.head _)
      have hrow : ∀ (x : Int × Int × Int), x ∈ ms → (-1000000 ≤ x.2.1 ∧ x.2.1 ≤ 1000000) ∧ (-1000000 ≤ x.2.2 ∧ x.2.2 ≤ 1000000) := fun x hx => by
        rw [hmb x hx]
        show (-1000000 ≤ d3 % 9 ∧ d3 % 9 ≤ 1000000) ∧ (-1000000 ≤ d3 % 9 + d4 ∧ d3 % 9 + d4 ≤ 1000000)
        omega
      (repeat walk_at "rd")
      refine rd_ixI (sq_of hd3) (by decide) (by show _ < (6 : Int); decide) ?_
      (repeat walk_at "rd")
      refine rd_list (sq_of e3) ?_
      intro l4 H4 n4 s4 e4
      have w4 := w3.more s4
      (repeat walk_at "rd")
      refine op_Sender_take_status ⟨A1, m1, s', _, l4, ms, B3, rfl, w4.cellsL, sb1.mono sB3, ok, ⟨us, e4, hul, fun i a r h1 h2 => w4.imm _ _ (sB13 _ _ (hus i a r h1 h2))⟩, hrow, by omega, fun hs H5 s5 => ?_, fun nsp sP hs B5 m5 a5 H5 w5' sb5 na5 ha5 => ?_⟩
      · have w5 := (w4.more s5).perm (l' := scells T.C_Sender A2 m2 s' ++ scells T.C_Sender A1 m1 s') List.perm_append_comm
        have hp2 := w5.pre.mem (p := A2.p) (.head _)
        (repeat walk_at "rd")
        refine rd_list (sq_of (w5.imm _ _ hB3)) ?_
        intro l6 H6 n6 s6 e6
        have w6 := w5.more s6
        (repeat walk_at "rd")
        refine op_Sender_take_status ⟨A2, m2, s', _, l6, ms, B3, rfl, w6.cellsL, sb2.mono sB3, ok, ⟨us, e6, hul, fun i a r h1 h2 => w6.imm _ _ (sB13 _ _ (hus i a r h1 h2))⟩, hrow, by omega, fun hs2 H7 s7 => ?_, fun nsp sP hs2 => ?_⟩
        · (repeat walk_at "rd")
          refine rd_eqS (n := 1) .none .non .non sh_non ?_
          exact q s' m1 m2 B3 H7 ((w6.more s7).perm List.perm_append_comm) (sb1.mono sB3) (sb2.mono sB3) ok (by omega)
        · rw [hs] at hs2
          cases hs2
      · have w5 := (w4.call (lc := scells T.C_Sender A1 m1 s') w5').perm (l' := scells T.C_Sender A2 m2 s' ++ scells T.C_Sender A1 m5 sP) List.perm_append_comm
        have hp2 := w5.pre.mem (p := A2.p) (.head _)
        have sB5 := w5'.grow
        (repeat walk_at "rd")
        refine rd_list (sq_of (w5.imm _ _ (sB5 _ _ hB3))) ?_
        intro l6 H6 n6 s6 e6
        have w6 := w5.more s6
        (repeat walk_at "rd")
        refine op_Sender_take_status ⟨A2, m2, s', _, l6, ms, B5, rfl, w6.cellsL, sb2.mono (sB3.trans sB5), ok, ⟨us, e6, hul, fun i a r h1 h2 => w6.imm _ _ (sB5 _ _ (sB13 _ _ (hus i a r h1 h2)))⟩, hrow, by omega, fun hs2 => ?_, fun nsp2 sP2 hs2 B7 m7 a7 H7 w7' sb7 na7 ha7 => ?_⟩
        · rw [hs] at hs2
          cases hs2
        · rw [hs] at hs2
          cases hs2
          have w7 := (w6.call (lc := scells T.C_Sender A2 m2 s') w7').perm (l' := two T.C_Sender A1 m5 A2 m7 sP) List.perm_append_comm
          (repeat walk_at "rd")
          refine rd_eqI (sq_of (w7.imm _ _ (w7'.grow _ _ ha5))) (sq_of (w7.imm _ _ ha7)) ?_
          rw [decide_eq_true rfl]
          unfold SnS.statP at hs
          split at hs
          · cases hs
          · cases hs
            exact q _ m5 m7 B7 H7 w7 (sb5.mono w7'.grow) sb7 (ok.statS _ _) (show s'.wtg.length ≤ _ by omega)
    (repeat walk_at "rd")
    refine op_Sender_tick ⟨A1, m1, s', B, rfl, w0.cellsL, sb1, ok, fun B1 m3 H1 w1' sb3 => ?_⟩
    have w1 := (w0.call (lc := scells T.C_Sender A1 m1 s') w1').perm (l' := scells T.C_Sender A2 m2 s' ++ scells T.C_Sender A1 m3 s'.tck) List.perm_append_comm
    have hp2 := w1.pre.mem (p := A2.p) (.head _)
    (repeat walk_at "rd")
    refine op_Sender_tick ⟨A2, m2, s', B1, rfl, w1.cellsL, sb2.mono w1'.grow, ok, fun B2 m4 H2 w2' sb4 => ?_⟩
    have w2 := (w1.call (lc := scells T.C_Sender A2 m2 s') w2').perm (l' := two T.C_Sender A1 m3 A2 m4 s'.tck) List.perm_append_comm
    (repeat walk_at "rd")
    exact q _ m3 m4 B2 H2 w2 (sb3.mono w2'.grow) sb4 ok.tck (by have := SnS.tck_wl s'; omega)
def sp_law (K : PySem.W.Frag) : Sp := fun vs H Q _ => ∃ (a : Addr) (ns : List Int), vs = [.ref a] ∧ SqL K H a (ns.map V.int) ∧ ns.length ≤ 63 ∧ ∀ H', Q (.bl true) H'
@[irreducible] def ip_law (K : PySem.W.Frag) : Sp := sp_law K
theorem op_law {K : PySem.W.Frag} {vs : List V} {H : Hp} {Q : VK} {E : XK} (h : sp_law K vs H Q E) : ip_law K vs H Q E := by
  unfold ip_law
  exact h
theorem un_law {K : PySem.W.Frag} {vs : List V} {H : Hp} {Q : VK} {E : XK} (h : ip_law K vs H Q E) : sp_law K vs H Q E := by
  unfold ip_law at h
  exact h
theorem ok_law (T : Tx P w K mg base) : FnOk P w K mg base CX0 9 T.a_law T.d_law ["script"] (ip_law K) := by
  have G_Sender___init__ := ok_Sender___init__ T
  have G_u_law_digits := ok_u_law_digits T
  have G_u_law_many := ok_u_law_many T
  have G_u_law_both := ok_u_law_both T
  have G_Sender_is_idle := ok_Sender_is_idle T
  have G_u_law_cell := ok_u_law_cell T
  have G_Sender_unconfirmed := ok_Sender_unconfirmed T
  have G_Sender_waiting := ok_Sender_waiting T
  refine T.p_law.F.ok sc_law (fun vs H Q E h => ?_) (fun cdv A outer s H vs Q E hr h => ?_)
  · obtain ⟨a, ns, rfl, hS, hlen, q⟩ := un_law h
    rfl
  · obtain ⟨a, ns, rfl, hS, hlen, q⟩ := un_law h
    refine ⟨_, (pss_cons (ps_set (i := 1) sc_law.nd rfl (Or.inl rfl) (pe_op op_addM pe_int (pe_op op_modM (pe_callTy call_int1 (by rfl) T.n_int (by decide +kernel) (pa_cons (pe_call G_u_law_cell (hr.mono (by decide)) rfl T.p_u_law_cell.m T.p_u_law_cell.F.kp T.p_u_law_cell.b .nil pass0 (pa_cons (pv 0) (pa_cons pe_int pa_nil))) pa_nil)) pe_int))) (pss_cons (ps_set (i := 2) sc_law.nd rfl (Or.inl rfl) (pe_op op_addM pe_int (pe_op op_modM (pe_op op_fdivM (pe_callTy call_int1 (by rfl) T.n_int (by decide +kernel) (pa_cons (pe_call G_u_law_cell (hr.mono (by decide)) rfl T.p_u_law_cell.m T.p_u_law_cell.F.kp T.p_u_law_cell.b .nil pass0 (pa_cons (pv 0) (pa_cons pe_int pa_nil))) pa_nil)) pe_int) pe_int))) (pss_cons (ps_set (i := 3) sc_law.nd rfl (Or.inl rfl) (pe_make T.k_Sender.mk' G_Sender___init__ (hr.mono (by decide)) rfl T.g_Sender T.p_Sender___init__.b .nil passL (pa_cons (pv 1) (pa_cons (pv 2) pa_nil)))) (pss_cons (ps_set (i := 4) sc_law.nd rfl (Or.inl rfl) (pe_make T.k_Sender.mk' G_Sender___init__ (hr.mono (by decide)) rfl T.g_Sender T.p_Sender___init__.b .nil passL (pa_cons (pv 1) (pa_cons (pv 2) pa_nil)))) (pss_cons (ps_forR1 PassesOwn.never rfl rfl T.n_range (pa_cons (pe_callB (call_min2 rfl) (by rfl) T.n_min (by decide +kernel) (pa_cons (pe_callB call_lenM (by rfl) T.n_len PySem.boot_len (pa_cons (pv 0) pa_nil)) (pa_cons (pe_call G_u_law_many (hr.mono (by decide)) rfl T.p_u_law_many.m T.p_u_law_many.F.kp T.p_u_law_many.b .nil pass0 (pa_cons (pv 0) (pa_cons pe_int (pa_cons pe_int pa_nil)))) pa_nil))) pa_nil) (pg_name (i := 5) sc_law.nd rfl (Or.inl rfl)) (pss_cons (ps_set (i := 6) sc_law.nd rfl (Or.inl rfl) (pe_call G_u_law_digits (hr.mono (by decide)) rfl T.p_u_law_digits.m T.p_u_law_digits.F.kp T.p_u_law_digits.b .nil pass0 (pa_cons (pe_op op_addM (pe_call G_u_law_cell (hr.mono (by decide)) rfl T.p_u_law_cell.m T.p_u_law_cell.F.kp T.p_u_law_cell.b .nil pass0 (pa_cons (pv 0) (pa_cons (pv 5) pa_nil))) (pe_op op_mulM pe_int (pv 5))) (pa_cons (pe_lstM (pa_cons pe_int (pa_cons pe_int (pa_cons pe_int (pa_cons pe_int (pa_cons pe_int (pa_cons pe_int pa_nil))))))) pa_nil)))) (pss_cons (ps_ifM (pt_not (pt_val (pe_call G_u_law_both (hr.mono (by decide)) rfl T.p_u_law_both.m T.p_u_law_both.F.kp T.p_u_law_both.b .nil pass0 (pa_cons (pv 3) (pa_cons (pv 4) (pa_cons (pv 6) pa_nil)))))) (pss_one (ps_ret pe_bl)) pss_nil) (pss_cons (ps_ifM (PW.pt (pw_orM (pt_cmpR (op_neDM hr.units) (meth_weak (pe_meth0 (pe_c (pv 3)) T.k_Sender.cl T.p_Sender_unconfirmed.me G_Sender_unconfirmed (hr.mono (by decide)) T.p_Sender_unconfirmed.b .nil pass0)) (meth_weak (pe_meth0 (pe_c (pv 4)) T.k_Sender.cl T.p_Sender_unconfirmed.me G_Sender_unconfirmed (hr.mono (by decide)) T.p_Sender_unconfirmed.b .nil pass0)) (nomark _)) (pw_or1 (pt_cmpR (op_neDM hr.units) (meth_weak (pe_meth0 (pe_c (pv 3)) T.k_Sender.cl T.p_Sender_waiting.me G_Sender_waiting (hr.mono (by decide)) T.p_Sender_waiting.b .nil pass0)) (meth_weak (pe_meth0 (pe_c (pv 4)) T.k_Sender.cl T.p_Sender_waiting.me G_Sender_waiting (hr.mono (by decide)) T.p_Sender_waiting.b .nil pass0)) (nomark _))))) (pss_one (ps_ret pe_bl)) pss_nil) (pss_one (ps_ifM (pt_cmpR op_ne (meth_weak (pe_meth0 (pe_c (pv 3)) T.k_Sender.cl T.p_Sender_is_idle.me G_Sender_is_idle (hr.mono (by decide)) T.p_Sender_is_idle.b .nil pass0)) (meth_weak (pe_meth0 (pe_c (pv 4)) T.k_Sender.cl T.p_Sender_is_idle.me G_Sender_is_idle (hr.mono (by decide)) T.p_Sender_is_idle.b .nil pass0)) (nomark _)) (pss_one (ps_ret pe_bl)) pss_nil)))))) (pss_one (ps_ret pe_bl))))))), ?_⟩
    (repeat walk_at "rd")
    refine op_u_law_cell ⟨a, ns, 0, rfl, hS, by omega, ?_⟩
    (repeat walk_at "rd")
    refine op_u_law_cell ⟨a, ns, 0, rfl, hS, by omega, ?_⟩
    (repeat walk_at "rd")
    generalize hbits : 3 + ns.getD (Int.toNat 0) 0 % 4 = bits
    generalize hwin : 1 + ns.getD (Int.toNat 0) 0 / 4 % 4 = win
    have hb : 3 ≤ bits ∧ bits ≤ 6 := by omega
    have hw : 1 ≤ win ∧ win ≤ 2 ^ (bits - 1).toNat := by
      have h1 : 1 ≤ win ∧ win ≤ 4 := by omega
      have h2 : (4 : Int) ≤ 2 ^ (bits - 1).toNat := by
        rcases (by omega : bits = 3 ∨ bits = 4 ∨ bits = 5 ∨ bits = 6) with h | h | h | h <;> subst h <;> decide
      omega
    have hs0 : ∀ m : SnM, m.bp = [] → m.wA = [] → m.kA = [] → SnB H m (sn0 bits win) := fun m e1 e2 e3 => ⟨by rw [e1]; rfl, by rw [e1]; exact fun x hx => (nomatch hx), by rw [e2]; rfl, fun i b x h1 h2 => (nomatch h2), by rw [e3]; rfl, fun i b x h1 h2 => (nomatch h2)⟩
    have ok0 : SnOk (sn0 bits win) := ⟨hb, (by show 1 ≤ win ∧ win ≤ 32; omega), rfl, .nil, fun k hk => (nomatch hk), rfl, (by show (0 : Int) ≤ 0 + win; omega), Int.le_refl _, fun x hx => (nomatch hx), fun x hx => (nomatch hx), fun n v pk hv => (nomatch hv), fun x hx => (nomatch hx), Nat.zero_le _⟩
    intro p1 dx1 nx1 ndx1 nxd1
    have w1 : Own H H [] H [(p1, .ins T.C_Sender dx1 [])] _ := (Own.mk0 (H := H)).add nx1 ((same_upd (o := .own p1) ndx1).trans (same_upd (by rw [upd_ne (Ne.symm nxd1)]; exact nx1))) (upd_same (o := .ins T.C_Sender dx1 []))
    refine op_Sender___init__ ⟨p1, dx1, bits, win, H, rfl, hb, hw, w1.cellsL (lc := [(p1, .ins T.C_Sender dx1 [])]), fun A1 m1 H2 ep1 eb1 ew1 ek1 w2' => ?_⟩
    subst ep1
    have w2 : Own H H [] H (scells T.C_Sender A1 m1 (sn0 bits win)) H2 := w1.call0 w2'
    refine ⟨rfl, ?_⟩
    (repeat walk_at "rd")
    intro p2 dx2 nx2 ndx2 nxd2
    have w3 : Own H H [] H ([(p2, .ins T.C_Sender dx2 [])] ++ scells T.C_Sender A1 m1 (sn0 bits win)) _ := w2.add nx2 ((same_upd (o := .own p2) ndx2).trans (same_upd (by rw [upd_ne (Ne.symm nxd2)]; exact nx2))) (upd_same (o := .ins T.C_Sender dx2 []))
    refine op_Sender___init__ ⟨p2, dx2, bits, win, H, rfl, hb, hw, w3.cellsL (lc := [(p2, .ins T.C_Sender dx2 [])]), fun A2 m2 H4 ep2 eb2 ew2 ek2 w4' => ?_⟩
    subst ep2
    have w4 : Own H H [] H (two T.C_Sender A1 m1 A2 m2 (sn0 bits win)) H4 := (w3.call (lc := [(A2.p, .ins T.C_Sender dx2 [])]) w4').perm List.perm_append_comm
    refine ⟨rfl, ?_⟩
    have sb1 := hs0 m1 eb1 ew1 ek1
    have sb2 := hs0 m2 eb2 ew2 ek2
    clear w1 w2 w2' w3 w4' hs0 eb1 ew1 ek1 eb2 ew2 ek2 hw hbits hwin
    (repeat walk_at "rd")
    refine rd_forR1 ?_
    (repeat walk_at "rd")
    refine op_u_law_many ⟨a, ns, 20, 60, rfl, w4.imm.seq hS, fun z hz => ?_⟩
    (repeat walk_at "rd")
    refine ⟨_, _, rfl, ?_⟩
    (repeat walk_at "rd")
    refine ⟨_, fun i σ H' => Stop (∃ (B : Hp) (s : SnS) (m1 m2 : SnM) (x5 x6 : Option V), Own H H [] B (two T.C_Sender A1 m1 A2 m2 s) H' ∧ SnB B m1 s ∧ SnB B m2 s ∧ SnOk s ∧ s.wtg.length ≤ i ∧
      σ = [some (.ref a), some (.int bits), some (.int win), some (.ref A1.p), some (.ref A2.p), x5, x6]), rfl, ⟨by split <;> omega, by split <;> omega⟩, .a ⟨H, _, m1, m2, _, _, w4, sb1, sb2, ok0, Nat.zero_le _, rfl⟩, fun i σ' H' hi w => ?_, fun σ' H' w => ?_⟩
    · obtain ⟨B, s, m1, m2, x5, x6, w0, sb1, sb2, ok, hwl, rfl⟩ := w.un
      have hib : i ≤ 100 := by
        have : (if z < (ns.length : Int) then z else (ns.length : Int)).toNat ≤ 63 := by split <;> omega
        omega
      clear w w4 hi
      have hS0 := (w0.grow.trans w0.imm).seq hS
      (repeat walk_at "rd")
      refine op_u_law_cell ⟨a, ns, _, rfl, hS0, (by omega), ?_⟩
      (repeat walk_at "rd")
      intro t1 H5 n5 s5 e5
      (repeat walk_at "rd")
      refine op_u_law_digits ⟨_, t1, [8, 256, 41, 41, 6, 64], rfl, sq_of e5, (by decide), (by decide), fun ds hd d H6 n6 s6 e6 => ?_⟩
      obtain ⟨B6, sB6, hB6, _, w6⟩ := (w0.more s5).ro n6 s6 e6
      (repeat walk_at "rd")
      refine op_u_law_both ⟨A1, m1, A2, m2, s, d, ds, B6, rfl, w6.cellsL (lr := []), sb1.mono sB6, sb2.mono sB6, ok, by omega, hB6, hd, fun s7 m7 m8 B7 H7 w7' sb7 sb8 ok7 hwl7 => ?_⟩
      have w7 := w6.call0 w7'
      have ra1 : SnAt T.C_Sender A1 m7 s7 H7 := .of w7.pre sb7 ok7.ks
      have ra2 : SnAt T.C_Sender A2 m8 s7 H7 := .of (w7.perm (l' := scells T.C_Sender A2 m8 s7 ++ scells T.C_Sender A1 m7 s7) List.perm_append_comm).pre sb8 ok7.ks
      have hp1 := ra1.i
      (repeat walk_at "rd")
      refine op_Sender_unconfirmed ⟨A1, m7, s7, rfl, ra1, ok7, fun D9 ts9 qs9 H9 hD9 io9 => ?_⟩
      have ra29 := ra2.mono io9.sm
      have hp2 := ra29.i
      (repeat walk_at "rd")
      refine op_Sender_unconfirmed ⟨A2, m8, s7, rfl, ra29, ok7, fun D10 ts10 qs10 H10 hD10 io10 => ?_⟩
      refine rd_neS (kxD s7.bgn) (.lst (sq_of (io10.sm _ _ io9.at')) (io9.ls.mono io10.sm).dps) io10.dp (sh_kx (n := 1) _) ?_
      have s9 := io9.sm.trans io10.sm
      have ra111 := ra1.mono s9
      have hp1 := ra111.i
      (repeat walk_at "rd")
      refine op_Sender_waiting ⟨A1, m7, s7, rfl, ra111, by omega, fun D11 qs11 H11 hD11 cp11 => ?_⟩
      have ra211 := (ra2.mono s9).mono cp11.sm
      have hp2 := ra211.i
      (repeat walk_at "rd")
      refine op_Sender_waiting ⟨A2, m8, s7, rfl, ra211, by omega, fun D12 qs12 H12 hD12 cp12 => ?_⟩
      refine rd_neLL (sq_of (cp12.sm _ _ cp11.at')) (cp11.ls.mono cp12.sm) (sq_of cp12.at') cp12.ls ?_
      rw [decide_eq_true (p := s7.wtg = s7.wtg) rfl]
      have ra113 := (ra111.mono cp11.sm).mono cp12.sm
      have ra213 := ra211.mono cp12.sm
      have hp1 := ra113.i
      have hp2 := ra213.i
      (repeat walk_at "rd")
      refine op_Sender_is_idle ⟨A1, m7, s7, rfl, ra113, ?_⟩
      (repeat walk_at "rd")
      refine op_Sender_is_idle ⟨A2, m8, s7, rfl, ra213, ?_⟩
      (repeat walk_at "rd")
      refine br_nf rfl ?_
      exact .a ⟨B7, s7, m7, m8, _, _, w7.more (s9.trans (cp11.sm.trans cp12.sm)), sb7, sb8, ok7, by omega, rfl⟩
    · obtain ⟨B, s, m1, m2, x5, x6, w0, sb1, sb2, ok, hwl, rfl⟩ := w.un
      (repeat walk_at "rd")
      exact q _
end
end My
namespace My
open PySem L2
theorem all_mk {P : Program} {w : World} {K : PySem.W.Frag} {h : Heap} {mg : Str → Option Value} {fa : Addr} (X : K.In h) (G : h.Ns mainGlobals mg) (hfa : mg "law" = some (.ref fa))
    {tk_LEAST_BITS : Tok}
    {tk_GREATEST_BITS : Tok}
    {tk_MOST_BYTES : Tok}
    {tk_DATA : Tok}
    {tk_WHOLE : Tok}
    {tk_BEGINNING : Tok}
    {tk_END : Tok}
    {tk_WITHIN : Tok}
    {tk_PATIENCE : Tok}
    {C_BearerError : Addr}
    {C_NotValid : Addr}
    {C_Sender : Addr}
    {f_BearerError___init__ : Addr} {od_BearerError___init__ an_BearerError___init__ : Option Addr} {sl_BearerError___init__ : Array (Option Value)} {oc_BearerError___init__ kV_BearerError___init__ dc_BearerError___init__ pm_BearerError___init__ cd_BearerError___init__ ct_BearerError___init__ : Value}
    {f_is_between : Addr} {od_is_between an_is_between : Option Addr} {sl_is_between : Array (Option Value)} {oc_is_between kV_is_between dc_is_between pm_is_between cd_is_between ct_is_between : Value}
    {f_check_bits : Addr} {od_check_bits an_check_bits : Option Addr} {sl_check_bits : Array (Option Value)} {oc_check_bits kV_check_bits dc_check_bits pm_check_bits cd_check_bits ct_check_bits : Value}
    {f_is_packet : Addr} {od_is_packet an_is_packet : Option Addr} {sl_is_packet : Array (Option Value)} {oc_is_packet kV_is_packet dc_is_packet pm_is_packet cd_is_packet ct_is_packet : Value}
    {f_true_rows : Addr} {od_true_rows an_true_rows : Option Addr} {sl_true_rows : Array (Option Value)} {oc_true_rows kV_true_rows dc_true_rows pm_true_rows cd_true_rows ct_true_rows : Value}
    {f_field_bytes : Addr} {od_field_bytes an_field_bytes : Option Addr} {sl_field_bytes : Array (Option Value)} {oc_field_bytes kV_field_bytes dc_field_bytes pm_field_bytes cd_field_bytes ct_field_bytes : Value}
    {f_pack : Addr} {od_pack an_pack : Option Addr} {sl_pack : Array (Option Value)} {oc_pack kV_pack dc_pack pm_pack cd_pack ct_pack : Value}
    {f_window_size : Addr} {od_window_size an_window_size : Option Addr} {sl_window_size : Array (Option Value)} {oc_window_size kV_window_size dc_window_size pm_window_size cd_window_size ct_window_size : Value}
    {f_short : Addr} {od_short an_short : Option Addr} {sl_short : Array (Option Value)} {oc_short kV_short dc_short pm_short cd_short ct_short : Value}
    {f_distance : Addr} {od_distance an_distance : Option Addr} {sl_distance : Array (Option Value)} {oc_distance kV_distance dc_distance pm_distance cd_distance ct_distance : Value}
    {f_read_short : Addr} {od_read_short an_read_short : Option Addr} {sl_read_short : Array (Option Value)} {oc_read_short kV_read_short dc_read_short pm_read_short cd_read_short ct_read_short : Value}
    {f_u_has_offset : Addr} {od_u_has_offset an_u_has_offset : Option Addr} {sl_u_has_offset : Array (Option Value)} {oc_u_has_offset kV_u_has_offset dc_u_has_offset pm_u_has_offset cd_u_has_offset ct_u_has_offset : Value}
    {f_u_data_widths : Addr} {od_u_data_widths an_u_data_widths : Option Addr} {sl_u_data_widths : Array (Option Value)} {oc_u_data_widths kV_u_data_widths dc_u_data_widths pm_u_data_widths cd_u_data_widths ct_u_data_widths : Value}
    {f_data_piece : Addr} {od_data_piece an_data_piece : Option Addr} {sl_data_piece : Array (Option Value)} {oc_data_piece kV_data_piece dc_data_piece pm_data_piece cd_data_piece ct_data_piece : Value}
    {f_u_part_of : Addr} {od_u_part_of an_u_part_of : Option Addr} {sl_u_part_of : Array (Option Value)} {oc_u_part_of kV_u_part_of dc_u_part_of pm_u_part_of cd_u_part_of ct_u_part_of : Value}
    {f_cut : Addr} {od_cut an_cut : Option Addr} {sl_cut : Array (Option Value)} {oc_cut kV_cut dc_cut pm_cut cd_cut ct_cut : Value}
    {f_u_rows_told : Addr} {od_u_rows_told an_u_rows_told : Option Addr} {sl_u_rows_told : Array (Option Value)} {oc_u_rows_told kV_u_rows_told dc_u_rows_told pm_u_rows_told cd_u_rows_told ct_u_rows_told : Value}
    {f_Sender___init__ : Addr} {od_Sender___init__ an_Sender___init__ : Option Addr} {sl_Sender___init__ : Array (Option Value)} {oc_Sender___init__ kV_Sender___init__ dc_Sender___init__ pm_Sender___init__ cd_Sender___init__ ct_Sender___init__ : Value}
    {f_Sender_put : Addr} {od_Sender_put an_Sender_put : Option Addr} {sl_Sender_put : Array (Option Value)} {oc_Sender_put kV_Sender_put dc_Sender_put pm_Sender_put cd_Sender_put ct_Sender_put : Value}
    {f_Sender__first_left : Addr} {od_Sender__first_left an_Sender__first_left : Option Addr} {sl_Sender__first_left : Array (Option Value)} {oc_Sender__first_left kV_Sender__first_left dc_Sender__first_left pm_Sender__first_left cd_Sender__first_left ct_Sender__first_left : Value}
    {f_Sender__packet : Addr} {od_Sender__packet an_Sender__packet : Option Addr} {sl_Sender__packet : Array (Option Value)} {oc_Sender__packet kV_Sender__packet dc_Sender__packet pm_Sender__packet cd_Sender__packet ct_Sender__packet : Value}
    {f_Sender__count_sent : Addr} {od_Sender__count_sent an_Sender__count_sent : Option Addr} {sl_Sender__count_sent : Array (Option Value)} {oc_Sender__count_sent kV_Sender__count_sent dc_Sender__count_sent pm_Sender__count_sent cd_Sender__count_sent ct_Sender__count_sent : Value}
    {f_Sender_send : Addr} {od_Sender_send an_Sender_send : Option Addr} {sl_Sender_send : Array (Option Value)} {oc_Sender_send kV_Sender_send dc_Sender_send pm_Sender_send cd_Sender_send ct_Sender_send : Value}
    {f_Sender_has_piece : Addr} {od_Sender_has_piece an_Sender_has_piece : Option Addr} {sl_Sender_has_piece : Array (Option Value)} {oc_Sender_has_piece kV_Sender_has_piece dc_Sender_has_piece pm_Sender_has_piece cd_Sender_has_piece ct_Sender_has_piece : Value}
    {f_Sender_take_status : Addr} {od_Sender_take_status an_Sender_take_status : Option Addr} {sl_Sender_take_status : Array (Option Value)} {oc_Sender_take_status kV_Sender_take_status dc_Sender_take_status pm_Sender_take_status cd_Sender_take_status ct_Sender_take_status : Value}
    {f_Sender__forget : Addr} {od_Sender__forget an_Sender__forget : Option Addr} {sl_Sender__forget : Array (Option Value)} {oc_Sender__forget kV_Sender__forget dc_Sender__forget pm_Sender__forget cd_Sender__forget ct_Sender__forget : Value}
    {f_Sender__ask : Addr} {od_Sender__ask an_Sender__ask : Option Addr} {sl_Sender__ask : Array (Option Value)} {oc_Sender__ask kV_Sender__ask dc_Sender__ask pm_Sender__ask cd_Sender__ask ct_Sender__ask : Value}
    {f_Sender_tick : Addr} {od_Sender_tick an_Sender_tick : Option Addr} {sl_Sender_tick : Array (Option Value)} {oc_Sender_tick kV_Sender_tick dc_Sender_tick pm_Sender_tick cd_Sender_tick ct_Sender_tick : Value}
    {f_Sender_unconfirmed : Addr} {od_Sender_unconfirmed an_Sender_unconfirmed : Option Addr} {sl_Sender_unconfirmed : Array (Option Value)} {oc_Sender_unconfirmed kV_Sender_unconfirmed dc_Sender_unconfirmed pm_Sender_unconfirmed cd_Sender_unconfirmed ct_Sender_unconfirmed : Value}
    {f_Sender_waiting : Addr} {od_Sender_waiting an_Sender_waiting : Option Addr} {sl_Sender_waiting : Array (Option Value)} {oc_Sender_waiting kV_Sender_waiting dc_Sender_waiting pm_Sender_waiting cd_Sender_waiting ct_Sender_waiting : Value}
    {f_Sender_is_idle : Addr} {od_Sender_is_idle an_Sender_is_idle : Option Addr} {sl_Sender_is_idle : Array (Option Value)} {oc_Sender_is_idle kV_Sender_is_idle dc_Sender_is_idle pm_Sender_is_idle cd_Sender_is_idle ct_Sender_is_idle : Value}
    {f_u_law_cell : Addr} {od_u_law_cell an_u_law_cell : Option Addr} {sl_u_law_cell : Array (Option Value)} {oc_u_law_cell kV_u_law_cell dc_u_law_cell pm_u_law_cell cd_u_law_cell ct_u_law_cell : Value}
    {f_u_law_digits : Addr} {od_u_law_digits an_u_law_digits : Option Addr} {sl_u_law_digits : Array (Option Value)} {oc_u_law_digits kV_u_law_digits dc_u_law_digits pm_u_law_digits cd_u_law_digits ct_u_law_digits : Value}
    {f_u_law_many : Addr} {od_u_law_many an_u_law_many : Option Addr} {sl_u_law_many : Array (Option Value)} {oc_u_law_many kV_u_law_many dc_u_law_many pm_u_law_many cd_u_law_many ct_u_law_many : Value}
    {f_u_law_both : Addr} {od_u_law_both an_u_law_both : Option Addr} {sl_u_law_both : Array (Option Value)} {oc_u_law_both kV_u_law_both dc_u_law_both pm_u_law_both cd_u_law_both ct_u_law_both : Value}
    {f_law : Addr} {od_law an_law : Option Addr} {sl_law : Array (Option Value)} {oc_law kV_law dc_law pm_law cd_law ct_law : Value}
    {nm_BearerError q_BearerError : Str} {N_BearerError : Addr} {bs_BearerError bm_BearerError : List Value} {sn_BearerError : List Str} {sub_BearerError : List Value} {ab_BearerError : Bool} {col_BearerError : Option Bool} {dd_BearerError : Option Addr} {m0_BearerError m1_BearerError m2_BearerError m3_BearerError m5_BearerError : Option Value}
    {nm_NotValid q_NotValid : Str} {N_NotValid : Addr} {bs_NotValid bm_NotValid : List Value} {sn_NotValid : List Str} {sub_NotValid : List Value} {ab_NotValid : Bool} {col_NotValid : Option Bool} {dd_NotValid : Option Addr} {m0_NotValid m1_NotValid m2_NotValid m3_NotValid m5_NotValid : Option Value}
    (z_all : PySem.W.nsIn K mainGlobals "all" = some none)
    (z_len : PySem.W.nsIn K mainGlobals "len" = some none)
    (z_range : PySem.W.nsIn K mainGlobals "range" = some none)
    (z_int : PySem.W.nsIn K mainGlobals "int" = some none)
    (z_sum : PySem.W.nsIn K mainGlobals "sum" = some none)
    (z_zip : PySem.W.nsIn K mainGlobals "zip" = some none)
    (z_min : PySem.W.nsIn K mainGlobals "min" = some none)
    (z_max : PySem.W.nsIn K mainGlobals "max" = some none)
    (z_isinstance : PySem.W.nsIn K mainGlobals "isinstance" = some none)
    (z_list : PySem.W.nsIn K mainGlobals "list" = some none)
    (z_bool : PySem.W.nsIn K mainGlobals "bool" = some none)
    (z_enumerate : PySem.W.nsIn K mainGlobals "enumerate" = some none)
    (z_sorted : PySem.W.nsIn K mainGlobals "sorted" = some none)
    (z_LEAST_BITS : PySem.W.nsIn K mainGlobals "LEAST_BITS" = some (some (.int 3 tk_LEAST_BITS)))
    (z_GREATEST_BITS : PySem.W.nsIn K mainGlobals "GREATEST_BITS" = some (some (.int 6 tk_GREATEST_BITS)))
    (z_MOST_BYTES : PySem.W.nsIn K mainGlobals "MOST_BYTES" = some (some (.int 200 tk_MOST_BYTES)))
    (z_DATA : PySem.W.nsIn K mainGlobals "DATA" = some (some (.int 0 tk_DATA)))
    (z_WHOLE : PySem.W.nsIn K mainGlobals "WHOLE" = some (some (.int 0 tk_WHOLE)))
    (z_BEGINNING : PySem.W.nsIn K mainGlobals "BEGINNING" = some (some (.int 1 tk_BEGINNING)))
    (z_END : PySem.W.nsIn K mainGlobals "END" = some (some (.int 2 tk_END)))
    (z_WITHIN : PySem.W.nsIn K mainGlobals "WITHIN" = some (some (.int 3 tk_WITHIN)))
    (z_PATIENCE : PySem.W.nsIn K mainGlobals "PATIENCE" = some (some (.int 4 tk_PATIENCE)))
    (z_BearerError : PySem.W.nsIn K mainGlobals "BearerError" = some (some (.ref C_BearerError)))
    (z_NotValid : PySem.W.nsIn K mainGlobals "NotValid" = some (some (.ref C_NotValid)))
    (z_Sender : PySem.W.nsIn K mainGlobals "Sender" = some (some (.ref C_Sender)))
    (a_BearerError___init__ : PySem.W.findIn K (.ref C_BearerError) "__init__" = some (some (.ref f_BearerError___init__)))
    (i_BearerError___init__ : PySem.W.isFn K (.ref f_BearerError___init__) = true)
    (l_BearerError___init__ : K.lookup f_BearerError___init__ = some ⟨oc_BearerError___init__, od_BearerError___init__, .func (PySem.W.fnOf "__init__" "BearerError.__init__" (defArgs S_BearerError___init__) (defBody S_BearerError___init__) (defScope S_BearerError___init__) .none kV_BearerError___init__ dc_BearerError___init__ pm_BearerError___init__ an_BearerError___init__ cd_BearerError___init__ ct_BearerError___init__), sl_BearerError___init__⟩)
    (c_BearerError___init__ : PySem.W.codeIn K cd_BearerError___init__ "BearerError.__init__" = true)
    (k_BearerError___init__ : PySem.W.keepIn K (.ref f_BearerError___init__) = true)
    (a_is_between : PySem.W.nsIn K mainGlobals "is_between" = some (some (.ref f_is_between)))
    (l_is_between : K.lookup f_is_between = some ⟨oc_is_between, od_is_between, .func (PySem.W.fnOf "is_between" "is_between" (defArgs S_is_between) (defBody S_is_between) (defScope S_is_between) .none kV_is_between dc_is_between pm_is_between an_is_between cd_is_between ct_is_between), sl_is_between⟩)
    (c_is_between : PySem.W.codeIn K cd_is_between "is_between" = true)
    (k_is_between : PySem.W.keepIn K (.ref f_is_between) = true)
    (a_check_bits : PySem.W.nsIn K mainGlobals "check_bits" = some (some (.ref f_check_bits)))
    (l_check_bits : K.lookup f_check_bits = some ⟨oc_check_bits, od_check_bits, .func (PySem.W.fnOf "check_bits" "check_bits" (defArgs S_check_bits) (defBody S_check_bits) (defScope S_check_bits) .none kV_check_bits dc_check_bits pm_check_bits an_check_bits cd_check_bits ct_check_bits), sl_check_bits⟩)
    (c_check_bits : PySem.W.codeIn K cd_check_bits "check_bits" = true)
    (k_check_bits : PySem.W.keepIn K (.ref f_check_bits) = true)
    (a_is_packet : PySem.W.nsIn K mainGlobals "is_packet" = some (some (.ref f_is_packet)))
    (l_is_packet : K.lookup f_is_packet = some ⟨oc_is_packet, od_is_packet, .func (PySem.W.fnOf "is_packet" "is_packet" (defArgs S_is_packet) (defBody S_is_packet) (defScope S_is_packet) .none kV_is_packet dc_is_packet pm_is_packet an_is_packet cd_is_packet ct_is_packet), sl_is_packet⟩)
    (c_is_packet : PySem.W.codeIn K cd_is_packet "is_packet" = true)
    (k_is_packet : PySem.W.keepIn K (.ref f_is_packet) = true)
    (a_true_rows : PySem.W.nsIn K mainGlobals "true_rows" = some (some (.ref f_true_rows)))
    (l_true_rows : K.lookup f_true_rows = some ⟨oc_true_rows, od_true_rows, .func (PySem.W.fnOf "true_rows" "true_rows" (defArgs S_true_rows) (defBody S_true_rows) (defScope S_true_rows) .none kV_true_rows dc_true_rows pm_true_rows an_true_rows cd_true_rows ct_true_rows), sl_true_rows⟩)
    (c_true_rows : PySem.W.codeIn K cd_true_rows "true_rows" = true)
    (k_true_rows : PySem.W.keepIn K (.ref f_true_rows) = true)
    (a_field_bytes : PySem.W.nsIn K mainGlobals "field_bytes" = some (some (.ref f_field_bytes)))
    (l_field_bytes : K.lookup f_field_bytes = some ⟨oc_field_bytes, od_field_bytes, .func (PySem.W.fnOf "field_bytes" "field_bytes" (defArgs S_field_bytes) (defBody S_field_bytes) (defScope S_field_bytes) .none kV_field_bytes dc_field_bytes pm_field_bytes an_field_bytes cd_field_bytes ct_field_bytes), sl_field_bytes⟩)
    (c_field_bytes : PySem.W.codeIn K cd_field_bytes "field_bytes" = true)
    (k_field_bytes : PySem.W.keepIn K (.ref f_field_bytes) = true)
    (a_pack : PySem.W.nsIn K mainGlobals "pack" = some (some (.ref f_pack)))
    (l_pack : K.lookup f_pack = some ⟨oc_pack, od_pack, .func (PySem.W.fnOf "pack" "pack" (defArgs S_pack) (defBody S_pack) (defScope S_pack) .none kV_pack dc_pack pm_pack an_pack cd_pack ct_pack), sl_pack⟩)
    (c_pack : PySem.W.codeIn K cd_pack "pack" = true)
    (k_pack : PySem.W.keepIn K (.ref f_pack) = true)
    (a_window_size : PySem.W.nsIn K mainGlobals "window_size" = some (some (.ref f_window_size)))
    (l_window_size : K.lookup f_window_size = some ⟨oc_window_size, od_window_size, .func (PySem.W.fnOf "window_size" "window_size" (defArgs S_window_size) (defBody S_window_size) (defScope S_window_size) .none kV_window_size dc_window_size pm_window_size an_window_size cd_window_size ct_window_size), sl_window_size⟩)
    (c_window_size : PySem.W.codeIn K cd_window_size "window_size" = true)
    (k_window_size : PySem.W.keepIn K (.ref f_window_size) = true)
    (a_short : PySem.W.nsIn K mainGlobals "short" = some (some (.ref f_short)))
    (l_short : K.lookup f_short = some ⟨oc_short, od_short, .func (PySem.W.fnOf "short" "short" (defArgs S_short) (defBody S_short) (defScope S_short) .none kV_short dc_short pm_short an_short cd_short ct_short), sl_short⟩)
    (c_short : PySem.W.codeIn K cd_short "short" = true)
    (k_short : PySem.W.keepIn K (.ref f_short) = true)
    (a_distance : PySem.W.nsIn K mainGlobals "distance" = some (some (.ref f_distance)))
    (l_distance : K.lookup f_distance = some ⟨oc_distance, od_distance, .func (PySem.W.fnOf "distance" "distance" (defArgs S_distance) (defBody S_distance) (defScope S_distance) .none kV_distance dc_distance pm_distance an_distance cd_distance ct_distance), sl_distance⟩)
    (c_distance : PySem.W.codeIn K cd_distance "distance" = true)
    (k_distance : PySem.W.keepIn K (.ref f_distance) = true)
    (a_read_short : PySem.W.nsIn K mainGlobals "read_short" = some (some (.ref f_read_short)))
    (l_read_short : K.lookup f_read_short = some ⟨oc_read_short, od_read_short, .func (PySem.W.fnOf "read_short" "read_short" (defArgs S_read_short) (defBody S_read_short) (defScope S_read_short) .none kV_read_short dc_read_short pm_read_short an_read_short cd_read_short ct_read_short), sl_read_short⟩)
    (c_read_short : PySem.W.codeIn K cd_read_short "read_short" = true)
    (k_read_short : PySem.W.keepIn K (.ref f_read_short) = true)
    (a_u_has_offset : PySem.W.nsIn K mainGlobals "_has_offset" = some (some (.ref f_u_has_offset)))
    (l_u_has_offset : K.lookup f_u_has_offset = some ⟨oc_u_has_offset, od_u_has_offset, .func (PySem.W.fnOf "_has_offset" "_has_offset" (defArgs S_u_has_offset) (defBody S_u_has_offset) (defScope S_u_has_offset) .none kV_u_has_offset dc_u_has_offset pm_u_has_offset an_u_has_offset cd_u_has_offset ct_u_has_offset), sl_u_has_offset⟩)
    (c_u_has_offset : PySem.W.codeIn K cd_u_has_offset "_has_offset" = true)
    (k_u_has_offset : PySem.W.keepIn K (.ref f_u_has_offset) = true)
    (a_u_data_widths : PySem.W.nsIn K mainGlobals "_data_widths" = some (some (.ref f_u_data_widths)))
    (l_u_data_widths : K.lookup f_u_data_widths = some ⟨oc_u_data_widths, od_u_data_widths, .func (PySem.W.fnOf "_data_widths" "_data_widths" (defArgs S_u_data_widths) (defBody S_u_data_widths) (defScope S_u_data_widths) .none kV_u_data_widths dc_u_data_widths pm_u_data_widths an_u_data_widths cd_u_data_widths ct_u_data_widths), sl_u_data_widths⟩)
    (c_u_data_widths : PySem.W.codeIn K cd_u_data_widths "_data_widths" = true)
    (k_u_data_widths : PySem.W.keepIn K (.ref f_u_data_widths) = true)
    (a_data_piece : PySem.W.nsIn K mainGlobals "data_piece" = some (some (.ref f_data_piece)))
    (l_data_piece : K.lookup f_data_piece = some ⟨oc_data_piece, od_data_piece, .func (PySem.W.fnOf "data_piece" "data_piece" (defArgs S_data_piece) (defBody S_data_piece) (defScope S_data_piece) .none kV_data_piece dc_data_piece pm_data_piece an_data_piece cd_data_piece ct_data_piece), sl_data_piece⟩)
    (c_data_piece : PySem.W.codeIn K cd_data_piece "data_piece" = true)
    (k_data_piece : PySem.W.keepIn K (.ref f_data_piece) = true)
    (a_u_part_of : PySem.W.nsIn K mainGlobals "_part_of" = some (some (.ref f_u_part_of)))
    (l_u_part_of : K.lookup f_u_part_of = some ⟨oc_u_part_of, od_u_part_of, .func (PySem.W.fnOf "_part_of" "_part_of" (defArgs S_u_part_of) (defBody S_u_part_of) (defScope S_u_part_of) .none kV_u_part_of dc_u_part_of pm_u_part_of an_u_part_of cd_u_part_of ct_u_part_of), sl_u_part_of⟩)
    (c_u_part_of : PySem.W.codeIn K cd_u_part_of "_part_of" = true)
    (k_u_part_of : PySem.W.keepIn K (.ref f_u_part_of) = true)
    (a_cut : PySem.W.nsIn K mainGlobals "cut" = some (some (.ref f_cut)))
    (l_cut : K.lookup f_cut = some ⟨oc_cut, od_cut, .func (PySem.W.fnOf "cut" "cut" (defArgs S_cut) (defBody S_cut) (defScope S_cut) .none kV_cut dc_cut pm_cut an_cut cd_cut ct_cut), sl_cut⟩)
    (c_cut : PySem.W.codeIn K cd_cut "cut" = true)
    (k_cut : PySem.W.keepIn K (.ref f_cut) = true)
    (a_u_rows_told : PySem.W.nsIn K mainGlobals "_rows_told" = some (some (.ref f_u_rows_told)))
    (l_u_rows_told : K.lookup f_u_rows_told = some ⟨oc_u_rows_told, od_u_rows_told, .func (PySem.W.fnOf "_rows_told" "_rows_told" (defArgs S_u_rows_told) (defBody S_u_rows_told) (defScope S_u_rows_told) .none kV_u_rows_told dc_u_rows_told pm_u_rows_told an_u_rows_told cd_u_rows_told ct_u_rows_told), sl_u_rows_told⟩)
    (c_u_rows_told : PySem.W.codeIn K cd_u_rows_told "_rows_told" = true)
    (k_u_rows_told : PySem.W.keepIn K (.ref f_u_rows_told) = true)
    (a_Sender___init__ : PySem.W.findIn K (.ref C_Sender) "__init__" = some (some (.ref f_Sender___init__)))
    (i_Sender___init__ : PySem.W.isFn K (.ref f_Sender___init__) = true)
    (l_Sender___init__ : K.lookup f_Sender___init__ = some ⟨oc_Sender___init__, od_Sender___init__, .func (PySem.W.fnOf "__init__" "Sender.__init__" (defArgs S_Sender___init__) (defBody S_Sender___init__) (defScope S_Sender___init__) .none kV_Sender___init__ dc_Sender___init__ pm_Sender___init__ an_Sender___init__ cd_Sender___init__ ct_Sender___init__), sl_Sender___init__⟩)
    (c_Sender___init__ : PySem.W.codeIn K cd_Sender___init__ "Sender.__init__" = true)
    (k_Sender___init__ : PySem.W.keepIn K (.ref f_Sender___init__) = true)
    (a_Sender_put : PySem.W.findIn K (.ref C_Sender) "put" = some (some (.ref f_Sender_put)))
    (i_Sender_put : PySem.W.isFn K (.ref f_Sender_put) = true)
    (l_Sender_put : K.lookup f_Sender_put = some ⟨oc_Sender_put, od_Sender_put, .func (PySem.W.fnOf "put" "Sender.put" (defArgs S_Sender_put) (defBody S_Sender_put) (defScope S_Sender_put) .none kV_Sender_put dc_Sender_put pm_Sender_put an_Sender_put cd_Sender_put ct_Sender_put), sl_Sender_put⟩)
    (c_Sender_put : PySem.W.codeIn K cd_Sender_put "Sender.put" = true)
    (k_Sender_put : PySem.W.keepIn K (.ref f_Sender_put) = true)
    (a_Sender__first_left : PySem.W.findIn K (.ref C_Sender) "_first_left" = some (some (.ref f_Sender__first_left)))
    (i_Sender__first_left : PySem.W.isFn K (.ref f_Sender__first_left) = true)
    (l_Sender__first_left : K.lookup f_Sender__first_left = some ⟨oc_Sender__first_left, od_Sender__first_left, .func (PySem.W.fnOf "_first_left" "Sender._first_left" (defArgs S_Sender__first_left) (defBody S_Sender__first_left) (defScope S_Sender__first_left) .none kV_Sender__first_left dc_Sender__first_left pm_Sender__first_left an_Sender__first_left cd_Sender__first_left ct_Sender__first_left), sl_Sender__first_left⟩)
    (c_Sender__first_left : PySem.W.codeIn K cd_Sender__first_left "Sender._first_left" = true)
    (k_Sender__first_left : PySem.W.keepIn K (.ref f_Sender__first_left) = true)
    (a_Sender__packet : PySem.W.findIn K (.ref C_Sender) "_packet" = some (some (.ref f_Sender__packet)))
    (i_Sender__packet : PySem.W.isFn K (.ref f_Sender__packet) = true)
    (l_Sender__packet : K.lookup f_Sender__packet = some ⟨oc_Sender__packet, od_Sender__packet, .func (PySem.W.fnOf "_packet" "Sender._packet" (defArgs S_Sender__packet) (defBody S_Sender__packet) (defScope S_Sender__packet) .none kV_Sender__packet dc_Sender__packet pm_Sender__packet an_Sender__packet cd_Sender__packet ct_Sender__packet), sl_Sender__packet⟩)
    (c_Sender__packet : PySem.W.codeIn K cd_Sender__packet "Sender._packet" = true)
    (k_Sender__packet : PySem.W.keepIn K (.ref f_Sender__packet) = true)
    (a_Sender__count_sent : PySem.W.findIn K (.ref C_Sender) "_count_sent" = some (some (.ref f_Sender__count_sent)))
    (i_Sender__count_sent : PySem.W.isFn K (.ref f_Sender__count_sent) = true)
    (l_Sender__count_sent : K.lookup f_Sender__count_sent = some ⟨oc_Sender__count_sent, od_Sender__count_sent, .func (PySem.W.fnOf "_count_sent" "Sender._count_sent" (defArgs S_Sender__count_sent) (defBody S_Sender__count_sent) (defScope S_Sender__count_sent) .none kV_Sender__count_sent dc_Sender__count_sent pm_Sender__count_sent an_Sender__count_sent cd_Sender__count_sent ct_Sender__count_sent), sl_Sender__count_sent⟩)
    (c_Sender__count_sent : PySem.W.codeIn K cd_Sender__count_sent "Sender._count_sent" = true)
    (k_Sender__count_sent : PySem.W.keepIn K (.ref f_Sender__count_sent) = true)
    (a_Sender_send : PySem.W.findIn K (.ref C_Sender) "send" = some (some (.ref f_Sender_send)))
    (i_Sender_send : PySem.W.isFn K (.ref f_Sender_send) = true)
    (l_Sender_send : K.lookup f_Sender_send = some ⟨oc_Sender_send, od_Sender_send, .func (PySem.W.fnOf "send" "Sender.send" (defArgs S_Sender_send) (defBody S_Sender_send) (defScope S_Sender_send) .none kV_Sender_send dc_Sender_send pm_Sender_send an_Sender_send cd_Sender_send ct_Sender_send), sl_Sender_send⟩)
    (c_Sender_send : PySem.W.codeIn K cd_Sender_send "Sender.send" = true)
    (k_Sender_send : PySem.W.keepIn K (.ref f_Sender_send) = true)
    (a_Sender_has_piece : PySem.W.findIn K (.ref C_Sender) "has_piece" = some (some (.ref f_Sender_has_piece)))
    (i_Sender_has_piece : PySem.W.isFn K (.ref f_Sender_has_piece) = true)
    (l_Sender_has_piece : K.lookup f_Sender_has_piece = some ⟨oc_Sender_has_piece, od_Sender_has_piece, .func (PySem.W.fnOf "has_piece" "Sender.has_piece" (defArgs S_Sender_has_piece) (defBody S_Sender_has_piece) (defScope S_Sender_has_piece) .none kV_Sender_has_piece dc_Sender_has_piece pm_Sender_has_piece an_Sender_has_piece cd_Sender_has_piece ct_Sender_has_piece), sl_Sender_has_piece⟩)
    (c_Sender_has_piece : PySem.W.codeIn K cd_Sender_has_piece "Sender.has_piece" = true)
    (k_Sender_has_piece : PySem.W.keepIn K (.ref f_Sender_has_piece) = true)
    (a_Sender_take_status : PySem.W.findIn K (.ref C_Sender) "take_status" = some (some (.ref f_Sender_take_status)))
    (i_Sender_take_status : PySem.W.isFn K (.ref f_Sender_take_status) = true)
    (l_Sender_take_status : K.lookup f_Sender_take_status = some ⟨oc_Sender_take_status, od_Sender_take_status, .func (PySem.W.fnOf "take_status" "Sender.take_status" (defArgs S_Sender_take_status) (defBody S_Sender_take_status) (defScope S_Sender_take_status) .none kV_Sender_take_status dc_Sender_take_status pm_Sender_take_status an_Sender_take_status cd_Sender_take_status ct_Sender_take_status), sl_Sender_take_status⟩)
    (c_Sender_take_status : PySem.W.codeIn K cd_Sender_take_status "Sender.take_status" = true)
    (k_Sender_take_status : PySem.W.keepIn K (.ref f_Sender_take_status) = true)
    (a_Sender__forget : PySem.W.findIn K (.ref C_Sender) "_forget" = some (some (.ref f_Sender__forget)))
    (i_Sender__forget : PySem.W.isFn K (.ref f_Sender__forget) = true)
    (l_Sender__forget : K.lookup f_Sender__forget = some ⟨oc_Sender__forget, od_Sender__forget, .func (PySem.W.fnOf "_forget" "Sender._forget" (defArgs S_Sender__forget) (defBody S_Sender__forget) (defScope S_Sender__forget) .none kV_Sender__forget dc_Sender__forget pm_Sender__forget an_Sender__forget cd_Sender__forget ct_Sender__forget), sl_Sender__forget⟩)
    (c_Sender__forget : PySem.W.codeIn K cd_Sender__forget "Sender._forget" = true)
    (k_Sender__forget : PySem.W.keepIn K (.ref f_Sender__forget) = true)
    (a_Sender__ask : PySem.W.findIn K (.ref C_Sender) "_ask" = some (some (.ref f_Sender__ask)))
    (i_Sender__ask : PySem.W.isFn K (.ref f_Sender__ask) = true)
    (l_Sender__ask : K.lookup f_Sender__ask = some ⟨oc_Sender__ask, od_Sender__ask, .func (PySem.W.fnOf "_ask" "Sender._ask" (defArgs S_Sender__ask) (defBody S_Sender__ask) (defScope S_Sender__ask) .none kV_Sender__ask dc_Sender__ask pm_Sender__ask an_Sender__ask cd_Sender__ask ct_Sender__ask), sl_Sender__ask⟩)
    (c_Sender__ask : PySem.W.codeIn K cd_Sender__ask "Sender._ask" = true)
    (k_Sender__ask : PySem.W.keepIn K (.ref f_Sender__ask) = true)
    (a_Sender_tick : PySem.W.findIn K (.ref C_Sender) "tick" = some (some (.ref f_Sender_tick)))
    (i_Sender_tick : PySem.W.isFn K (.ref f_Sender_tick) = true)
    (l_Sender_tick : K.lookup f_Sender_tick = some ⟨oc_Sender_tick, od_Sender_tick, .func (PySem.W.fnOf "tick" "Sender.tick" (defArgs S_Sender_tick) (defBody S_Sender_tick) (defScope S_Sender_tick) .none kV_Sender_tick dc_Sender_tick pm_Sender_tick an_Sender_tick cd_Sender_tick ct_Sender_tick), sl_Sender_tick⟩)
    (c_Sender_tick : PySem.W.codeIn K cd_Sender_tick "Sender.tick" = true)
    (k_Sender_tick : PySem.W.keepIn K (.ref f_Sender_tick) = true)
    (a_Sender_unconfirmed : PySem.W.findIn K (.ref C_Sender) "unconfirmed" = some (some (.ref f_Sender_unconfirmed)))
    (i_Sender_unconfirmed : PySem.W.isFn K (.ref f_Sender_unconfirmed) = true)
    (l_Sender_unconfirmed : K.lookup f_Sender_unconfirmed = some ⟨oc_Sender_unconfirmed, od_Sender_unconfirmed, .func (PySem.W.fnOf "unconfirmed" "Sender.unconfirmed" (defArgs S_Sender_unconfirmed) (defBody S_Sender_unconfirmed) (defScope S_Sender_unconfirmed) .none kV_Sender_unconfirmed dc_Sender_unconfirmed pm_Sender_unconfirmed an_Sender_unconfirmed cd_Sender_unconfirmed ct_Sender_unconfirmed), sl_Sender_unconfirmed⟩)
    (c_Sender_unconfirmed : PySem.W.codeIn K cd_Sender_unconfirmed "Sender.unconfirmed" = true)
    (k_Sender_unconfirmed : PySem.W.keepIn K (.ref f_Sender_unconfirmed) = true)
    (a_Sender_waiting : PySem.W.findIn K (.ref C_Sender) "waiting" = some (some (.ref f_Sender_waiting)))
    (i_Sender_waiting : PySem.W.isFn K (.ref f_Sender_waiting) = true)
    (l_Sender_waiting : K.lookup f_Sender_waiting = some ⟨oc_Sender_waiting, od_Sender_waiting, .func (PySem.W.fnOf "waiting" "Sender.waiting" (defArgs S_Sender_waiting) (defBody S_Sender_waiting) (defScope S_Sender_waiting) .none kV_Sender_waiting dc_Sender_waiting pm_Sender_waiting an_Sender_waiting cd_Sender_waiting ct_Sender_waiting), sl_Sender_waiting⟩)
    (c_Sender_waiting : PySem.W.codeIn K cd_Sender_waiting "Sender.waiting" = true)
    (k_Sender_waiting : PySem.W.keepIn K (.ref f_Sender_waiting) = true)
    (a_Sender_is_idle : PySem.W.findIn K (.ref C_Sender) "is_idle" = some (some (.ref f_Sender_is_idle)))
    (i_Sender_is_idle : PySem.W.isFn K (.ref f_Sender_is_idle) = true)
    (l_Sender_is_idle : K.lookup f_Sender_is_idle = some ⟨oc_Sender_is_idle, od_Sender_is_idle, .func (PySem.W.fnOf "is_idle" "Sender.is_idle" (defArgs S_Sender_is_idle) (defBody S_Sender_is_idle) (defScope S_Sender_is_idle) .none kV_Sender_is_idle dc_Sender_is_idle pm_Sender_is_idle an_Sender_is_idle cd_Sender_is_idle ct_Sender_is_idle), sl_Sender_is_idle⟩)
    (c_Sender_is_idle : PySem.W.codeIn K cd_Sender_is_idle "Sender.is_idle" = true)
    (k_Sender_is_idle : PySem.W.keepIn K (.ref f_Sender_is_idle) = true)
    (a_u_law_cell : PySem.W.nsIn K mainGlobals "_law_cell" = some (some (.ref f_u_law_cell)))
    (l_u_law_cell : K.lookup f_u_law_cell = some ⟨oc_u_law_cell, od_u_law_cell, .func (PySem.W.fnOf "_law_cell" "_law_cell" (defArgs S_u_law_cell) (defBody S_u_law_cell) (defScope S_u_law_cell) .none kV_u_law_cell dc_u_law_cell pm_u_law_cell an_u_law_cell cd_u_law_cell ct_u_law_cell), sl_u_law_cell⟩)
    (c_u_law_cell : PySem.W.codeIn K cd_u_law_cell "_law_cell" = true)
    (k_u_law_cell : PySem.W.keepIn K (.ref f_u_law_cell) = true)
    (a_u_law_digits : PySem.W.nsIn K mainGlobals "_law_digits" = some (some (.ref f_u_law_digits)))
    (l_u_law_digits : K.lookup f_u_law_digits = some ⟨oc_u_law_digits, od_u_law_digits, .func (PySem.W.fnOf "_law_digits" "_law_digits" (defArgs S_u_law_digits) (defBody S_u_law_digits) (defScope S_u_law_digits) .none kV_u_law_digits dc_u_law_digits pm_u_law_digits an_u_law_digits cd_u_law_digits ct_u_law_digits), sl_u_law_digits⟩)
    (c_u_law_digits : PySem.W.codeIn K cd_u_law_digits "_law_digits" = true)
    (k_u_law_digits : PySem.W.keepIn K (.ref f_u_law_digits) = true)
    (a_u_law_many : PySem.W.nsIn K mainGlobals "_law_many" = some (some (.ref f_u_law_many)))
    (l_u_law_many : K.lookup f_u_law_many = some ⟨oc_u_law_many, od_u_law_many, .func (PySem.W.fnOf "_law_many" "_law_many" (defArgs S_u_law_many) (defBody S_u_law_many) (defScope S_u_law_many) .none kV_u_law_many dc_u_law_many pm_u_law_many an_u_law_many cd_u_law_many ct_u_law_many), sl_u_law_many⟩)
    (c_u_law_many : PySem.W.codeIn K cd_u_law_many "_law_many" = true)
    (k_u_law_many : PySem.W.keepIn K (.ref f_u_law_many) = true)
    (a_u_law_both : PySem.W.nsIn K mainGlobals "_law_both" = some (some (.ref f_u_law_both)))
    (l_u_law_both : K.lookup f_u_law_both = some ⟨oc_u_law_both, od_u_law_both, .func (PySem.W.fnOf "_law_both" "_law_both" (defArgs S_u_law_both) (defBody S_u_law_both) (defScope S_u_law_both) .none kV_u_law_both dc_u_law_both pm_u_law_both an_u_law_both cd_u_law_both ct_u_law_both), sl_u_law_both⟩)
    (c_u_law_both : PySem.W.codeIn K cd_u_law_both "_law_both" = true)
    (k_u_law_both : PySem.W.keepIn K (.ref f_u_law_both) = true)
    (a_law : PySem.W.nsIn K mainGlobals "law" = some (some (.ref f_law)))
    (l_law : K.lookup f_law = some ⟨oc_law, od_law, .func (PySem.W.fnOf "law" "law" (defArgs S_law) (defBody S_law) (defScope S_law) .none kV_law dc_law pm_law an_law cd_law ct_law), sl_law⟩)
    (c_law : PySem.W.codeIn K cd_law "law" = true)
    (k_law : PySem.W.keepIn K (.ref f_law) = true)
    (xL_BearerError : K.lookup C_BearerError = some (excClassObj nm_BearerError q_BearerError C_BearerError N_BearerError bs_BearerError bm_BearerError true sn_BearerError sub_BearerError ab_BearerError col_BearerError dd_BearerError m0_BearerError m1_BearerError m2_BearerError m3_BearerError m5_BearerError "ValueError.__new__"))
    (xB_BearerError : PySem.HandSPX.refsVE bm_BearerError = true)
    (sa_BearerError : PySem.W.findIn K (.ref C_BearerError) "__setattr__" = some (some (.builtin "object.__setattr__")))
    (ex_BearerError : PySem.W.subIn K (.ref C_BearerError) (.type "BaseException") = some true)
    (ty_BearerError : PySem.W.typeIn K (.ref C_BearerError) = some (.type "type"))
    (kC_BearerError : PySem.W.keepIn K (.ref C_BearerError) = true)
    (ii_BearerError : PySem.W.findIn K (.ref C_BearerError) "__init__" = some (some (.ref f_BearerError___init__)))
    (ti_BearerError : PySem.W.typeIn K (.ref f_BearerError___init__) = some (.type "function"))
    (ga_BearerError : PySem.W.findIn K (.ref C_BearerError) "__getattribute__" = some (some (.builtin "BaseException.__getattribute__")))
    (gg_BearerError : PySem.W.findIn K (.ref C_BearerError) "__getattr__" = some none)
    (hd_BearerError : PySem.W.hasDictIn K C_BearerError = true)
    (hc_BearerError : PySem.W.findIn K (.ref C_BearerError) "__class__" = some (some (.builtin "object.__class__")))
    (mo_BearerError : PySem.W.mroIn K C_BearerError (.type "object") = some true)
    (ic_BearerError : PySem.W.isClsIn K C_BearerError = true)
    (sb_BearerError_BearerError : PySem.W.subIn K (.ref C_BearerError) (.ref C_BearerError) = some true)
    (sb_BearerError_NotValid : PySem.W.subIn K (.ref C_BearerError) (.ref C_NotValid) = some false)
    (xL_NotValid : K.lookup C_NotValid = some (excClassObj nm_NotValid q_NotValid C_NotValid N_NotValid bs_NotValid bm_NotValid true sn_NotValid sub_NotValid ab_NotValid col_NotValid dd_NotValid m0_NotValid m1_NotValid m2_NotValid m3_NotValid m5_NotValid "ValueError.__new__"))
    (xB_NotValid : PySem.HandSPX.refsVE bm_NotValid = true)
    (sa_NotValid : PySem.W.findIn K (.ref C_NotValid) "__setattr__" = some (some (.builtin "object.__setattr__")))
    (ex_NotValid : PySem.W.subIn K (.ref C_NotValid) (.type "BaseException") = some true)
    (ty_NotValid : PySem.W.typeIn K (.ref C_NotValid) = some (.type "type"))
    (kC_NotValid : PySem.W.keepIn K (.ref C_NotValid) = true)
    (ii_NotValid : PySem.W.findIn K (.ref C_NotValid) "__init__" = some (some (.ref f_BearerError___init__)))
    (ti_NotValid : PySem.W.typeIn K (.ref f_BearerError___init__) = some (.type "function"))
    (ga_NotValid : PySem.W.findIn K (.ref C_NotValid) "__getattribute__" = some (some (.builtin "BaseException.__getattribute__")))
    (gg_NotValid : PySem.W.findIn K (.ref C_NotValid) "__getattr__" = some none)
    (hd_NotValid : PySem.W.hasDictIn K C_NotValid = true)
    (hc_NotValid : PySem.W.findIn K (.ref C_NotValid) "__class__" = some (some (.builtin "object.__class__")))
    (mo_NotValid : PySem.W.mroIn K C_NotValid (.type "object") = some true)
    (ic_NotValid : PySem.W.isClsIn K C_NotValid = true)
    (sb_NotValid_BearerError : PySem.W.subIn K (.ref C_NotValid) (.ref C_BearerError) = some true)
    (sb_NotValid_NotValid : PySem.W.subIn K (.ref C_NotValid) (.ref C_NotValid) = some true)
    (pg_Sender : PySem.W.plainGet K C_Sender Str.empty = true)
    (hd_Sender : PySem.W.hasDictIn K C_Sender = true)
    (po_Sender : PySem.W.plainOver K C_Sender = true)
    (sa_Sender : PySem.W.findIn K (.ref C_Sender) "__setattr__" = some (some (.builtin "object.__setattr__")))
    (mk_Sender : PySem.W.makesIn K C_Sender = true)
    (kc_Sender : PySem.W.keepIn K (.ref C_Sender) = true)
    (nf_Sender_bits : PySem.W.findIn K (.ref C_Sender) "bits" = some none)
    (nf_Sender_window : PySem.W.findIn K (.ref C_Sender) "window" = some none)
    (nf_Sender_low : PySem.W.findIn K (.ref C_Sender) "low" = some none)
    (nf_Sender_next : PySem.W.findIn K (.ref C_Sender) "next" = some none)
    (nf_Sender__begun : PySem.W.findIn K (.ref C_Sender) "_begun" = some none)
    (nf_Sender__sent : PySem.W.findIn K (.ref C_Sender) "_sent" = some none)
    (nf_Sender__waiting : PySem.W.findIn K (.ref C_Sender) "_waiting" = some none)
    (nf_Sender__asked : PySem.W.findIn K (.ref C_Sender) "_asked" = some none)
    (nf_Sender__quiet_turns : PySem.W.findIn K (.ref C_Sender) "_quiet_turns" = some none)
    (nf_Sender__has_heard : PySem.W.findIn K (.ref C_Sender) "_has_heard" = some none)
    (sn_get : PySem.W.specialIn K (.builtin "object.__class__") "__get__" = some (some (.builtin "getset_descriptor.__get__")))
    (tk_get : PySem.W.takesIn K (.builtin "object.__class__") = some true)
    : ∃ fd : FuncData, (∀ (s : Shared) (v : Value), BindsTo s fd ⟨[v], []⟩ [("script", v)]) ∧ ∀ base : Heap, K.In base → base.Ns mainGlobals mg → FnOk P w K mg base CX0 9 fa fd ["script"] (ip_law K) := by
  have e := hfa.symm.trans (PySem.W.mg_of X G a_law)
  cases e
  have F_BearerError___init__ := fun_mk (st := S_BearerError___init__) l_BearerError___init__ c_BearerError___init__ k_BearerError___init__
  have b_BearerError___init__ := F_BearerError___init__.binds (ps := ["self"]) fun _ _ _ _ _ _ us hl => match us, hl with | [_], _ => rfl
  have F_is_between := fun_mk (st := S_is_between) l_is_between c_is_between k_is_between
  have b_is_between := F_is_between.binds (ps := ["value", "least", "most"]) fun _ _ _ _ _ _ us hl => match us, hl with | [_, _, _], _ => rfl
  have F_check_bits := fun_mk (st := S_check_bits) l_check_bits c_check_bits k_check_bits
  have b_check_bits := F_check_bits.binds (ps := ["bits"]) fun _ _ _ _ _ _ us hl => match us, hl with | [_], _ => rfl
  have F_is_packet := fun_mk (st := S_is_packet) l_is_packet c_is_packet k_is_packet
  have b_is_packet := F_is_packet.binds (ps := ["packet", "most"]) fun _ _ _ _ _ _ us hl => match us, hl with | [_, _], _ => rfl
  have F_true_rows := fun_mk (st := S_true_rows) l_true_rows c_true_rows k_true_rows
  have b_true_rows := F_true_rows.binds (ps := ["flags"]) fun _ _ _ _ _ _ us hl => match us, hl with | [_], _ => rfl
  have F_field_bytes := fun_mk (st := S_field_bytes) l_field_bytes c_field_bytes k_field_bytes
  have b_field_bytes := F_field_bytes.binds (ps := ["widths"]) fun _ _ _ _ _ _ us hl => match us, hl with | [_], _ => rfl
  have F_pack := fun_mk (st := S_pack) l_pack c_pack k_pack
  have b_pack := F_pack.binds (ps := ["widths", "values"]) fun _ _ _ _ _ _ us hl => match us, hl with | [_, _], _ => rfl
  have F_window_size := fun_mk (st := S_window_size) l_window_size c_window_size k_window_size
  have b_window_size := F_window_size.binds (ps := ["bits"]) fun _ _ _ _ _ _ us hl => match us, hl with | [_], _ => rfl
  have F_short := fun_mk (st := S_short) l_short c_short k_short
  have b_short := F_short.binds (ps := ["number", "bits"]) fun _ _ _ _ _ _ us hl => match us, hl with | [_, _], _ => rfl
  have F_distance := fun_mk (st := S_distance) l_distance c_distance k_distance
  have b_distance := F_distance.binds (ps := ["base", "value", "bits"]) fun _ _ _ _ _ _ us hl => match us, hl with | [_, _, _], _ => rfl
  have F_read_short := fun_mk (st := S_read_short) l_read_short c_read_short k_read_short
  have b_read_short := F_read_short.binds (ps := ["value", "base", "behind", "bits"]) fun _ _ _ _ _ _ us hl => match us, hl with | [_, _, _, _], _ => rfl
  have F_u_has_offset := fun_mk (st := S_u_has_offset) l_u_has_offset c_u_has_offset k_u_has_offset
  have b_u_has_offset := F_u_has_offset.binds (ps := ["part"]) fun _ _ _ _ _ _ us hl => match us, hl with | [_], _ => rfl
  have F_u_data_widths := fun_mk (st := S_u_data_widths) l_u_data_widths c_u_data_widths k_u_data_widths
  have b_u_data_widths := F_u_data_widths.binds (ps := ["bits", "part"]) fun _ _ _ _ _ _ us hl => match us, hl with | [_, _], _ => rfl
  have F_data_piece := fun_mk (st := S_data_piece) l_data_piece c_data_piece k_data_piece
  have b_data_piece := F_data_piece.binds (ps := ["bits", "poll", "number", "part", "offset", "body"]) fun _ _ _ _ _ _ us hl => match us, hl with | [_, _, _, _, _, _], _ => rfl
  have F_u_part_of := fun_mk (st := S_u_part_of) l_u_part_of c_u_part_of k_u_part_of
  have b_u_part_of := F_u_part_of.binds (ps := ["packet", "start", "end"]) fun _ _ _ _ _ _ us hl => match us, hl with | [_, _, _], _ => rfl
  have F_cut := fun_mk (st := S_cut) l_cut c_cut k_cut
  have b_cut := F_cut.binds (ps := ["bits", "poll", "number", "packet", "start", "stop", "room"]) fun _ _ _ _ _ _ us hl => match us, hl with | [_, _, _, _, _, _, _], _ => rfl
  have F_u_rows_told := fun_mk (st := S_u_rows_told) l_u_rows_told c_u_rows_told k_u_rows_told
  have b_u_rows_told := F_u_rows_told.binds (ps := ["ranges", "size"]) fun _ _ _ _ _ _ us hl => match us, hl with | [_, _], _ => rfl
  have F_Sender___init__ := fun_mk (st := S_Sender___init__) l_Sender___init__ c_Sender___init__ k_Sender___init__
  have b_Sender___init__ := F_Sender___init__.binds (ps := ["self", "bits", "window"]) fun _ _ _ _ _ _ us hl => match us, hl with | [_, _, _], _ => rfl
  have F_Sender_put := fun_mk (st := S_Sender_put) l_Sender_put c_Sender_put k_Sender_put
  have b_Sender_put := F_Sender_put.binds (ps := ["self", "packet"]) fun _ _ _ _ _ _ us hl => match us, hl with | [_, _], _ => rfl
  have F_Sender__first_left := fun_mk (st := S_Sender__first_left) l_Sender__first_left c_Sender__first_left k_Sender__first_left
  have b_Sender__first_left := F_Sender__first_left.binds (ps := ["self"]) fun _ _ _ _ _ _ us hl => match us, hl with | [_], _ => rfl
  have F_Sender__packet := fun_mk (st := S_Sender__packet) l_Sender__packet c_Sender__packet k_Sender__packet
  have b_Sender__packet := F_Sender__packet.binds (ps := ["self", "number"]) fun _ _ _ _ _ _ us hl => match us, hl with | [_, _], _ => rfl
  have F_Sender__count_sent := fun_mk (st := S_Sender__count_sent) l_Sender__count_sent c_Sender__count_sent k_Sender__count_sent
  have b_Sender__count_sent := F_Sender__count_sent.binds (ps := ["self", "left", "end"]) fun _ _ _ _ _ _ us hl => match us, hl with | [_, _, _], _ => rfl
  have F_Sender_send := fun_mk (st := S_Sender_send) l_Sender_send c_Sender_send k_Sender_send
  have b_Sender_send := F_Sender_send.binds (ps := ["self", "room"]) fun _ _ _ _ _ _ us hl => match us, hl with | [_, _], _ => rfl
  have F_Sender_has_piece := fun_mk (st := S_Sender_has_piece) l_Sender_has_piece c_Sender_has_piece k_Sender_has_piece
  have b_Sender_has_piece := F_Sender_has_piece.binds (ps := ["self", "room"]) fun _ _ _ _ _ _ us hl => match us, hl with | [_, _], _ => rfl
  have F_Sender_take_status := fun_mk (st := S_Sender_take_status) l_Sender_take_status c_Sender_take_status k_Sender_take_status
  have b_Sender_take_status := F_Sender_take_status.binds (ps := ["self", "upto", "missing"]) fun _ _ _ _ _ _ us hl => match us, hl with | [_, _, _], _ => rfl
  have F_Sender__forget := fun_mk (st := S_Sender__forget) l_Sender__forget c_Sender__forget k_Sender__forget
  have b_Sender__forget := F_Sender__forget.binds (ps := ["self", "confirmed"]) fun _ _ _ _ _ _ us hl => match us, hl with | [_, _], _ => rfl
  have F_Sender__ask := fun_mk (st := S_Sender__ask) l_Sender__ask c_Sender__ask k_Sender__ask
  have b_Sender__ask := F_Sender__ask.binds (ps := ["self", "number", "ranges"]) fun _ _ _ _ _ _ us hl => match us, hl with | [_, _, _], _ => rfl
  have F_Sender_tick := fun_mk (st := S_Sender_tick) l_Sender_tick c_Sender_tick k_Sender_tick
  have b_Sender_tick := F_Sender_tick.binds (ps := ["self"]) fun _ _ _ _ _ _ us hl => match us, hl with | [_], _ => rfl
  have F_Sender_unconfirmed := fun_mk (st := S_Sender_unconfirmed) l_Sender_unconfirmed c_Sender_unconfirmed k_Sender_unconfirmed
  have b_Sender_unconfirmed := F_Sender_unconfirmed.binds (ps := ["self"]) fun _ _ _ _ _ _ us hl => match us, hl with | [_], _ => rfl
  have F_Sender_waiting := fun_mk (st := S_Sender_waiting) l_Sender_waiting c_Sender_waiting k_Sender_waiting
  have b_Sender_waiting := F_Sender_waiting.binds (ps := ["self"]) fun _ _ _ _ _ _ us hl => match us, hl with | [_], _ => rfl
  have F_Sender_is_idle := fun_mk (st := S_Sender_is_idle) l_Sender_is_idle c_Sender_is_idle k_Sender_is_idle
  have b_Sender_is_idle := F_Sender_is_idle.binds (ps := ["self"]) fun _ _ _ _ _ _ us hl => match us, hl with | [_], _ => rfl
  have F_u_law_cell := fun_mk (st := S_u_law_cell) l_u_law_cell c_u_law_cell k_u_law_cell
  have b_u_law_cell := F_u_law_cell.binds (ps := ["script", "k"]) fun _ _ _ _ _ _ us hl => match us, hl with | [_, _], _ => rfl
  have F_u_law_digits := fun_mk (st := S_u_law_digits) l_u_law_digits c_u_law_digits k_u_law_digits
  have b_u_law_digits := F_u_law_digits.binds (ps := ["cell", "bases"]) fun _ _ _ _ _ _ us hl => match us, hl with | [_, _], _ => rfl
  have F_u_law_many := fun_mk (st := S_u_law_many) l_u_law_many c_u_law_many k_u_law_many
  have b_u_law_many := F_u_law_many.binds (ps := ["script", "few", "many"]) fun _ _ _ _ _ _ us hl => match us, hl with | [_, _, _], _ => rfl
  have F_u_law_both := fun_mk (st := S_u_law_both) l_u_law_both c_u_law_both k_u_law_both
  have b_u_law_both := F_u_law_both.binds (ps := ["one", "other", "digits"]) fun _ _ _ _ _ _ us hl => match us, hl with | [_, _, _], _ => rfl
  have F_law := fun_mk (st := S_law) l_law c_law k_law
  have b_law := F_law.binds (ps := ["script"]) fun _ _ _ _ _ _ us hl => match us, hl with | [_], _ => rfl
  refine ⟨PySem.W.fnOf "law" "law" (defArgs S_law) (defBody S_law) (defScope S_law) .none kV_law dc_law pm_law an_law cd_law ct_law, fun s v => .of_eq rfl, fun base _ _ => ?_⟩
  exact ok_law (T := ({
      n_all := PySem.W.mg_none_of X G z_all,
      n_len := PySem.W.mg_none_of X G z_len,
      n_range := PySem.W.mg_none_of X G z_range,
      n_int := PySem.W.mg_none_of X G z_int,
      n_sum := PySem.W.mg_none_of X G z_sum,
      n_zip := PySem.W.mg_none_of X G z_zip,
      n_min := PySem.W.mg_none_of X G z_min,
      n_max := PySem.W.mg_none_of X G z_max,
      n_isinstance := PySem.W.mg_none_of X G z_isinstance,
      n_list := PySem.W.mg_none_of X G z_list,
      n_bool := PySem.W.mg_none_of X G z_bool,
      n_enumerate := PySem.W.mg_none_of X G z_enumerate,
      n_sorted := PySem.W.mg_none_of X G z_sorted,
      g_LEAST_BITS := ⟨tk_LEAST_BITS, PySem.W.mg_of X G z_LEAST_BITS⟩,
      g_GREATEST_BITS := ⟨tk_GREATEST_BITS, PySem.W.mg_of X G z_GREATEST_BITS⟩,
      g_MOST_BYTES := ⟨tk_MOST_BYTES, PySem.W.mg_of X G z_MOST_BYTES⟩,
      g_DATA := ⟨tk_DATA, PySem.W.mg_of X G z_DATA⟩,
      g_WHOLE := ⟨tk_WHOLE, PySem.W.mg_of X G z_WHOLE⟩,
      g_BEGINNING := ⟨tk_BEGINNING, PySem.W.mg_of X G z_BEGINNING⟩,
      g_END := ⟨tk_END, PySem.W.mg_of X G z_END⟩,
      g_WITHIN := ⟨tk_WITHIN, PySem.W.mg_of X G z_WITHIN⟩,
      g_PATIENCE := ⟨tk_PATIENCE, PySem.W.mg_of X G z_PATIENCE⟩,
      C_BearerError := C_BearerError,
      g_BearerError := PySem.W.mg_of X G z_BearerError,
      C_NotValid := C_NotValid,
      g_NotValid := PySem.W.mg_of X G z_NotValid,
      C_Sender := C_Sender,
      g_Sender := PySem.W.mg_of X G z_Sender,
      a_BearerError___init__ := _,
      d_BearerError___init__ := _,
      p_BearerError___init__ := ⟨F_BearerError___init__, b_BearerError___init__⟩,
      a_is_between := _,
      d_is_between := _,
      p_is_between := ⟨F_is_between, b_is_between, PySem.W.mg_of X G a_is_between⟩,
      a_check_bits := _,
      d_check_bits := _,
      p_check_bits := ⟨F_check_bits, b_check_bits, PySem.W.mg_of X G a_check_bits⟩,
      a_is_packet := _,
      d_is_packet := _,
      p_is_packet := ⟨F_is_packet, b_is_packet, PySem.W.mg_of X G a_is_packet⟩,
      a_true_rows := _,
      d_true_rows := _,
      p_true_rows := ⟨F_true_rows, b_true_rows, PySem.W.mg_of X G a_true_rows⟩,
      a_field_bytes := _,
      d_field_bytes := _,
      p_field_bytes := ⟨F_field_bytes, b_field_bytes, PySem.W.mg_of X G a_field_bytes⟩,
      a_pack := _,
      d_pack := _,
      p_pack := ⟨F_pack, b_pack, PySem.W.mg_of X G a_pack⟩,
      a_window_size := _,
      d_window_size := _,
      p_window_size := ⟨F_window_size, b_window_size, PySem.W.mg_of X G a_window_size⟩,
      a_short := _,
      d_short := _,
      p_short := ⟨F_short, b_short, PySem.W.mg_of X G a_short⟩,
      a_distance := _,
      d_distance := _,
      p_distance := ⟨F_distance, b_distance, PySem.W.mg_of X G a_distance⟩,
      a_read_short := _,
      d_read_short := _,
      p_read_short := ⟨F_read_short, b_read_short, PySem.W.mg_of X G a_read_short⟩,
      a_u_has_offset := _,
      d_u_has_offset := _,
      p_u_has_offset := ⟨F_u_has_offset, b_u_has_offset, PySem.W.mg_of X G a_u_has_offset⟩,
      a_u_data_widths := _,
      d_u_data_widths := _,
      p_u_data_widths := ⟨F_u_data_widths, b_u_data_widths, PySem.W.mg_of X G a_u_data_widths⟩,
      a_data_piece := _,
      d_data_piece := _,
      p_data_piece := ⟨F_data_piece, b_data_piece, PySem.W.mg_of X G a_data_piece⟩,
      a_u_part_of := _,
      d_u_part_of := _,
      p_u_part_of := ⟨F_u_part_of, b_u_part_of, PySem.W.mg_of X G a_u_part_of⟩,
      a_cut := _,
      d_cut := _,
      p_cut := ⟨F_cut, b_cut, PySem.W.mg_of X G a_cut⟩,
      a_u_rows_told := _,
      d_u_rows_told := _,
      p_u_rows_told := ⟨F_u_rows_told, b_u_rows_told, PySem.W.mg_of X G a_u_rows_told⟩,
      a_Sender___init__ := _,
      d_Sender___init__ := _,
      p_Sender___init__ := ⟨F_Sender___init__, b_Sender___init__, ⟨a_Sender___init__, i_Sender___init__, k_Sender___init__⟩⟩,
      a_Sender_put := _,
      d_Sender_put := _,
      p_Sender_put := ⟨F_Sender_put, b_Sender_put, ⟨a_Sender_put, i_Sender_put, k_Sender_put⟩⟩,
      a_Sender__first_left := _,
      d_Sender__first_left := _,
      p_Sender__first_left := ⟨F_Sender__first_left, b_Sender__first_left, ⟨a_Sender__first_left, i_Sender__first_left, k_Sender__first_left⟩⟩,
      a_Sender__packet := _,
      d_Sender__packet := _,
      p_Sender__packet := ⟨F_Sender__packet, b_Sender__packet, ⟨a_Sender__packet, i_Sender__packet, k_Sender__packet⟩⟩,
      a_Sender__count_sent := _,
      d_Sender__count_sent := _,
      p_Sender__count_sent := ⟨F_Sender__count_sent, b_Sender__count_sent, ⟨a_Sender__count_sent, i_Sender__count_sent, k_Sender__count_sent⟩⟩,
      a_Sender_send := _,
      d_Sender_send := _,
      p_Sender_send := ⟨F_Sender_send, b_Sender_send, ⟨a_Sender_send, i_Sender_send, k_Sender_send⟩⟩,
      a_Sender_has_piece := _,
      d_Sender_has_piece := _,
      p_Sender_has_piece := ⟨F_Sender_has_piece, b_Sender_has_piece, ⟨a_Sender_has_piece, i_Sender_has_piece, k_Sender_has_piece⟩⟩,
      a_Sender_take_status := _,
      d_Sender_take_status := _,
      p_Sender_take_status := ⟨F_Sender_take_status, b_Sender_take_status, ⟨a_Sender_take_status, i_Sender_take_status, k_Sender_take_status⟩⟩,
      a_Sender__forget := _,
      d_Sender__forget := _,
      p_Sender__forget := ⟨F_Sender__forget, b_Sender__forget, ⟨a_Sender__forget, i_Sender__forget, k_Sender__forget⟩⟩,
      a_Sender__ask := _,
      d_Sender__ask := _,
      p_Sender__ask := ⟨F_Sender__ask, b_Sender__ask, ⟨a_Sender__ask, i_Sender__ask, k_Sender__ask⟩⟩,
      a_Sender_tick := _,
      d_Sender_tick := _,
      p_Sender_tick := ⟨F_Sender_tick, b_Sender_tick, ⟨a_Sender_tick, i_Sender_tick, k_Sender_tick⟩⟩,
      a_Sender_unconfirmed := _,
      d_Sender_unconfirmed := _,
      p_Sender_unconfirmed := ⟨F_Sender_unconfirmed, b_Sender_unconfirmed, ⟨a_Sender_unconfirmed, i_Sender_unconfirmed, k_Sender_unconfirmed⟩⟩,
      a_Sender_waiting := _,
      d_Sender_waiting := _,
      p_Sender_waiting := ⟨F_Sender_waiting, b_Sender_waiting, ⟨a_Sender_waiting, i_Sender_waiting, k_Sender_waiting⟩⟩,
      a_Sender_is_idle := _,
      d_Sender_is_idle := _,
      p_Sender_is_idle := ⟨F_Sender_is_idle, b_Sender_is_idle, ⟨a_Sender_is_idle, i_Sender_is_idle, k_Sender_is_idle⟩⟩,
      a_u_law_cell := _,
      d_u_law_cell := _,
      p_u_law_cell := ⟨F_u_law_cell, b_u_law_cell, PySem.W.mg_of X G a_u_law_cell⟩,
      a_u_law_digits := _,
      d_u_law_digits := _,
      p_u_law_digits := ⟨F_u_law_digits, b_u_law_digits, PySem.W.mg_of X G a_u_law_digits⟩,
      a_u_law_many := _,
      d_u_law_many := _,
      p_u_law_many := ⟨F_u_law_many, b_u_law_many, PySem.W.mg_of X G a_u_law_many⟩,
      a_u_law_both := _,
      d_u_law_both := _,
      p_u_law_both := ⟨F_u_law_both, b_u_law_both, PySem.W.mg_of X G a_u_law_both⟩,
      a_law := _,
      d_law := _,
      p_law := ⟨F_law, b_law, PySem.W.mg_of X G a_law⟩,
      o_BearerError := ⟨⟨nm_BearerError, q_BearerError, N_BearerError, bs_BearerError, bm_BearerError, sn_BearerError, sub_BearerError, ab_BearerError, col_BearerError, dd_BearerError, m0_BearerError, m1_BearerError, m2_BearerError, m3_BearerError, m5_BearerError, xL_BearerError, xB_BearerError⟩, sa_BearerError, ex_BearerError, ty_BearerError, kC_BearerError⟩,
      i_BearerError := ii_BearerError,
      t_BearerError := ti_BearerError,
      e_BearerError := ⟨ga_BearerError, gg_BearerError, ex_BearerError, hd_BearerError, hc_BearerError, sn_get, tk_get, mo_BearerError⟩,
      s_BearerError_BearerError := sb_BearerError_BearerError,
      s_BearerError_NotValid := sb_BearerError_NotValid,
      y_BearerError := ty_BearerError,
      l_BearerError := ic_BearerError,
      o_NotValid := ⟨⟨nm_NotValid, q_NotValid, N_NotValid, bs_NotValid, bm_NotValid, sn_NotValid, sub_NotValid, ab_NotValid, col_NotValid, dd_NotValid, m0_NotValid, m1_NotValid, m2_NotValid, m3_NotValid, m5_NotValid, xL_NotValid, xB_NotValid⟩, sa_NotValid, ex_NotValid, ty_NotValid, kC_NotValid⟩,
      i_NotValid := ii_NotValid,
      t_NotValid := ti_NotValid,
      e_NotValid := ⟨ga_NotValid, gg_NotValid, ex_NotValid, hd_NotValid, hc_NotValid, sn_get, tk_get, mo_NotValid⟩,
      s_NotValid_BearerError := sb_NotValid_BearerError,
      s_NotValid_NotValid := sb_NotValid_NotValid,
      y_NotValid := ty_NotValid,
      l_NotValid := ic_NotValid,
      k_Sender := ⟨⟨pg_Sender, hd_Sender, po_Sender, sa_Sender⟩, ⟨mk_Sender, a_Sender___init__, i_Sender___init__, kc_Sender⟩⟩,
      f_Sender_bits := nf_Sender_bits,
      f_Sender_window := nf_Sender_window,
      f_Sender_low := nf_Sender_low,
      f_Sender_next := nf_Sender_next,
      f_Sender__begun := nf_Sender__begun,
      f_Sender__sent := nf_Sender__sent,
      f_Sender__waiting := nf_Sender__waiting,
      f_Sender__asked := nf_Sender__asked,
      f_Sender__quiet_turns := nf_Sender__quiet_turns,
      f_Sender__has_heard := nf_Sender__has_heard
    } : Tx P w K mg base))
theorem walk {l : PySem.W.OpenLaw} {q : Program} {loose : List Str} {XP : (Str → Option Value) → Heap → Prop} {YP : World → Heap → Prop} {d : DefRec} {K : Params → PySem.W.Frag} (hn : l.most = some 63) (hdf : d.params.defaults = [])
    (hY : ∀ (w : World) (h : Heap), YP w h → (K w.params).In h)
    (F : ∀ (w : World) (mg : Str → Option Value) (fa : Addr) (h : Heap), (K w.params).In h → h.Ns mainGlobals mg → mg d.name = some (.ref fa) →
      ∃ fd : FuncData, (∀ (s : Shared) (u : Value), BindsTo s fd ⟨[u], []⟩ [("script", u)]) ∧ ∀ base : Heap, (K w.params).In base → base.Ns mainGlobals mg → FnOk l.prog w (K w.params) mg base CX0 9 fa fd ["script"] (ip_law (K w.params))) :
    PySem.W.WalkO q loose XP YP l.row.toRowW d [] (fun f vs => PySem.call f vs) :=
  L2.walk_of (n := 63) (k := 9) (x := "script") (CX := fun _ => CX0) (sp := fun w => ip_law (K w.params)) hn (by decide) hdf ⟨rfl, by decide, by decide⟩ hY F (fun _ _ a ns hl _ hS => op_law ⟨a, ns, rfl, hS, hl, fun _ => rfl⟩) fun _ _ _ _ _ z => z
end My
open PySem PySem.W PyProof.Rows
set_option maxRecDepth 100000 in
set_option maxHeartbeats 0 in
theorem PySem.Challenge.cw_bearerwise_k36_senders_that_have_a_piece_holds : PySem.Challenge.rw_bearerwise_k36_senders_that_have_a_piece.Holds := by
  w_on; o_law; k_head; (case hw => w_witness2)
  k_fill
  refine My.walk (l := PySem.Challenge.rw_bearerwise_k36_senders_that_have_a_piece) rfl rfl (fun w h Y => PySem.W.kIn_of Y) ?F
  case F =>
    intro w mg fa h KX G hmg
    refine' My.all_mk KX G hmg ?z_all ?z_len ?z_range ?z_int ?z_sum ?z_zip ?z_min ?z_max ?z_isinstance ?z_list ?z_bool ?z_enumerate ?z_sorted ?z_LEAST_BITS ?z_GREATEST_BITS ?z_MOST_BYTES ?z_DATA ?z_WHOLE ?z_BEGINNING ?z_END ?z_WITHIN ?z_PATIENCE ?z_BearerError ?z_NotValid ?z_Sender ?a_BearerError___init__ ?i_BearerError___init__ ?l_BearerError___init__ ?c_BearerError___init__ ?k_BearerError___init__ ?a_is_between ?l_is_between ?c_is_between ?k_is_between ?a_check_bits ?l_check_bits ?c_check_bits ?k_check_bits ?a_is_packet ?l_is_packet ?c_is_packet ?k_is_packet ?a_true_rows ?l_true_rows ?c_true_rows ?k_true_rows ?a_field_bytes ?l_field_bytes ?c_field_bytes ?k_field_bytes ?a_pack ?l_pack ?c_pack ?k_pack ?a_window_size ?l_window_size ?c_window_size ?k_window_size ?a_short ?l_short ?c_short ?k_short ?a_distance ?l_distance ?c_distance ?k_distance ?a_read_short ?l_read_short ?c_read_short ?k_read_short ?a_u_has_offset ?l_u_has_offset ?c_u_has_offset ?k_u_has_offset ?a_u_data_widths ?l_u_data_widths ?c_u_data_widths ?k_u_data_widths ?a_data_piece ?l_data_piece ?c_data_piece ?k_data_piece ?a_u_part_of ?l_u_part_of ?c_u_part_of ?k_u_part_of ?a_cut ?l_cut ?c_cut ?k_cut ?a_u_rows_told ?l_u_rows_told ?c_u_rows_told ?k_u_rows_told ?a_Sender___init__ ?i_Sender___init__ ?l_Sender___init__ ?c_Sender___init__ ?k_Sender___init__ ?a_Sender_put ?i_Sender_put ?l_Sender_put ?c_Sender_put ?k_Sender_put ?a_Sender__first_left ?i_Sender__first_left ?l_Sender__first_left ?c_Sender__first_left ?k_Sender__first_left ?a_Sender__packet ?i_Sender__packet ?l_Sender__packet ?c_Sender__packet ?k_Sender__packet ?a_Sender__count_sent ?i_Sender__count_sent ?l_Sender__count_sent ?c_Sender__count_sent ?k_Sender__count_sent ?a_Sender_send ?i_Sender_send ?l_Sender_send ?c_Sender_send ?k_Sender_send ?a_Sender_has_piece ?i_Sender_has_piece ?l_Sender_has_piece ?c_Sender_has_piece ?k_Sender_has_piece ?a_Sender_take_status ?i_Sender_take_status ?l_Sender_take_status ?c_Sender_take_status ?k_Sender_take_status ?a_Sender__forget ?i_Sender__forget ?l_Sender__forget ?c_Sender__forget ?k_Sender__forget ?a_Sender__ask ?i_Sender__ask ?l_Sender__ask ?c_Sender__ask ?k_Sender__ask ?a_Sender_tick ?i_Sender_tick ?l_Sender_tick ?c_Sender_tick ?k_Sender_tick ?a_Sender_unconfirmed ?i_Sender_unconfirmed ?l_Sender_unconfirmed ?c_Sender_unconfirmed ?k_Sender_unconfirmed ?a_Sender_waiting ?i_Sender_waiting ?l_Sender_waiting ?c_Sender_waiting ?k_Sender_waiting ?a_Sender_is_idle ?i_Sender_is_idle ?l_Sender_is_idle ?c_Sender_is_idle ?k_Sender_is_idle ?a_u_law_cell ?l_u_law_cell ?c_u_law_cell ?k_u_law_cell ?a_u_law_digits ?l_u_law_digits ?c_u_law_digits ?k_u_law_digits ?a_u_law_many ?l_u_law_many ?c_u_law_many ?k_u_law_many ?a_u_law_both ?l_u_law_both ?c_u_law_both ?k_u_law_both ?a_law ?l_law ?c_law ?k_law ?xL_BearerError ?xB_BearerError ?sa_BearerError ?ex_BearerError ?ty_BearerError ?kC_BearerError ?ii_BearerError ?ti_BearerError ?ga_BearerError ?gg_BearerError ?hd_BearerError ?hc_BearerError ?mo_BearerError ?ic_BearerError ?sb_BearerError_BearerError ?sb_BearerError_NotValid ?xL_NotValid ?xB_NotValid ?sa_NotValid ?ex_NotValid ?ty_NotValid ?kC_NotValid ?ii_NotValid ?ti_NotValid ?ga_NotValid ?gg_NotValid ?hd_NotValid ?hc_NotValid ?mo_NotValid ?ic_NotValid ?sb_NotValid_BearerError ?sb_NotValid_NotValid ?pg_Sender ?hd_Sender ?po_Sender ?sa_Sender ?mk_Sender ?kc_Sender ?nf_Sender_bits ?nf_Sender_window ?nf_Sender_low ?nf_Sender_next ?nf_Sender__begun ?nf_Sender__sent ?nf_Sender__waiting ?nf_Sender__asked ?nf_Sender__quiet_turns ?nf_Sender__has_heard ?sn_get ?tk_get
    (case z_all => k_is)
    (case z_len => k_is)
    (case z_range => k_is)
    (case z_int => k_is)
    (case z_sum => k_is)
    (case z_zip => k_is)
    (case z_min => k_is)
    (case z_max => k_is)
    (case z_isinstance => k_is)
    (case z_list => k_is)
    (case z_bool => k_is)
    (case z_enumerate => k_is)
    (case z_sorted => k_is)
    (case z_LEAST_BITS => k_is)
    (case z_GREATEST_BITS => k_is)
    (case z_MOST_BYTES => k_is)
    (case z_DATA => k_is)
    (case z_WHOLE => k_is)
    (case z_BEGINNING => k_is)
    (case z_END => k_is)
    (case z_WITHIN => k_is)
    (case z_PATIENCE => k_is)
    (case z_BearerError => k_is)
    (case z_NotValid => k_is)
    (case z_Sender => k_is)
    (case a_BearerError___init__ => k_is)
    (case i_BearerError___init__ => k_is)
    (case l_BearerError___init__ => k_is)
    (case c_BearerError___init__ => k_is)
    (case k_BearerError___init__ => k_is)
    (case a_is_between => k_is)
    (case l_is_between => k_is)
    (case c_is_between => k_is)
    (case k_is_between => k_is)
    (case a_check_bits => k_is)
    (case l_check_bits => k_is)
    (case c_check_bits => k_is)
    (case k_check_bits => k_is)
    (case a_is_packet => k_is)
    (case l_is_packet => k_is)
    (case c_is_packet => k_is)
    (case k_is_packet => k_is)
    (case a_true_rows => k_is)
    (case l_true_rows => k_is)
    (case c_true_rows => k_is)
    (case k_true_rows => k_is)
    (case a_field_bytes => k_is)
    (case l_field_bytes => k_is)
    (case c_field_bytes => k_is)
    (case k_field_bytes => k_is)
    (case a_pack => k_is)
    (case l_pack => k_is)
    (case c_pack => k_is)
    (case k_pack => k_is)
    (case a_window_size => k_is)
    (case l_window_size => k_is)
    (case c_window_size => k_is)
    (case k_window_size => k_is)
    (case a_short => k_is)
    (case l_short => k_is)
    (case c_short => k_is)
    (case k_short => k_is)
    (case a_distance => k_is)
    (case l_distance => k_is)
    (case c_distance => k_is)
    (case k_distance => k_is)
    (case a_read_short => k_is)
    (case l_read_short => k_is)
    (case c_read_short => k_is)
    (case k_read_short => k_is)
    (case a_u_has_offset => k_is)
    (case l_u_has_offset => k_is)
    (case c_u_has_offset => k_is)
    (case k_u_has_offset => k_is)
    (case a_u_data_widths => k_is)
    (case l_u_data_widths => k_is)
    (case c_u_data_widths => k_is)
    (case k_u_data_widths => k_is)
    (case a_data_piece => k_is)
    (case l_data_piece => k_is)
    (case c_data_piece => k_is)
    (case k_data_piece => k_is)
    (case a_u_part_of => k_is)
    (case l_u_part_of => k_is)
    (case c_u_part_of => k_is)
    (case k_u_part_of => k_is)
    (case a_cut => k_is)
    (case l_cut => k_is)
    (case c_cut => k_is)
    (case k_cut => k_is)
    (case a_u_rows_told => k_is)
    (case l_u_rows_told => k_is)
    (case c_u_rows_told => k_is)
    (case k_u_rows_told => k_is)
    (case a_Sender___init__ => k_is)
    (case i_Sender___init__ => k_is)
    (case l_Sender___init__ => k_is)
    (case c_Sender___init__ => k_is)
    (case k_Sender___init__ => k_is)
    (case a_Sender_put => k_is)
    (case i_Sender_put => k_is)
    (case l_Sender_put => k_is)
    (case c_Sender_put => k_is)
    (case k_Sender_put => k_is)
    (case a_Sender__first_left => k_is)
    (case i_Sender__first_left => k_is)
    (case l_Sender__first_left => k_is)
    (case c_Sender__first_left => k_is)
    (case k_Sender__first_left => k_is)
    (case a_Sender__packet => k_is)
    (case i_Sender__packet => k_is)
    (case l_Sender__packet => k_is)
    (case c_Sender__packet => k_is)
    (case k_Sender__packet => k_is)
    (case a_Sender__count_sent => k_is)
    (case i_Sender__count_sent => k_is)
    (case l_Sender__count_sent => k_is)
    (case c_Sender__count_sent => k_is)
    (case k_Sender__count_sent => k_is)
    (case a_Sender_send => k_is)
    (case i_Sender_send => k_is)
    (case l_Sender_send => k_is)
    (case c_Sender_send => k_is)
    (case k_Sender_send => k_is)
    (case a_Sender_has_piece => k_is)
    (case i_Sender_has_piece => k_is)
    (case l_Sender_has_piece => k_is)
    (case c_Sender_has_piece => k_is)
    (case k_Sender_has_piece => k_is)
    (case a_Sender_take_status => k_is)
    (case i_Sender_take_status => k_is)
    (case l_Sender_take_status => k_is)
    (case c_Sender_take_status => k_is)
    (case k_Sender_take_status => k_is)
    (case a_Sender__forget => k_is)
    (case i_Sender__forget => k_is)
    (case l_Sender__forget => k_is)
    (case c_Sender__forget => k_is)
    (case k_Sender__forget => k_is)
    (case a_Sender__ask => k_is)
    (case i_Sender__ask => k_is)
    (case l_Sender__ask => k_is)
    (case c_Sender__ask => k_is)
    (case k_Sender__ask => k_is)
    (case a_Sender_tick => k_is)
    (case i_Sender_tick => k_is)
    (case l_Sender_tick => k_is)
    (case c_Sender_tick => k_is)
    (case k_Sender_tick => k_is)
    (case a_Sender_unconfirmed => k_is)
    (case i_Sender_unconfirmed => k_is)
    (case l_Sender_unconfirmed => k_is)
    (case c_Sender_unconfirmed => k_is)
    (case k_Sender_unconfirmed => k_is)
    (case a_Sender_waiting => k_is)
    (case i_Sender_waiting => k_is)
    (case l_Sender_waiting => k_is)
    (case c_Sender_waiting => k_is)
    (case k_Sender_waiting => k_is)
    (case a_Sender_is_idle => k_is)
    (case i_Sender_is_idle => k_is)
    (case l_Sender_is_idle => k_is)
    (case c_Sender_is_idle => k_is)
    (case k_Sender_is_idle => k_is)
    (case a_u_law_cell => k_is)
    (case l_u_law_cell => k_is)
    (case c_u_law_cell => k_is)
    (case k_u_law_cell => k_is)
    (case a_u_law_digits => k_is)
    (case l_u_law_digits => k_is)
    (case c_u_law_digits => k_is)
    (case k_u_law_digits => k_is)
    (case a_u_law_many => k_is)
    (case l_u_law_many => k_is)
    (case c_u_law_many => k_is)
    (case k_u_law_many => k_is)
    (case a_u_law_both => k_is)
    (case l_u_law_both => k_is)
    (case c_u_law_both => k_is)
    (case k_u_law_both => k_is)
    (case a_law => k_is)
    (case l_law => k_is)
    (case c_law => k_is)
    (case k_law => k_is)
    (case xL_BearerError => k_is)
    (case xB_BearerError => decide +kernel)
    (case sa_BearerError => k_is)
    (case ex_BearerError => k_is)
    (case ty_BearerError => k_is)
    (case kC_BearerError => k_is)
    (case ii_BearerError => k_is)
    (case ti_BearerError => k_is)
    (case ga_BearerError => k_is)
    (case gg_BearerError => k_is)
    (case hd_BearerError => k_is)
    (case hc_BearerError => k_is)
    (case mo_BearerError => k_is)
    (case ic_BearerError => k_is)
    (case sb_BearerError_BearerError => first | rfl | k_is)
    (case sb_BearerError_NotValid => first | rfl | k_is)
    (case xL_NotValid => k_is)
    (case xB_NotValid => decide +kernel)
    (case sa_NotValid => k_is)
    (case ex_NotValid => k_is)
    (case ty_NotValid => k_is)
    (case kC_NotValid => k_is)
    (case ii_NotValid => k_is)
    (case ti_NotValid => k_is)
    (case ga_NotValid => k_is)
    (case gg_NotValid => k_is)
    (case hd_NotValid => k_is)
    (case hc_NotValid => k_is)
    (case mo_NotValid => k_is)
    (case ic_NotValid => k_is)
    (case sb_NotValid_BearerError => first | rfl | k_is)
    (case sb_NotValid_NotValid => first | rfl | k_is)
    (case pg_Sender => k_is)
    (case hd_Sender => k_is)
    (case po_Sender => k_is)
    (case sa_Sender => k_is)
    (case mk_Sender => k_is)
    (case kc_Sender => k_is)
    (case nf_Sender_bits => k_is)
    (case nf_Sender_window => k_is)
    (case nf_Sender_low => k_is)
    (case nf_Sender_next => k_is)
    (case nf_Sender__begun => k_is)
    (case nf_Sender__sent => k_is)
    (case nf_Sender__waiting => k_is)
    (case nf_Sender__asked => k_is)
    (case nf_Sender__quiet_turns => k_is)
    (case nf_Sender__has_heard => k_is)
    (case sn_get => k_is)
    (case tk_get => k_is)
