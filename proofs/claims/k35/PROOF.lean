import PyProof.Rows.All
import Wide.All
import OpenK.AllK
import Wide.FinOn
import HandS.ForMost
import HandS.ForExc
import HandS.IsInst
import HandS.ExcIs
import HandS.ExcInit
import HandS.Wide
import HandS.WideBits
import HandS.Zip
import HandS.Flow
import HandS.Flt
import HandS.Walk
import HandS.More
import HandS.Deep
import HandS.SetKeys
import HandS.SortKw
import HandS.Conv
import KE.KDictWalk
import PySem.Challenge.RW_bearerwise_k35_airs_keep_their_order
set_option Elab.async false
set_option linter.all false
set_option maxRecDepth 100000
set_option maxHeartbeats 4000000
namespace My
open PySem L2

/-! ### a def as the top has left it -/
structure DefAt (K : PySem.W.Frag) (mg : Str → Option Value) (x q : Str) (st : Stmt) (ps : List Str) (f : Addr) (fd : FuncData) : Prop where
  F : Fun K x q st f fd
  b : Binds K fd ps []
  m : mg x = some (.ref f)
structure MethAt (K : PySem.W.Frag) (C : Addr) (x q : Str) (st : Stmt) (ps : List Str) (f : Addr) (fd : FuncData) : Prop where
  F : Fun K x q st f fd
  b : Binds K fd ps []
  me : Meth K C x f

structure DefAt0 (K : PySem.W.Frag) (x q : Str) (st : Stmt) (ps : List Str) (f : Addr) (fd : FuncData) : Prop where
  F : Fun K x q st f fd
  b : Binds K fd ps []
structure ClsAt (K : PySem.W.Frag) (C f : Addr) : Prop where
  cl : Cls K C
  mk' : Mk K C f

/-! ### heaps -/
theorem same_upd {H : Hp} {p : Addr} {o : HO} (h : H p = none) : Same H (upd H p o) := fun b x e => by
  rw [upd_ne (ne_of_none e h)]
  exact e
theorem same_none {H H' : Hp} {p : Addr} (s : Same H H') (h : H' p = none) : H p = none := by
  cases e : H p with
  | none => rfl
  | some o =>
    rw [s _ _ e] at h
    cases h
/-- an object that H does not know may change -/
theorem same_mut {H H' : Hp} {p : Addr} {o : HO} (e : Same H H') (h : H p = none) : Same H (upd H' p o) := fun b x hb => by
  rw [upd_ne (ne_of_none hb h)]
  exact e b x hb
theorem sq_of {K : PySem.W.Frag} {H : Hp} {a : Addr} {xs : List V} (h : H a = some (.lst xs)) : SqL K H a xs := Or.inl (Or.inl h)
theorem st_of {K : PySem.W.Frag} {H : Hp} {a : Addr} {xs : List V} (h : H a = some (.tup xs)) : SqT K H a xs := Or.inl (Or.inl h)
theorem Same.sqt {K : PySem.W.Frag} {H H' : Hp} {a : Addr} {xs : List V} (e : Same H H') (h : SqT K H a xs) : SqT K H' a xs := by
  rcases h with (h | ⟨o, h⟩) | h
  · exact .inl (.inl (e _ _ h))
  · exact .inl (.inr ⟨o, e _ _ h⟩)
  · exact .inr h
theorem hp_step {H H' : Hp} {a : Addr} {o : HO} (h : H a = some o) (s : Same H H') : H' a = some o := s _ _ h
theorem sq_step {K : PySem.W.Frag} {H H' : Hp} {a : Addr} {xs : List V} (h : SqL K H a xs) (s : Same H H') : SqL K H' a xs := s.seq h
theorem sqt_step {K : PySem.W.Frag} {H H' : Hp} {a : Addr} {xs : List V} (h : SqT K H a xs) (s : Same H H') : SqT K H' a xs := Same.sqt s h
theorem sz {n : Nat} (h : n ≤ 1000000) : n ≤ sizeLine := Nat.le_trans h (by rw [sizeLine_eq]; decide)
theorem szl {n : Nat} (h : n < 1000000) : n < sizeLine := Nat.lt_of_lt_of_le h (by rw [sizeLine_eq]; decide)

/-- the promises' shapes: a value and the heap as it was; a value; a new list -/
def RV (v : V) (H : Hp) (Q : VK) : Prop := ∀ H', Same H H' → Q v H'
def RL (xs : List V) (H : Hp) (Q : VK) : Prop := ∀ p H', H p = none → Same H H' → H' p = some (.lst xs) → Q (.ref p) H'
def RT (xs : List V) (H : Hp) (Q : VK) : Prop := ∀ p H', H p = none → Same H H' → H' p = some (.tup xs) → Q (.ref p) H'

/-! ### stops for the walk: a proposition that no tuple opens -/
inductive Stop (p : Prop) : Prop where
  | a (h : p) : Stop p
  | b (h : p) : Stop p
theorem Stop.un {p : Prop} (h : Stop p) : p := by cases h <;> assumption

/-! ### an exception of an own class whose __init__ takes nothing and stores nothing: X() -/
def spInit0 : Sp := fun vs H Q _ => ∃ a, vs = [.ref a] ∧ Q .non H
structure PlainExc (P : Program) (w : World) (K : PySem.W.Frag) (mg : Str → Option Value) (base : Heap) (x : Str) (C fI : Addr) (fdI : FuncData) : Prop where
  T : OexC K C
  iC : PySem.W.findIn K (.ref C) "__init__" = some (some (.ref fI))
  tI : PySem.W.typeIn K (.ref fI) = some (.type "function")
  F1 : FnOk P w K mg base CX0 1 fI fdI ["self"] spInit0
  bI : Binds K fdI ["self"] []
  m : mg x = some (.ref C)
open PySem.Spec PyProof.Rows in
theorem mk_endN {X : Cx} {pins : List (Addr × Obj)} {σ : L2.St} {H1 : Hp} {Q : XK} {hp hp2 h2 : Heap} {g1 g2 : Array GenState} {d1 d2 : Drawn} {t1 t2 : Nat} {os1 os2 : OsState} {a C : Addr} (T : Raises X (.ref C)) (I1 : Inv X pins σ H1 ⟨hp, g1, d1, t1, os1⟩)
    (ha : hp.objs.size ≤ a) (k : ∀ b o, hp.get? b = some o → hp2.get? b = some o) (un : Un (frs X.stack) [] (upd H1 a (exo a C none)) (upd H1 a (exo a C none)) hp2 h2) (hok : HOk X.prog X.w (upd H1 a (exo a C none)) h2) (ho : os2 = os1) (hb : AllBare g2)
    (q : Q (.ref C) none H1) : MkP X pins σ Q (.ref a) ⟨h2, g2, d2, t2, os2⟩ := by
  obtain ⟨t0, hoe⟩ := exo_at hok upd_same
  have hn : H1 a = none := I1.hok.fresh ha
  obtain ⟨G, g1', g2'⟩ := restrict h2 fun b => decide (b ≠ a)
  have gk : ∀ b, b ≠ a → G.get? b = h2.get? b := fun b hb => g1' b (decide_eq_true hb)
  have ge : G.get? a = none := g2' a (by simp)
  have nha : ∀ {b : Addr} {o : Obj}, hp.get? b = some o → b ≠ a := fun {b o} z => Nat.ne_of_lt (Nat.lt_of_lt_of_le (Heap.lt_size z) ha)
  have up : ∀ {b : Addr}, b ≠ a → H1 b = none → upd H1 a (exo a C none) b = none := fun {b} hb n => by rw [upd_ne hb]; exact n
  have U : Un (frs X.stack) [] H1 H1 hp G := {
    keep := fun b o z n hf hx => by
      rw [gk b (nha z)]
      exact un.keep b o (k b o z) (up (nha z) n) hf hx
    slot := fun b o z n hf hx => by
      rw [gk b (nha z)]
      exact un.slot b o (k b o z) (up (nha z) n) hf hx
    free := fun b o z n hx => n
    there := fun b o z hx => by
      rw [gk b (nha z)]
      exact un.there b o (k b o z) hx
    tups := fun b xs z => z
    frzs := fun b o v z => z
    tbls := fun b ps z => ⟨#[], by rw [z]; simp⟩ }
  have hok3 : HOk X.prog X.w H1 G := fun b o z => by
    have hba : b ≠ a := fun e => by
      rw [e, hn] at z
      cases z
    have z2 : upd H1 a (exo a C none) b = some o := by rw [upd_ne hba]; exact z
    have noa : ∀ {c : Addr} {u : HO}, H1 c = some u → c ≠ a := fun {c u} hc e => by
      rw [e, hn] at hc
      cases hc
    exact (hok b o z2).stay (fun c v hc y => by
        have hca : c ≠ a := by
          rcases hc with hc | hc
          · rw [hc]
            exact hba
          · exact fun e => by
              rw [e, upd_same] at hc
              exact exo_own (Option.some.inj hc)
        rw [gk c hca]
        exact y)
      (fun c hc => by
        by_cases e : c = a
        · rw [e, upd_same] at hc
          exact absurd (Option.some.inj hc) exo_own
        · rw [upd_ne e] at hc
          exact hc)
      (fun c xs hc => by
        by_cases e : c = a
        · rw [e, upd_same] at hc
          exact absurd (Option.some.inj hc) exo_tup
        · rw [upd_ne e] at hc
          exact hc)
  have J : Inv X pins σ H1 ⟨G, g2, d2, t2, os2⟩ := I1.call' (ch := []) ho U hok3 hb (fun b z => absurd z (by simp))
  refine ⟨a, _, _, ⟨G, g2, d2, t2, os2⟩, _, .ref C, none, rfl, J, fun b o z => ?_, ge, hoe, ⟨rfl, rfl⟩, rfl, rfl, hn, rfl, hb, T, q⟩
  by_cases hba : b = a
  · rw [hba, ge] at z
    cases z
  · exact (gk b hba).symm.trans z
open PySem.Spec PyProof.Rows in
theorem pmk_plain {X : Cx} {x : Str} {C fI : Addr} {fdI : FuncData} {p pos : Pos} (T : PlainExc X.prog X.w X.K X.mg X.base x C fI fdI) (hr : Room 2 X.A) (hg : Gl X x) (hdb : (x == ("__debug__" : Str)) = false := by decide) :
    PMk X (.Call (.Name x p) [] [] pos) (fun _ H Q => Q (.ref C) none H) := by
  intro pins s σ H Q I h
  obtain ⟨nm, q, N, bs, bm, sn, sub, ab, col, dd, k0, k1, k2, k3, k5, hC, hbm⟩ := T.T.cls
  refine wpAny_Call_Name_kw (ld_glob I hg T.m ?_ hdb)
  refine PySem.W.callWith_K0 I.kIn T.T.kC ?_
  show wpAny _ _ (call (.ref C) []) _ _ _
  obtain ⟨hp, g, dr, tk, os⟩ := s
  have hsz : hp.objs.size ≤ hp.objs.size + 1 := Nat.le_succ _
  have hn : H (hp.objs.size + 1) = none := I.hok.fresh hsz
  have kk : ∀ b o, hp.get? b = some o → ((hp.push (PySem.W.kdv_tup [])).push (PySem.HandSPX.excO C hp.objs.size)).get? b = some o := fun b o e => Heap.get?_push_of_some _ (Heap.get?_push_of_some _ e)
  have hget : ((hp.push (PySem.W.kdv_tup [])).push (PySem.HandSPX.excO C hp.objs.size)).get? (hp.objs.size + 1) = some (PySem.HandSPX.excO C hp.objs.size) := by heap_get
  have I2 : Inv X pins σ (upd H (hp.objs.size + 1) (exo (hp.objs.size + 1) C none)) ⟨(hp.push (PySem.W.kdv_tup [])).push (PySem.HandSPX.excO C hp.objs.size), g, dr, tk, os⟩ :=
    I.laid (t' := tk) (a := hp.objs.size + 1) (o := exo (hp.objs.size + 1) C none) (h' := (hp.push (PySem.W.kdv_tup [])).push (PySem.HandSPX.excO C hp.objs.size)) kk hsz (exo_ok hget)
  have r2 : Vals [V.ref (hp.objs.size + 1)] [Value.ref (hp.objs.size + 1)] := .cons rfl .nil
  have hq : spInit0 [V.ref (hp.objs.size + 1)] (upd H (hp.objs.size + 1) (exo (hp.objs.size + 1) C none)) (fun v H2 => v = .non ∧ H2 = upd H (hp.objs.size + 1) (exo (hp.objs.size + 1) C none)) (fun _ _ _ => False) := ⟨_, rfl, rfl, rfl⟩
  refine wpAny_call (PySem.HandSPX.call_own PySem.F.excBase_ValueError (fun Y => PySem.HandSPX.refsVE_contains Y bm hbm) (I.kIn _ _ hC) (PySem.W.looks_findIn I.kIn T.iC) (fun self => PySem.W.bind_fn I.kIn self T.tI) (Nat.zero_le _)
    (codeAny_mono (T.F1.run _ X.stack _ _ ⟨[Value.ref (hp.objs.size + 1)], []⟩ [Value.ref (hp.objs.size + 1)] _ _ (fun _ _ _ => False) (hr.make C [] []) (I2.env0.make C [] []) (T.bI _ [Value.ref (hp.objs.size + 1)] I2.kIn rfl) r2 hq) fun r s' hq' => ?_))
  cases r with
  | error er => exact hq'.elim
  | ok fl =>
    cases fl with
    | ret u =>
      obtain ⟨v, H2, os2, bare2, un2, hok2, rv, ev, eH⟩ := hq'
      subst ev
      subst eH
      obtain ⟨h2, g2, d2, t2, os'⟩ := s'
      exact ⟨rv, mk_endN (raises_own T.T.exC T.T.tyC) I hsz kk un2 hok2 os2 bare2 h⟩
    | next => exact False.elim hq'
    | brk => exact False.elim hq'
    | cont => exact False.elim hq'

theorem ite_t {c A B : Prop} [Decidable c] (hc : c) (h : A) : if decide c = true then A else B := by
  rw [decide_eq_true hc]
  exact iteT h
theorem ite_f {c A B : Prop} [Decidable c] (hc : ¬ c) (h : B) : if decide c = true then A else B := by
  rw [decide_eq_false hc]
  exact iteF h
theorem ite_nt {c A B : Prop} [Decidable c] (hc : ¬ c) (h : A) : if (!decide c) = true then A else B := by
  rw [decide_eq_false hc]
  exact iteT h
theorem ite_nf {c A B : Prop} [Decidable c] (hc : c) (h : B) : if (!decide c) = true then A else B := by
  rw [decide_eq_true hc]
  exact iteF h
theorem ite_by {c A B : Prop} [Decidable c] (h1 : c → A) (h2 : ¬ c → B) : if decide c = true then A else B := by
  by_cases h : c
  · exact ite_t h (h1 h)
  · exact ite_f h (h2 h)
theorem ite_nby {c A B : Prop} [Decidable c] (h1 : ¬ c → A) (h2 : c → B) : if (!decide c) = true then A else B := by
  by_cases h : c
  · exact ite_nf h (h2 h)
  · exact ite_nt h (h1 h)
/-- an item of the ints -/
theorem at_int {ns : List Int} {k : Int} (h0 : 0 ≤ k) (h1 : k < (ns.length : Int)) : atI (ns.map V.int) k = some (V.int (ns.getD k.toNat 0)) := by
  refine at_of (j := k.toNat) (by omega) ?_
  have h2 : k.toNat < ns.length := by omega
  rw [List.getElem?_map, List.getElem?_eq_getElem h2, List.getD_eq_getElem?_getD, List.getElem?_eq_getElem h2]
  rfl
theorem two_pos1 (k : Nat) : (0 : Int) < 1 * 2 ^ k := by
  rw [Int.one_mul]
  exact Int.pow_pos (by decide)
theorem q_int {Q : VK} {x y : Int} {H : Hp} (q : Q (.int x) H) (e : x = y) : Q (.int y) H := e ▸ q
theorem q_bl {Q : VK} {x y : Bool} {H : Hp} (q : Q (.bl x) H) (e : x = y) : Q (.bl y) H := e ▸ q

/-! ### readings that stop the walk where a new object comes: told by what holds of the new heap -/
/-- the closure of a reading: some wish that it keeps, and that is enough -/
def cTE (t : TE) : TE := fun σ H Q => ∃ R : VK, t σ H R ∧ ∀ v H', R v H' → Q v H'
def cTA (t : TA) : TA := fun σ H Q => ∃ R : List V → Hp → Prop, t σ H R ∧ ∀ v H', R v H' → Q v H'
def cTT (t : TT) : TT := fun σ H Q => ∃ R : Bool → Hp → Prop, t σ H R ∧ ∀ v H', R v H' → Q v H'
section
variable {X : Cx} {e : Expr} {es : List Expr} {te : TE} {ta : TA} {tt : TT} {pos : Pos}
theorem pe_c (h : PE X e te) : PE X e (cTE te) := ⟨fun pins s σ H Q I ⟨R, h1, h2⟩ => thn (h.run pins s σ H R I h1) fun u s1 ⟨v, H1, I1, r, q⟩ => ⟨v, H1, I1, r, h2 _ _ q⟩⟩
theorem pa_c (h : PA X es ta) : PA X es (cTA ta) := ⟨fun pos pins s σ H Q I ⟨R, h1, h2⟩ => thn (h.run pos pins s σ H R I h1) fun u s1 ⟨v, H1, I1, r, q⟩ => ⟨v, H1, I1, r, h2 _ _ q⟩⟩
theorem pt_c (h : PT X e tt) : PT X e (cTT tt) := ⟨fun pins s σ H Q I ⟨R, h1, h2⟩ => thn (h.run pins s σ H R I h1) fun u s1 ⟨H1, I1, q⟩ => ⟨H1, I1, h2 _ _ q⟩⟩
theorem pe_weak {te' : TE} (h : PE X e te) (w : ∀ σ H Q, te' σ H Q → te σ H Q) : PE X e te' := ⟨fun pins s σ H Q I q => h.run pins s σ H Q I (w σ H Q q)⟩
theorem ps_weak {st : Stmt} {t t' : TS} (h : PS X st t) (w : ∀ D σ H, t' D σ H → t D σ H) : PS X st t' := ⟨fun pins s σ H D I q => h.run pins s σ H D I (w D σ H q)⟩
end
/-- what is wanted of a new object -/
def NewO (o : HO) (H : Hp) (Q : VK) : Prop := ∀ p H', H p = none → Same H H' → H' p = some o → Q (.ref p) H'
theorem NewO.go {o : HO} {H : Hp} {Q : VK} (h : NewO o H Q) : ∀ p, H p = none → Q (.ref p) (upd H p o) := fun p hp => h p _ hp (same_upd hp) upd_same
@[irreducible] def mTup (t : TA) : TE := fun σ H Q => t σ H fun xs H1 => xs.length ≤ 1000 ∧ NewO (.tup xs) H1 Q
@[irreducible] def mLst (t : TA) : TE := fun σ H Q => t σ H fun xs H1 => xs.length ≤ 1000 ∧ NewO (.lst xs) H1 Q
theorem rd_tup {t : TA} {σ : L2.St} {H : Hp} {Q : VK} (h : t σ H fun xs H1 => xs.length ≤ 1000 ∧ NewO (.tup xs) H1 Q) : mTup t σ H Q := by
  unfold mTup
  exact h
theorem rd_lst {t : TA} {σ : L2.St} {H : Hp} {Q : VK} (h : t σ H fun xs H1 => xs.length ≤ 1000 ∧ NewO (.lst xs) H1 Q) : mLst t σ H Q := by
  unfold mLst
  exact h
@[irreducible] def mCat (K : PySem.W.Frag) : R2 := fun x y H Q => ∃ l b xs zs, x = .ref l ∧ y = .ref b ∧ H l = some (.lst xs) ∧ H b = some (.lst zs) ∧ xs.length + zs.length ≤ 1000000 ∧ NewO (.lst (xs ++ zs)) H Q
theorem rd_cat {K : PySem.W.Frag} {l b : Addr} {xs zs : List V} {H : Hp} {Q : VK} (h1 : H l = some (.lst xs)) (h2 : H b = some (.lst zs)) (hz : xs.length + zs.length ≤ 1000000) (h : NewO (.lst (xs ++ zs)) H Q) : mCat K (.ref l) (.ref b) H Q := by
  unfold mCat
  exact ⟨l, b, xs, zs, rfl, rfl, h1, h2, hz, h⟩
@[irreducible] def mRep : R2 := fun x y H Q => ∃ l k xs, x = .ref l ∧ y = .int k ∧ H l = some (.lst xs) ∧ 0 ≤ k ∧ k ≤ 100000 ∧ xs.length * k.toNat ≤ 1000000 ∧ NewO (.lst (List.replicate k.toNat xs).flatten) H Q
@[irreducible] def mSlL (K : PySem.W.Frag) : V → Option Int → Option Int → Hp → VK → Prop := fun x lo hi H Q => ∃ a xs, x = .ref a ∧ SqL K H a xs ∧ NewO (.lst (cutV xs lo hi)) H Q
theorem rd_sl {K : PySem.W.Frag} {a : Addr} {xs : List V} {lo hi : Option Int} {H : Hp} {Q : VK} (h1 : SqL K H a xs) (h : NewO (.lst (cutV xs lo hi)) H Q) : mSlL K (.ref a) lo hi H Q := by
  unfold mSlL
  exact ⟨a, xs, rfl, h1, h⟩
@[irreducible] def mListOf (K : PySem.W.Frag) : List V → Hp → VK → Prop := fun xs H Q => ∃ p ys, xs = [.ref p] ∧ (SqL K H p ys ∨ SqT K H p ys) ∧ NewO (.lst ys) H Q
theorem rd_list {K : PySem.W.Frag} {a : Addr} {xs : List V} {H : Hp} {Q : VK} (h1 : SqL K H a xs) (h : NewO (.lst xs) H Q) : mListOf K [.ref a] H Q := by
  unfold mListOf
  exact ⟨a, xs, rfl, .inl h1, h⟩
/-- the elements of a comprehension, one by one: what each gives, the heap grown at most -/
def Elt (te : TE) (σ : L2.St) (H : Hp) (y : V) : Prop := ∀ H', Same H H' → te σ H' fun v H'' => v = y ∧ Same H' H''
@[irreducible] def mLcR1 (ta : TA) (j : Nat) (te : TE) (vs : List Nat) : TE := fun σ H Q => ta σ H fun ws H1 => ∃ (n : Int) (f : Nat → V), ws = [.int n] ∧ (-100000 ≤ n ∧ n ≤ 100000) ∧ (∀ i, i < n.toNat → Elt te ((wipe σ vs).set j (some (.int (i : Nat)))) H1 (f i)) ∧ NewO (.lst ((List.range n.toNat).map f)) H1 Q
theorem rd_lcR1 {ta : TA} {j : Nat} {te : TE} {vs : List Nat} {σ : L2.St} {H : Hp} {Q : VK} (h : ta σ H fun ws H1 => ∃ (n : Int) (f : Nat → V), ws = [.int n] ∧ (-100000 ≤ n ∧ n ≤ 100000) ∧ (∀ i, i < n.toNat → Elt te ((wipe σ vs).set j (some (.int (i : Nat)))) H1 (f i)) ∧ NewO (.lst ((List.range n.toNat).map f)) H1 Q) : mLcR1 ta j te vs σ H Q := by
  unfold mLcR1
  exact h
@[irreducible] def mLcL (K : PySem.W.Frag) (tl : TE) (j : Nat) (te : TE) (vs : List Nat) : TE := fun σ H Q => tl σ H fun x H1 => ∃ (a : Addr) (xs : List V) (f : V → V), x = .ref a ∧ SqL K H1 a xs ∧ xs.length ≤ 100000 ∧ (∀ y, y ∈ xs → Elt te ((wipe σ vs).set j (some y)) H1 (f y)) ∧ NewO (.lst (xs.map f)) H1 Q
theorem rd_lcL {K : PySem.W.Frag} {tl : TE} {j : Nat} {te : TE} {vs : List Nat} {σ : L2.St} {H : Hp} {Q : VK} (h : tl σ H fun x H1 => ∃ (a : Addr) (xs : List V) (f : V → V), x = .ref a ∧ SqL K H1 a xs ∧ xs.length ≤ 100000 ∧ (∀ y, y ∈ xs → Elt te ((wipe σ vs).set j (some y)) H1 (f y)) ∧ NewO (.lst (xs.map f)) H1 Q) : mLcL K tl j te vs σ H Q := by
  unfold mLcL
  exact h
theorem wipe_set {σ : L2.St} {vs : List Nat} {j : Nat} {x : Option V} (hj : vs = [j]) : wipe ((wipe σ vs).set j x) vs = wipe σ vs := by
  subst hj
  show ((σ.set j none).set j x).set j none = σ.set j none
  rw [List.set_set, List.set_set]
section
variable {X : Cx} {e : Expr} {es : List Expr} {te : TE} {t ta : TA} {tt : TT} {pos : Pos}
theorem pe_tupM {x1} (h : PA X es t) : PE X (.Tuple es x1 pos) (mTup t) := pe_weak (pe_tup (pa_c h)) fun σ H Q q => by
  unfold mTup at q
  exact ⟨_, q, fun xs H1 r => ⟨sz (Nat.le_trans r.1 (by decide)), r.2.go⟩⟩
theorem pe_lstM (h : PA X es t) : PE X (.List es pos) (mLst t) := pe_weak (pe_lst (pa_c h)) fun σ H Q q => by
  unfold mLst at q
  exact ⟨_, q, fun xs H1 r => ⟨sz (Nat.le_trans r.1 (by decide)), r.2.go⟩⟩
theorem op_catM : OpR X (binaryOp .Add) (mCat X.K) := fun pins s σ H x y v u Q I rx ry q => op_cat pins s σ H x y v u Q I rx ry (by
  unfold mCat at q
  obtain ⟨l, b, xs, zs, e1, e2, h1, h2, hz, h⟩ := q
  exact ⟨l, b, xs, zs, e1, e2, h1, h2, sz hz, h.go⟩)
theorem sl_listM : SlR X (mSlL X.K) := fun pins s σ H x v vl vu lo hi sl Q I rx hs pl pu q => sl_list pins s σ H x v vl vu lo hi sl Q I rx hs pl pu (by
  unfold mSlL at q
  obtain ⟨a, xs, e1, h1, h⟩ := q
  exact ⟨a, xs, e1, h1, h.go⟩)
theorem call_listM : CallR X (.type "list") (mListOf X.K) := fun pins s σ H xs us Q I r q => call_list_of pins s σ H xs us Q I r (by
  unfold mListOf at q
  obtain ⟨a, xs, e1, h1, h⟩ := q
  exact ⟨a, xs, e1, h1, h.go⟩)
/-- [e for x in range(n)] -/
theorem lcR1_of {ta : TA} {j : Nat} {te : TE} {vs : List Nat} {σ : L2.St} {H : Hp} {Q : VK} (hj : vs = [j]) (q : mLcR1 ta j te vs σ H Q) : tLc (iRng1 (cTA ta)) (gName j) tYes (cTE te) vs σ H Q := by
  unfold mLcR1 at q
  refine ⟨_, q, fun ws H1 r => ?_⟩
  obtain ⟨n, f, rfl, hn, he, hq⟩ := r
  obtain ⟨hn0, hn⟩ := hn
  have big : (2 : Int) ^ 62 = 4611686018427387904 := by decide
  refine ⟨n, rfl, by omega, by omega, fun D hD => ?_⟩
  refine lc_range (lo := 0) (n := n.toNat) (fun i H' => Same H1 H' ∧ H' D = some (.lst ((List.range i).map f))) ⟨same_upd hD, upd_same⟩ (fun i H' hi p => ⟨wipe_set hj, ?_⟩) fun H' p => hq D H' hD p.1 p.2
  show cTE te ((wipe σ vs).set j (some (.int (0 + (i : Int))))) H' _
  rw [Int.zero_add]
  refine ⟨_, he i hi H' p.1, fun y H'' r => ?_⟩
  obtain ⟨rfl, s2⟩ := r
  refine ⟨_, s2 _ _ p.2, szl (by rw [List.length_map, List.length_range]; omega), same_mut (p.1.trans s2) hD, ?_⟩
  rw [upd_same, List.range_succ, List.map_append]
  rfl
theorem take_snoc {α : Type} {l : List α} {i : Nat} {x : α} (h : l[i]? = some x) : l.take (i + 1) = l.take i ++ [x] := by
  rw [List.take_add_one, h]
  rfl
/-- [e for x in xs] -/
theorem lcL_of {K : PySem.W.Frag} {tl : TE} {j : Nat} {te : TE} {vs : List Nat} {σ : L2.St} {H : Hp} {Q : VK} (hj : vs = [j]) (q : mLcL K tl j te vs σ H Q) : tLc (iList K (cTE tl)) (gName j) tYes (cTE te) vs σ H Q := by
  unfold mLcL at q
  refine ⟨_, q, fun x H1 r => ?_⟩
  obtain ⟨a, xs, f, rfl, hx, hn, he, hq⟩ := r
  refine ⟨a, rfl, ⟨xs, hx⟩, fun D hD => ?_⟩
  refine lc_list (xs := xs) (fun i H' => Same H1 H' ∧ H' D = some (.lst ((xs.take i).map f))) ⟨same_upd hD, upd_same⟩ (fun i H' _ p => p.1.seq hx) (fun i y H' hi p => ⟨wipe_set hj, ?_⟩) fun H' p => hq D H' hD p.1 (by rw [p.2, List.take_length])
  have hy : y ∈ xs := List.mem_of_getElem? hi
  have hl : i < xs.length := (List.getElem?_eq_some_iff.mp hi).1
  show cTE te ((wipe σ vs).set j (some y)) H' _
  refine ⟨_, he y hy H' p.1, fun z H'' r => ?_⟩
  obtain ⟨rfl, s2⟩ := r
  refine ⟨_, s2 _ _ p.2, szl (by rw [List.length_map, List.length_take]; omega), same_mut (p.1.trans s2) hD, ?_⟩
  rw [upd_same, take_snoc hi, List.map_append]
  rfl
theorem pe_lcR1 {elt : Expr} {scope : Scope} {j : Nat} {x : Str} {a : Expr} {p p2 xpos : Pos} (hc : X.calm = true) (hN : X.N.Nodup) (hg : Gl X "range") (hm : X.mg "range" = none) (ha : PA X [a] ta) (ok : BlkOk X.N X.env.scope scope [(x, j)])
    (hgt : ∀ (s : Shared) (H : Hp) (C : Addr) (cl : List (Str × Addr)) (fp : List Addr), PG (X.blk s H scope (compEnvC scope cl C X.env) fp) (.Name x xpos) (gName j))
    (he : ∀ (s : Shared) (H : Hp) (C : Addr) (cl : List (Str × Addr)) (fp : List Addr), PE (X.blk s H scope (compEnvC scope cl C X.env) fp) elt te)
    (hs : starEach [a] X.env = [(false, eval a X.env)] := by rfl) (hs2 : ∀ y, foldedSetIterable (.Call (.Name "range" p) [a] [] p2) X.env y = pure y := by intro _; rfl) :
    PE X (.ListComp elt [⟨.Name x xpos, .Call (.Name "range" p) [a] [] p2, [], 0⟩] scope pos) (mLcR1 ta j te [j]) :=
  pe_weak (pe_lc hc hN (pi_range1 hg hm (pa_c ha) hs) ok hgt (fun _ _ _ _ _ => pts_nil) (fun s H C cl fp => pe_c (he s H C cl fp)) hs2) fun _ _ _ q => lcR1_of rfl q
theorem pe_lcL {elt it : Expr} {scope : Scope} {j : Nat} {x : Str} {xpos : Pos} (hc : X.calm = true) (hN : X.N.Nodup) {tl : TE} (ha : PE X it tl) (ok : BlkOk X.N X.env.scope scope [(x, j)])
    (hgt : ∀ (s : Shared) (H : Hp) (C : Addr) (cl : List (Str × Addr)) (fp : List Addr), PG (X.blk s H scope (compEnvC scope cl C X.env) fp) (.Name x xpos) (gName j))
    (he : ∀ (s : Shared) (H : Hp) (C : Addr) (cl : List (Str × Addr)) (fp : List Addr), PE (X.blk s H scope (compEnvC scope cl C X.env) fp) elt te) (hs2 : ∀ y, foldedSetIterable it X.env y = pure y := by intro _; rfl) :
    PE X (.ListComp elt [⟨.Name x xpos, it, [], 0⟩] scope pos) (mLcL X.K tl j te [j]) :=
  pe_weak (pe_lc hc hN (pi_list (pe_c ha)) ok hgt (fun _ _ _ _ _ => pts_nil) (fun s H C cl fp => pe_c (he s H C cl fp)) hs2) fun _ _ _ q => lcL_of rfl q
theorem ps_setLcR1 {i : Nat} {y : Str} {py spos : Pos} {elt : Expr} {scope : Scope} {j : Nat} {x : Str} {a : Expr} {p p2 xpos : Pos} (hc : X.calm = true) (hN : X.N.Nodup) (hy : X.N[i]? = some y) (hyl : X.env.scope.names.lookup y = some .local)
    (hsw : swapsWith (.ListComp elt [⟨.Name x xpos, .Call (.Name "range" p) [a] [] p2, [], 0⟩] scope pos) (some (.Name y py)) spos.line X.env = pure true) (hg : Gl X "range") (hm : X.mg "range" = none) (ha : PA X [a] ta) (ok : BlkOk X.N X.env.scope scope [(x, j)])
    (hgt : ∀ (s : Shared) (H : Hp) (C : Addr) (cl : List (Str × Addr)) (fp : List Addr), PG (X.blk s H scope (compEnvC scope cl C X.env) fp) (.Name x xpos) (gName j))
    (he : ∀ (s : Shared) (H : Hp) (C : Addr) (cl : List (Str × Addr)) (fp : List Addr), PE (X.blk s H scope (compEnvC scope cl C X.env) fp) elt te)
    (hs : starEach [a] X.env = [(false, eval a X.env)] := by rfl) (hs2 : ∀ y, foldedSetIterable (.Call (.Name "range" p) [a] [] p2) X.env y = pure y := by intro _; rfl) :
    PS X (.Assign [.Name y py] (.ListComp elt [⟨.Name x xpos, .Call (.Name "range" p) [a] [] p2, [], 0⟩] scope pos) spos) (tAsg (mLcR1 ta j te [j]) (gName i)) :=
  ps_weak (ps_setLc hc hN hy hyl hsw (pi_range1 hg hm (pa_c ha) hs) ok hgt (fun _ _ _ _ _ => pts_nil) (fun s H C cl fp => pe_c (he s H C cl fp)) hs2) fun _ _ _ q => lcR1_of rfl q
theorem ps_setLcL {i : Nat} {y : Str} {py spos : Pos} {elt it : Expr} {scope : Scope} {j : Nat} {x : Str} {xpos : Pos} {tl : TE} (hc : X.calm = true) (hN : X.N.Nodup) (hy : X.N[i]? = some y) (hyl : X.env.scope.names.lookup y = some .local)
    (hsw : swapsWith (.ListComp elt [⟨.Name x xpos, it, [], 0⟩] scope pos) (some (.Name y py)) spos.line X.env = pure true) (ha : PE X it tl) (ok : BlkOk X.N X.env.scope scope [(x, j)])
    (hgt : ∀ (s : Shared) (H : Hp) (C : Addr) (cl : List (Str × Addr)) (fp : List Addr), PG (X.blk s H scope (compEnvC scope cl C X.env) fp) (.Name x xpos) (gName j))
    (he : ∀ (s : Shared) (H : Hp) (C : Addr) (cl : List (Str × Addr)) (fp : List Addr), PE (X.blk s H scope (compEnvC scope cl C X.env) fp) elt te) (hs2 : ∀ y, foldedSetIterable it X.env y = pure y := by intro _; rfl) :
    PS X (.Assign [.Name y py] (.ListComp elt [⟨.Name x xpos, it, [], 0⟩] scope pos) spos) (tAsg (mLcL X.K tl j te [j]) (gName i)) :=
  ps_weak (ps_setLc hc hN hy hyl hsw (pi_list (pe_c ha)) ok hgt (fun _ _ _ _ _ => pts_nil) (fun s H C cl fp => pe_c (he s H C cl fp)) hs2) fun _ _ _ q => lcL_of rfl q
/-! ### loops that stop the walk -/
@[irreducible] def mForR1 (ta : TA) (j : Nat) (tb : TS) : TS := fun D σ H => ta σ H fun ws H1 => ∃ (n : Int) (Pv : Nat → L2.St → Hp → Prop), ws = [.int n] ∧ (-100000 ≤ n ∧ n ≤ 100000) ∧ Pv 0 σ H1 ∧
  (∀ i σ' H', i < n.toNat → Pv i σ' H' → tb { D with nx := Pv (i + 1), ct := Pv (i + 1), bk := D.nx } (σ'.set j (some (.int (i : Nat)))) H') ∧ ∀ σ' H', Pv n.toNat σ' H' → D.nx σ' H'
theorem rd_forR1 {ta : TA} {j : Nat} {tb : TS} {D : Ends} {σ : L2.St} {H : Hp} (h : ta σ H fun ws H1 => ∃ (n : Int) (Pv : Nat → L2.St → Hp → Prop), ws = [.int n] ∧ (-100000 ≤ n ∧ n ≤ 100000) ∧ Pv 0 σ H1 ∧
  (∀ i σ' H', i < n.toNat → Pv i σ' H' → tb { D with nx := Pv (i + 1), ct := Pv (i + 1), bk := D.nx } (σ'.set j (some (.int (i : Nat)))) H') ∧ ∀ σ' H', Pv n.toNat σ' H' → D.nx σ' H') : mForR1 ta j tb D σ H := by
  unfold mForR1
  exact h
theorem forR1_of {ta : TA} {j : Nat} {tb : TS} {D : Ends} {σ : L2.St} {H : Hp} (q : mForR1 ta j tb D σ H) : tFor (iRng1 (cTA ta)) (gName j) tb D σ H := by
  unfold mForR1 at q
  refine ⟨_, q, fun ws H1 r => ?_⟩
  obtain ⟨n, Pv, rfl, ⟨hn0, hn⟩, h0, hs, hd⟩ := r
  have big : (2 : Int) ^ 62 = 4611686018427387904 := by decide
  refine ⟨n, rfl, by omega, by omega, for_range (lo := 0) (n := n.toNat) Pv h0 (fun i σ' H' hi p => ?_) hd⟩
  show tb _ (σ'.set j (some (.int (0 + (i : Int))))) H'
  rw [Int.zero_add]
  exact hs i σ' H' hi p
theorem ps_forR1 {j : Nat} {x : Str} {a : Expr} {body : List Stmt} {tb : TS} {p p2 xpos : Pos} (hp : PassesOwn (model X.prog X.w) X.A X.env X.xe) (hc : X.calm = true) (hg : Gl X "range") (hm : X.mg "range" = none) (ha : PA X [a] ta) (hgt : PG X (.Name x xpos) (gName j)) (hb : PSs X body tb)
    (hs : starEach [a] X.env = [(false, eval a X.env)] := by rfl) (hs2 : ∀ y, foldedSetIterable (.Call (.Name "range" p) [a] [] p2) X.env y = pure y := by intro _; rfl) : PS X (.For (.Name x xpos) (.Call (.Name "range" p) [a] [] p2) body [] pos) (mForR1 ta j tb) :=
  ps_weak (ps_for hp hc (pi_range1 hg hm (pa_c ha) hs) hgt hb hs2) fun _ _ _ q => forR1_of q
@[irreducible] def mForR2 (ta : TA) (j : Nat) (tb : TS) : TS := fun D σ H => ta σ H fun ws H1 => ∃ (lo n : Int) (Pv : Nat → L2.St → Hp → Prop), ws = [.int lo, .int n] ∧ (-4000000000000000000 ≤ lo ∧ lo ≤ 4000000000000000000 ∧ -4000000000000000000 ≤ n ∧ n ≤ 4000000000000000000) ∧ Pv 0 σ H1 ∧
  (∀ i σ' H', i < (n - lo).toNat → Pv i σ' H' → tb { D with nx := Pv (i + 1), ct := Pv (i + 1), bk := D.nx } (σ'.set j (some (.int (lo + (i : Int))))) H') ∧ ∀ σ' H', Pv (n - lo).toNat σ' H' → D.nx σ' H'
theorem rd_forR2 {ta : TA} {j : Nat} {tb : TS} {D : Ends} {σ : L2.St} {H : Hp} (h : ta σ H fun ws H1 => ∃ (lo n : Int) (Pv : Nat → L2.St → Hp → Prop), ws = [.int lo, .int n] ∧ (-4000000000000000000 ≤ lo ∧ lo ≤ 4000000000000000000 ∧ -4000000000000000000 ≤ n ∧ n ≤ 4000000000000000000) ∧ Pv 0 σ H1 ∧
  (∀ i σ' H', i < (n - lo).toNat → Pv i σ' H' → tb { D with nx := Pv (i + 1), ct := Pv (i + 1), bk := D.nx } (σ'.set j (some (.int (lo + (i : Int))))) H') ∧ ∀ σ' H', Pv (n - lo).toNat σ' H' → D.nx σ' H') : mForR2 ta j tb D σ H := by
  unfold mForR2
  exact h
theorem ps_forR2 {j : Nat} {x : Str} {a b : Expr} {body : List Stmt} {tb : TS} {p p2 xpos : Pos} (hp : PassesOwn (model X.prog X.w) X.A X.env X.xe) (hc : X.calm = true) (hg : Gl X "range") (hm : X.mg "range" = none) (ha : PA X [a, b] ta) (hgt : PG X (.Name x xpos) (gName j)) (hb : PSs X body tb)
    (hs : starEach [a, b] X.env = [(false, eval a X.env), (false, eval b X.env)] := by rfl) (hs3 : starEach [b] X.env = [(false, eval b X.env)] := by rfl) (hs2 : ∀ y, foldedSetIterable (.Call (.Name "range" p) [a, b] [] p2) X.env y = pure y := by intro _; rfl) :
    PS X (.For (.Name x xpos) (.Call (.Name "range" p) [a, b] [] p2) body [] pos) (mForR2 ta j tb) :=
  ps_weak (ps_for hp hc (pi_range2 hg hm (pa_c ha) hs hs3) hgt hb hs2) fun D σ H q => by
    unfold mForR2 at q
    refine ⟨_, q, fun ws H1 r => ?_⟩
    obtain ⟨lo, n, Pv, rfl, ⟨h1, h2, h3, h4⟩, h0, hs, hd⟩ := r
    have big : (2 : Int) ^ 62 = 4611686018427387904 := by decide
    exact ⟨lo, n, rfl, ⟨by omega, by omega, by omega, by omega⟩, for_range (lo := lo) (n := (n - lo).toNat) Pv h0 (fun i σ' H' hi p => hs i σ' H' hi p) hd⟩
/-- for x in xs -/
@[irreducible] def mForL (K : PySem.W.Frag) (tl : TE) (j : Nat) (tb : TS) : TS := fun D σ H => tl σ H fun x H1 => ∃ (a : Addr) (xs : List V) (Pv : Nat → L2.St → Hp → Prop), x = .ref a ∧ SqL K H1 a xs ∧ Pv 0 σ H1 ∧ (∀ i σ' H', i ≤ xs.length → Pv i σ' H' → SqL K H' a xs) ∧
  (∀ i y σ' H', xs[i]? = some y → Pv i σ' H' → tb { D with nx := Pv (i + 1), ct := Pv (i + 1), bk := D.nx } (σ'.set j (some y)) H') ∧ ∀ σ' H', Pv xs.length σ' H' → D.nx σ' H'
theorem rd_forL {K : PySem.W.Frag} {tl : TE} {j : Nat} {tb : TS} {D : Ends} {σ : L2.St} {H : Hp} (h : tl σ H fun x H1 => ∃ (a : Addr) (xs : List V) (Pv : Nat → L2.St → Hp → Prop), x = .ref a ∧ SqL K H1 a xs ∧ Pv 0 σ H1 ∧ (∀ i σ' H', i ≤ xs.length → Pv i σ' H' → SqL K H' a xs) ∧
  (∀ i y σ' H', xs[i]? = some y → Pv i σ' H' → tb { D with nx := Pv (i + 1), ct := Pv (i + 1), bk := D.nx } (σ'.set j (some y)) H') ∧ ∀ σ' H', Pv xs.length σ' H' → D.nx σ' H') : mForL K tl j tb D σ H := by
  unfold mForL
  exact h
theorem ps_forL {j : Nat} {x : Str} {it : Expr} {body : List Stmt} {tb : TS} {tl : TE} {xpos : Pos} (hp : PassesOwn (model X.prog X.w) X.A X.env X.xe) (hc : X.calm = true) (ha : PE X it tl) (hgt : PG X (.Name x xpos) (gName j)) (hb : PSs X body tb)
    (hs2 : ∀ y, foldedSetIterable it X.env y = pure y := by intro _; rfl) : PS X (.For (.Name x xpos) it body [] pos) (mForL X.K tl j tb) :=
  ps_weak (ps_for hp hc (pi_list (pe_c ha)) hgt hb hs2) fun D σ H q => by
    unfold mForL at q
    refine ⟨_, q, fun x H1 r => ?_⟩
    obtain ⟨a, xs, Pv, rfl, hx, h0, hl, hs, hd⟩ := r
    exact ⟨a, rfl, ⟨xs, hx⟩, for_list (xs := xs) Pv h0 hl (fun i y σ' H' hi p => hs i y σ' H' hi p) hd⟩
/-- for .. in xs, the target of any form -/
@[irreducible] def mForG (K : PySem.W.Frag) (tl : TE) (g : TG) (tb : TS) : TS := fun D σ H => tl σ H fun x H1 => ∃ (a : Addr) (xs : List V) (Pv : Nat → L2.St → Hp → Prop), x = .ref a ∧ SqL K H1 a xs ∧ Pv 0 σ H1 ∧ (∀ i σ' H', i ≤ xs.length → Pv i σ' H' → SqL K H' a xs) ∧
  (∀ i y σ' H', xs[i]? = some y → Pv i σ' H' → g y σ' H' fun σ2 H2 => tb { D with nx := Pv (i + 1), ct := Pv (i + 1), bk := D.nx } σ2 H2) ∧ ∀ σ' H', Pv xs.length σ' H' → D.nx σ' H'
theorem rd_forG {K : PySem.W.Frag} {tl : TE} {g : TG} {tb : TS} {D : Ends} {σ : L2.St} {H : Hp} (h : tl σ H fun x H1 => ∃ (a : Addr) (xs : List V) (Pv : Nat → L2.St → Hp → Prop), x = .ref a ∧ SqL K H1 a xs ∧ Pv 0 σ H1 ∧ (∀ i σ' H', i ≤ xs.length → Pv i σ' H' → SqL K H' a xs) ∧
  (∀ i y σ' H', xs[i]? = some y → Pv i σ' H' → g y σ' H' fun σ2 H2 => tb { D with nx := Pv (i + 1), ct := Pv (i + 1), bk := D.nx } σ2 H2) ∧ ∀ σ' H', Pv xs.length σ' H' → D.nx σ' H') : mForG K tl g tb D σ H := by
  unfold mForG
  exact h
theorem ps_forG {tg it : Expr} {body : List Stmt} {g : TG} {tb : TS} {tl : TE} (hp : PassesOwn (model X.prog X.w) X.A X.env X.xe) (hc : X.calm = true) (ha : PE X it tl) (hgt : PG X tg g) (hb : PSs X body tb)
    (hs2 : ∀ y, foldedSetIterable it X.env y = pure y := by intro _; rfl) : PS X (.For tg it body [] pos) (mForG X.K tl g tb) :=
  ps_weak (ps_for hp hc (pi_list (pe_c ha)) hgt hb hs2) fun D σ H q => by
    unfold mForG at q
    refine ⟨_, q, fun x H1 r => ?_⟩
    obtain ⟨a, xs, Pv, rfl, hx, h0, hl, hs, hd⟩ := r
    exact ⟨a, rfl, ⟨xs, hx⟩, for_list (xs := xs) Pv h0 hl (fun i y σ' H' hi p => hs i y σ' H' hi p) hd⟩
/-- for x, y in zip(xs, ys), lists of one length -/
@[irreducible] def mForZ (K : PySem.W.Frag) (ta : TA) (i1 i2 : Nat) (tb : TS) : TS := fun D σ H => ta σ H fun ws H1 => ∃ (a b : Addr) (xs ys : List V) (Pv : Nat → L2.St → Hp → Prop), ws = [.ref a, .ref b] ∧ SqL K H1 a xs ∧ SqL K H1 b ys ∧ xs.length = ys.length ∧ Pv 0 σ H1 ∧ (∀ i σ' H', Pv i σ' H' → SqL K H' a xs ∧ SqL K H' b ys) ∧
  (∀ i x y σ' H' H'', xs[i]? = some x → ys[i]? = some y → Pv i σ' H' → Same H' H'' → tb { D with nx := Pv (i + 1), ct := Pv (i + 1), bk := D.nx } ((σ'.set i1 (some x)).set i2 (some y)) H'') ∧ ∀ σ' H', Pv xs.length σ' H' → D.nx σ' H'
theorem rd_forZ {K : PySem.W.Frag} {ta : TA} {i1 i2 : Nat} {tb : TS} {D : Ends} {σ : L2.St} {H : Hp} (h : ta σ H fun ws H1 => ∃ (a b : Addr) (xs ys : List V) (Pv : Nat → L2.St → Hp → Prop), ws = [.ref a, .ref b] ∧ SqL K H1 a xs ∧ SqL K H1 b ys ∧ xs.length = ys.length ∧ Pv 0 σ H1 ∧ (∀ i σ' H', Pv i σ' H' → SqL K H' a xs ∧ SqL K H' b ys) ∧
  (∀ i x y σ' H' H'', xs[i]? = some x → ys[i]? = some y → Pv i σ' H' → Same H' H'' → tb { D with nx := Pv (i + 1), ct := Pv (i + 1), bk := D.nx } ((σ'.set i1 (some x)).set i2 (some y)) H'') ∧ ∀ σ' H', Pv xs.length σ' H' → D.nx σ' H') : mForZ K ta i1 i2 tb D σ H := by
  unfold mForZ
  exact h
theorem ps_forZ {e e2 : Expr} {kk : Nat} {p p2 tpos : Pos} {i1 i2 : Nat} {body : List Stmt} {tb : TS} {t1 t2 : Expr} (hp : PassesOwn (model X.prog X.w) X.A X.env X.xe) (hc : X.calm = true) (hg : Gl X "zip") (hm : X.mg "zip" = none) (ha : PA X [e, e2] ta)
    (hgt : PG X (.Tuple [t1, t2] kk tpos) (gTup X.K 2 (gCons (gName i1) (gCons (gName i2) gNil)))) (hb : PSs X body tb)
    (hs : starEach [e, e2] X.env = (false, eval e X.env) :: starEach [e2] X.env := by rfl) (hpl : (backTo p2 (starEach [e2] X.env)).any (·.1) = false := by rfl) (hs2 : ∀ y, foldedSetIterable (.Call (.Name "zip" p) [e, e2] [] p2) X.env y = pure y := by intro _; rfl) :
    PS X (.For (.Tuple [t1, t2] kk tpos) (.Call (.Name "zip" p) [e, e2] [] p2) body [] pos) (mForZ X.K ta i1 i2 tb) :=
  ps_weak (ps_for hp hc (pi_zip hg hm (pa_c ha) hs hpl) hgt hb hs2) fun D σ H q => by
    unfold mForZ at q
    refine ⟨_, q, fun ws H1 r => ?_⟩
    obtain ⟨a, b, xs, ys, Pv, rfl, hx, hy, hl, h0, hq, hs, hd⟩ := r
    refine ⟨a, b, xs, ys, rfl, hx, hy, RZ.for_zipL hl Pv h0 hq (fun i x y T σ' H' h1 h2 p hT => ?_) hd⟩
    exact ⟨T, [x, y], rfl, st_of upd_same, rfl, x, [y], rfl, y, [], rfl, rfl, hs i x y σ' H' _ h1 h2 p (same_upd hT)⟩
end
theorem ite_ei {x y : Int} {A B : Prop} (hc : x = y) (h : A) : if decide (V.int x = V.int y) = true then A else B := ite_t (congrArg V.int hc) h
theorem ite_eif {x y : Int} {A B : Prop} (hc : x ≠ y) (h : B) : if decide (V.int x = V.int y) = true then A else B := ite_f (fun e => hc (V.int.inj e)) h
theorem ite_ni {x y : Int} {A B : Prop} (hc : x = y) (h : B) : if (!decide (V.int x = V.int y)) = true then A else B := ite_nf (congrArg V.int hc) h
theorem ite_nit {x y : Int} {A B : Prop} (hc : x ≠ y) (h : A) : if (!decide (V.int x = V.int y)) = true then A else B := ite_nt (fun e => hc (V.int.inj e)) h
theorem ite_eby {x y : Int} {A B : Prop} (h1 : x = y → A) (h2 : x ≠ y → B) : if decide (V.int x = V.int y) = true then A else B := ite_by (fun e => h1 (V.int.inj e)) (fun n => h2 fun e => n (congrArg V.int e))
theorem ite_enby {x y : Int} {A B : Prop} (h1 : x ≠ y → A) (h2 : x = y → B) : if (!decide (V.int x = V.int y)) = true then A else B := ite_nby (fun n => h1 fun e => n (congrArg V.int e)) (fun e => h2 (V.int.inj e))

/-! ### branches that stop the walk -/
@[irreducible] def Br (b : Bool) (A B : Prop) : Prop := if b = true then A else B
section
variable {b : Bool} {A B : Prop}
theorem Br.un (h : Br b A B) : if b = true then A else B := by
  unfold Br at h
  exact h
theorem br_of (h : if b = true then A else B) : Br b A B := by
  unfold Br
  exact h
theorem br_T (h : A) : Br true A B := br_of (iteT h)
theorem br_F (h : B) : Br false A B := br_of (iteF h)
theorem br_nT (h : A) : Br (!false) A B := br_of (iteT h)
theorem br_nF (h : B) : Br (!true) A B := br_of (iteF h)
theorem br_t {c : Prop} [Decidable c] (hc : c) (h : A) : Br (decide c) A B := br_of (ite_t hc h)
theorem br_f {c : Prop} [Decidable c] (hc : ¬ c) (h : B) : Br (decide c) A B := br_of (ite_f hc h)
theorem br_nt {c : Prop} [Decidable c] (hc : ¬ c) (h : A) : Br (!decide c) A B := br_of (ite_nt hc h)
theorem br_nf {c : Prop} [Decidable c] (hc : c) (h : B) : Br (!decide c) A B := br_of (ite_nf hc h)
theorem br_by {c : Prop} [Decidable c] (h1 : c → A) (h2 : ¬ c → B) : Br (decide c) A B := br_of (ite_by h1 h2)
theorem br_nby {c : Prop} [Decidable c] (h1 : ¬ c → A) (h2 : c → B) : Br (!decide c) A B := br_of (ite_nby h1 h2)
theorem br_ei {x y : Int} (hc : x = y) (h : A) : Br (decide (V.int x = V.int y)) A B := br_of (ite_ei hc h)
theorem br_eif {x y : Int} (hc : x ≠ y) (h : B) : Br (decide (V.int x = V.int y)) A B := br_of (ite_eif hc h)
theorem br_ni {x y : Int} (hc : x = y) (h : B) : Br (!decide (V.int x = V.int y)) A B := br_of (ite_ni hc h)
theorem br_nit {x y : Int} (hc : x ≠ y) (h : A) : Br (!decide (V.int x = V.int y)) A B := br_of (ite_nit hc h)
theorem br_eby {x y : Int} (h1 : x = y → A) (h2 : x ≠ y → B) : Br (decide (V.int x = V.int y)) A B := br_of (ite_eby h1 h2)
theorem br_enby {x y : Int} (h1 : x ≠ y → A) (h2 : x = y → B) : Br (!decide (V.int x = V.int y)) A B := br_of (ite_enby h1 h2)
theorem br_b (h1 : b = true → A) (h2 : b = false → B) : Br b A B := by
  cases b with
  | true => exact br_T (h1 rfl)
  | false => exact br_F (h2 rfl)
end
def mIfS (c : TT) (t u : TS) : TS := fun D σ H => c σ H fun b H1 => Br b (t D σ H1) (u D σ H1)
def mIf (c : TT) (ta tb : TE) : TE := fun σ H Q => c σ H fun b H1 => Br b (ta σ H1 Q) (tb σ H1 Q)
def mAnd (t u : TT) : TT := fun σ H Q => t σ H fun c H1 => Br c (u σ H1 Q) (Q false H1)
def mOr (t u : TT) : TT := fun σ H Q => t σ H fun c H1 => Br c (Q true H1) (u σ H1 Q)
def mAndV (ta tb : TE) : TE := fun σ H Q => ta σ H fun x H1 => ∃ c, x = .bl c ∧ Br c (tb σ H1 Q) (Q (.bl false) H1)
def mOrV (ta tb : TE) : TE := fun σ H Q => ta σ H fun x H1 => ∃ c, x = .bl c ∧ Br c (Q (.bl true) H1) (tb σ H1 Q)
def mChain (r r' : R2) (ta tb tc : TE) : TE := fun σ H Q => ta σ H fun x H1 => tb σ H1 fun y H2 => r x y H2 fun z H3 => ∃ k, z = .bl k ∧ Br k (tc σ H3 fun w' H4 => r' y w' H4 Q) (Q (.bl false) H3)
def mNot (t : TT) : TT := fun σ H Q => t σ H fun c H1 => Q (!c) H1
def cR2 (r : R2) : R2 := fun x y H Q => ∃ R : VK, r x y H R ∧ ∀ v H', R v H' → Q v H'
section
variable {X : Cx} {e a b c : Expr} {ta tb tc : TE} {tt tA tB' : TT} {pos : Pos} {t u : TS} {rest : List Expr}
theorem pw_weak {tt' : TT} (h : PW X e tt) (w : ∀ σ H Q, tt' σ H Q → tt σ H Q) : PW X e tt' := ⟨fun wh pins s σ H Q I q => h.run wh pins s σ H Q I (w σ H Q q)⟩
theorem pt_weak {tt' : TT} (h : PT X e tt) (w : ∀ σ H Q, tt' σ H Q → tt σ H Q) : PT X e tt' := ⟨fun pins s σ H Q I q => h.run pins s σ H Q I (w σ H Q q)⟩
theorem opr_c {f : Value → Value → Sem Value} {r : R2} (h : OpR X f r) : OpR X f (cR2 r) := fun pins s σ H x y v u Q I rx ry ⟨R, h1, h2⟩ => thn (h pins s σ H x y v u R I rx ry h1) fun w s1 ⟨z, H1, I1, rz, q⟩ => ⟨z, H1, I1, rz, h2 _ _ q⟩
theorem ps_ifM {bs us : List Stmt} (hc : PT X c tt) (ha : PSs X bs t) (hb : PSs X us u) : PS X (.If c bs us pos) (mIfS tt t u) := ps_weak (ps_if (pt_c hc) ha hb) fun D σ H q => ⟨_, q, fun b H1 r => r.un⟩
theorem pe_ifM (hc : PT X c tt) (ha : PE X a ta) (hb : PE X b tb) : PE X (.IfExp c a b pos) (mIf tt ta tb) := pe_weak (pe_ifExp (pt_c hc) ha hb) fun σ H Q q => ⟨_, q, fun b H1 r => r.un⟩
theorem pw_andM (ha : PT X a tA) (hb : PW X (.BoolOp .And (b :: rest) pos) tB') : PW X (.BoolOp .And (a :: b :: rest) pos) (mAnd tA tB') := pw_weak (pw_and (pt_c ha) hb) fun σ H Q q => ⟨_, q, fun b H1 r => r.un⟩
theorem pw_orM (ha : PT X a tA) (hb : PW X (.BoolOp .Or (b :: rest) pos) tB') : PW X (.BoolOp .Or (a :: b :: rest) pos) (mOr tA tB') := pw_weak (pw_or (pt_c ha) hb) fun σ H Q q => ⟨_, q, fun b H1 r => r.un⟩
theorem pe_andM (ha : PE X a ta) (hb : PE X (.BoolOp .And (b :: rest) pos) tb) : PE X (.BoolOp .And (a :: b :: rest) pos) (mAndV ta tb) := pe_weak (pe_and (pe_c ha) hb) fun σ H Q q => ⟨_, q, fun v H1 ⟨c, e, r⟩ => ⟨c, e, r.un⟩⟩
theorem pe_orM (ha : PE X a ta) (hb : PE X (.BoolOp .Or (b :: rest) pos) tb) : PE X (.BoolOp .Or (a :: b :: rest) pos) (mOrV ta tb) := pe_weak (pe_or (pe_c ha) hb) fun σ H Q q => ⟨_, q, fun v H1 ⟨c, e, r⟩ => ⟨c, e, r.un⟩⟩
theorem pe_chainM {op op' : CmpOp} {r r' : R2} (ho : OpR X (compareOp op) r) (ho' : OpR X (compareOp op') r') (ha : PE X a ta) (hb : PE X b tb) (hc : PE X c tc) (hm : lastMarks [op, op'] [b, c] = false := by with_unfolding_all rfl) : PE X (.Compare a [op, op'] [b, c] pos) (mChain r r' ta tb tc) :=
  pe_weak (pe_chain (opr_c ho) ho' (pe_c ha) (pe_c hb) hc hm) fun σ H Q q => ⟨_, q, fun x H1 q1 => ⟨_, q1, fun y H2 q2 => ⟨_, q2, fun z H3 ⟨k, e, r⟩ => ⟨k, e, r.un⟩⟩⟩⟩
theorem pt_chainM {op op' : CmpOp} {r r' : R2} (ho : OpR X (compareOp op) r) (ho' : OpR X (compareOp op') r') (ha : PE X a ta) (hb : PE X b tb) (hc : PE X c tc) (hm : lastMarks [op, op'] [b, c] = false := by with_unfolding_all rfl) : PT X (.Compare a [op, op'] [b, c] pos) (tTest (mChain r r' ta tb tc)) :=
  pt_weak (pt_chain (opr_c ho) ho' (pe_c ha) (pe_c hb) hc hm) fun σ H Q q => ⟨_, q, fun x H1 q1 => ⟨_, q1, fun y H2 q2 => ⟨_, q2, fun z H3 ⟨k, e, r⟩ => ⟨k, e, r.un⟩⟩⟩⟩
end
/-! ### the operators, told without a redex -/
def mAdd : R2 := fun x y H Q => ∃ i j, x = .int i ∧ y = .int j ∧ Q (.int (i + j)) H
def mSub : R2 := fun x y H Q => ∃ i j, x = .int i ∧ y = .int j ∧ Q (.int (i - j)) H
def mMul : R2 := fun x y H Q => ∃ i j, x = .int i ∧ y = .int j ∧ CMul i j ∧ Q (.int (i * j)) H
def mMulW : R2 := fun x y H Q => ∃ i j, x = .int i ∧ y = .int j ∧ CMulW i j ∧ Q (.int (i * j)) H
def mDiv : R2 := fun x y H Q => ∃ i j, x = .int i ∧ y = .int j ∧ CDiv i j ∧ Q (.int (i / j)) H
def mDivW : R2 := fun x y H Q => ∃ i j, x = .int i ∧ y = .int j ∧ CDivW i j ∧ Q (.int (i / j)) H
def mMod : R2 := fun x y H Q => ∃ i j, x = .int i ∧ y = .int j ∧ 0 < j ∧ Q (.int (i % j)) H
def mPow : R2 := fun x y H Q => ∃ i j, x = .int i ∧ y = .int j ∧ CPow i j ∧ Q (.int (i ^ j.toNat)) H
def mShl1 : R2 := fun x y H Q => ∃ j, x = .int 1 ∧ y = .int j ∧ (0 ≤ j ∧ j ≤ 1000000) ∧ Q (.int (2 ^ j.toNat)) H
def mShl : R2 := fun x y H Q => ∃ i j, x = .int i ∧ y = .int j ∧ CShl i j ∧ Q (.int (i * 2 ^ j.toNat)) H
def mShr : R2 := fun x y H Q => ∃ i j, x = .int i ∧ y = .int j ∧ 0 ≤ j ∧ Q (.int (i / 2 ^ j.toNat)) H
def mAndI : R2 := fun x y H Q => ∃ i j, x = .int i ∧ y = .int j ∧ Q (.int (Builtin.bitAnd i j)) H
def mXorI : R2 := fun x y H Q => ∃ i j, x = .int i ∧ y = .int j ∧ Q (.int (Builtin.bitXor i j)) H
def mLt : R2 := fun x y H Q => ∃ i j, x = .int i ∧ y = .int j ∧ Q (.bl (decide (i < j))) H
def mLe : R2 := fun x y H Q => ∃ i j, x = .int i ∧ y = .int j ∧ Q (.bl (decide (i ≤ j))) H
def mGt : R2 := fun x y H Q => ∃ i j, x = .int i ∧ y = .int j ∧ Q (.bl (decide (j < i))) H
def mGe : R2 := fun x y H Q => ∃ i j, x = .int i ∧ y = .int j ∧ Q (.bl (decide (j ≤ i))) H
section
variable {X : Cx}
theorem op_addM : OpR X (binaryOp .Add) mAdd := op_add
theorem op_subM : OpR X (binaryOp .Sub) mSub := op_sub
theorem op_mulM : OpR X (binaryOp .Mult) mMul := op_mul
theorem op_mulWM : OpR X (binaryOp .Mult) mMulW := op_mulW
theorem op_fdivM : OpR X (binaryOp .FloorDiv) mDiv := op_fdiv
theorem op_fdivWM : OpR X (binaryOp .FloorDiv) mDivW := op_fdivW
theorem op_modM : OpR X (binaryOp .Mod) mMod := op_mod
theorem op_powM : OpR X (binaryOp .Pow) mPow := op_pow
theorem op_shl1M : OpR X (binaryOp .LShift) mShl1 := fun pins s σ H x y v u Q I rx ry ⟨j, e1, e2, hj, q⟩ => op_shl pins s σ H x y v u Q I rx ry ⟨1, j, e1, e2, ⟨hj.1, hj.2, by decide⟩, by
  show Q (.int (1 * 2 ^ j.toNat)) H
  rw [Int.one_mul]
  exact q⟩
theorem op_shlM : OpR X (binaryOp .LShift) mShl := op_shlW
theorem op_shrM : OpR X (binaryOp .RShift) mShr := op_shr
theorem op_bandM : OpR X (binaryOp .BitAnd) mAndI := op_and
theorem op_bxorM : OpR X (binaryOp .BitXor) mXorI := op_xor
theorem op_ltM : OpR X (compareOp .Lt) mLt := op_lt
theorem op_leM : OpR X (compareOp .LtE) mLe := op_le
theorem op_gtM : OpR X (compareOp .Gt) mGt := op_gt
theorem op_geM : OpR X (compareOp .GtE) mGe := op_ge
end

theorem two_pos (k : Nat) : (0 : Int) < 2 ^ k := Int.pow_pos (by decide)

@[irreducible] def mIsi (K : PySem.W.Frag) : List V → Hp → VK → Prop := rIsi K
theorem call_isiM {X : Cx} : CallR X (.builtin "isinstance") (mIsi X.K) := fun pins s σ H xs us Q I r q => call_isi pins s σ H xs us Q I r (by
  unfold mIsi at q
  exact q)
section
variable {K : PySem.W.Frag} {H : Hp} {Q : VK}
theorem rd_isiIB {i : Int} (h : Q (.bl false) H) : mIsi K [.int i, .ty "bool"] H Q := by
  unfold mIsi
  exact ⟨_, _, _, _, false, rfl, ClsV.ty _, TyX.base (TyOf.int _), by rfl, h⟩
theorem rd_isiII {i : Int} (h : Q (.bl true) H) : mIsi K [.int i, .ty "int"] H Q := by
  unfold mIsi
  exact ⟨_, _, _, _, true, rfl, ClsV.ty _, TyX.base (TyOf.int _), by rfl, h⟩
theorem rd_isiBB {b : Bool} (h : Q (.bl true) H) : mIsi K [.bl b, .ty "bool"] H Q := by
  unfold mIsi
  exact ⟨_, _, _, _, true, rfl, ClsV.ty _, TyX.base (TyOf.bl _), by rfl, h⟩
theorem rd_isiTT {a : Addr} {xs : List V} (e : H a = some (.tup xs)) (h : Q (.bl true) H) : mIsi K [.ref a, .ty "tuple"] H Q := by
  unfold mIsi
  exact ⟨_, _, _, _, true, rfl, ClsV.ty _, TyX.base (TyOf.tup e), by rfl, h⟩
theorem rd_isiLL {a : Addr} {xs : List V} (e : H a = some (.lst xs)) (h : Q (.bl true) H) : mIsi K [.ref a, .ty "list"] H Q := by
  unfold mIsi
  exact ⟨_, _, _, _, true, rfl, ClsV.ty _, TyX.base (TyOf.lst e), by rfl, h⟩
end

/-! ### equal data -/
def Sh (n : Nat) (d : PyData) : Prop := d.canLay0 = true ∧ d.depth ≤ n
def ShA (n : Nat) (ds : List PyData) : Prop := PyData.canLayAll0 ds = true ∧ PyData.depthAll ds ≤ n
theorem sh_int {i : Int} {n : Nat} : Sh n (.int i) := ⟨rfl, Nat.zero_le _⟩
theorem sh_bl {i : Bool} {n : Nat} : Sh n (.bool i) := ⟨rfl, Nat.zero_le _⟩
theorem sh_non {n : Nat} : Sh n .none := ⟨rfl, Nat.zero_le _⟩
theorem sh_str {x : Str} {n : Nat} (h : PyData.canLay0 (.str x) = true) : Sh n (.str x) := ⟨h, Nat.zero_le _⟩
theorem sh_nil {n : Nat} : ShA n [] := ⟨rfl, Nat.zero_le _⟩
theorem sh_cons {n : Nat} {d : PyData} {ds : List PyData} (h : Sh n d) (k : ShA n ds) : ShA n (d :: ds) := by
  refine ⟨?_, ?_⟩
  · show (d.canLay0 && PyData.canLayAll0 ds) = true
    rw [h.1, k.1]
    rfl
  · show max d.depth (PyData.depthAll ds) ≤ n
    have := h.2
    have := k.2
    omega
theorem sh_lst {n : Nat} {ds : List PyData} (h : ShA n ds) : Sh (n + 1) (.list ds) := ⟨h.1, Nat.succ_le_succ h.2⟩
theorem sh_tup {n : Nat} {ds : List PyData} (h : ShA n ds) : Sh (n + 1) (.tuple ds) := ⟨h.1, Nat.succ_le_succ h.2⟩
theorem sh_map {α : Type} {n : Nat} {f : α → PyData} (h : ∀ x, Sh n (f x)) : ∀ l : List α, ShA n (l.map f)
  | [] => sh_nil
  | x :: r => sh_cons (h x) (sh_map h r)
theorem sh_app {n : Nat} : ∀ {ds es : List PyData}, ShA n ds → ShA n es → ShA n (ds ++ es)
  | [], _, _, k => k
  | d :: r, es, h, k => by
    have h1 : (d.canLay0 && PyData.canLayAll0 r) = true := h.1
    have h2 : max d.depth (PyData.depthAll r) ≤ n := h.2
    rw [Bool.and_eq_true] at h1
    exact sh_cons ⟨h1.1, by omega⟩ (sh_app ⟨h1.2, by omega⟩ k)
theorem Sh.shaped {n : Nat} {d : PyData} (h : Sh n d) (hn : n ≤ 64 := by decide) : SeqAt.shaped d = true := by
  unfold SeqAt.shaped
  rw [h.1, decide_eq_true (Nat.le_trans h.2 hn)]
  rfl
theorem sh_ints {n : Nat} (l : List Int) : ShA n (l.map PyData.int) := sh_map (fun _ => sh_int) l
section
variable {K : PySem.W.Frag} {H : Hp} {Q : VK} {x y : V}
theorem dpa_ints : ∀ l : List Int, DpAll K H (l.map V.int) (l.map PyData.int)
  | [] => .nil
  | i :: r => .cons (.int i) (dpa_ints r)
theorem dp_ints {a : Addr} {l : List Int} (h : SqL K H a (l.map V.int)) : Dp K H (.ref a) (.list (l.map PyData.int)) := .lst h (dpa_ints l)
@[irreducible] def mEqD (K : PySem.W.Frag) : R2 := rEqD K
@[irreducible] def mNeD (K : PySem.W.Frag) : R2 := rNeD K
theorem rd_eqS {n : Nat} (d : PyData) (h1 : Dp K H x d) (h2 : Dp K H y d) (hs : Sh n d) (h : Q (.bl true) H) (hn : n ≤ 64 := by decide) : mEqD K x y H Q := by
  unfold mEqD
  exact ⟨d, d, h1, h2, hs.shaped hn, hs.shaped hn, by rw [PySem.SeqAt.eqv_refl d hs.1]; exact h⟩
theorem rd_neS {n : Nat} (d : PyData) (h1 : Dp K H x d) (h2 : Dp K H y d) (hs : Sh n d) (h : Q (.bl false) H) (hn : n ≤ 64 := by decide) : mNeD K x y H Q := by
  unfold mNeD
  exact ⟨d, d, h1, h2, hs.shaped hn, hs.shaped hn, by rw [PySem.SeqAt.eqv_refl d hs.1]; exact h⟩
/-- of any two: the answer is that of the data -/
theorem rd_eqA {n m : Nat} (d e : PyData) (h1 : Dp K H x d) (h2 : Dp K H y e) (hs : Sh n d) (hs2 : Sh m e) (h : Q (.bl (PyData.eqv d e)) H) (hn : n ≤ 64 := by decide) (hm : m ≤ 64 := by decide) : mEqD K x y H Q := by
  unfold mEqD
  exact ⟨d, e, h1, h2, hs.shaped hn, hs2.shaped hm, h⟩
theorem rd_neA {n m : Nat} (d e : PyData) (h1 : Dp K H x d) (h2 : Dp K H y e) (hs : Sh n d) (hs2 : Sh m e) (h : Q (.bl (!PyData.eqv d e)) H) (hn : n ≤ 64 := by decide) (hm : m ≤ 64 := by decide) : mNeD K x y H Q := by
  unfold mNeD
  exact ⟨d, e, h1, h2, hs.shaped hn, hs2.shaped hm, h⟩
end
section
variable {X : Cx}
theorem op_eqDM (hu : X.A.units + 64 < cLine) : OpR X (compareOp .Eq) (mEqD X.K) := fun pins s σ H x y v u Q I rx ry q => op_eqD hu pins s σ H x y v u Q I rx ry (by
  unfold mEqD at q
  exact q)
theorem op_neDM (hu : X.A.units + 64 < cLine) : OpR X (compareOp .NotEq) (mNeD X.K) := fun pins s σ H x y v u Q I rx ry q => op_neD hu pins s σ H x y v u Q I rx ry (by
  unfold mNeD at q
  exact q)
end
/-! ### one-step readings that know their heap -/
@[irreducible] def mIxL (K : PySem.W.Frag) : R2 := rIxL K
theorem ix_listM {X : Cx} : IxR X (mIxL X.K) := fun value slice pins s σ H x y v u Q I rx ry q e => ix_list value slice pins s σ H x y v u Q I rx ry (by
  unfold mIxL at q
  exact q) e
@[irreducible] def mIxT (K : PySem.W.Frag) : R2 := rIxT K
theorem ix_tupM {X : Cx} : IxR X (mIxT X.K) := fun value slice pins s σ H x y v u Q I rx ry q e => ix_tup value slice pins s σ H x y v u Q I rx ry (by
  unfold mIxT at q
  exact q) e
section
variable {K : PySem.W.Frag} {H : Hp} {Q : VK} {a : Addr} {xs : List V} {k : Int} {v : V}
theorem rd_ixL (h : SqL K H a xs) (ha : atI xs k = some v) (q : Q v H) : mIxL K (.ref a) (.int k) H Q := by
  unfold mIxL
  exact ⟨a, xs, k, v, rfl, rfl, h, ha, q⟩
theorem rd_ixT (h : SqT K H a xs) (ha : atI xs k = some v) (q : Q v H) : mIxT K (.ref a) (.int k) H Q := by
  unfold mIxT
  exact ⟨a, xs, k, v, rfl, rfl, h, ha, q⟩
theorem rd_ixI {ns : List Int} (h : SqL K H a (ns.map V.int)) (h0 : 0 ≤ k) (h1 : k < (ns.length : Int)) (q : Q (.int (ns.getD k.toNat 0)) H) : mIxL K (.ref a) (.int k) H Q := rd_ixL h (at_int h0 h1) q
end
@[irreducible] def mLen (K : PySem.W.Frag) : List V → Hp → VK → Prop := fun xs H Q => ∃ p ys, xs = [.ref p] ∧ (SqL K H p ys ∨ SqT K H p ys) ∧ Q (.int ys.length) H
theorem call_lenM {X : Cx} : CallR X (.builtin "len") (mLen X.K) := fun pins s σ H xs us Q I r q => call_len_seq pins s σ H xs us Q I r (by
  unfold mLen at q
  exact q)
theorem rd_len {K : PySem.W.Frag} {H : Hp} {Q : VK} {a : Addr} {xs : List V} (h : SqL K H a xs) (q : Q (.int xs.length) H) : mLen K [.ref a] H Q := by
  unfold mLen
  exact ⟨a, xs, rfl, .inl h, q⟩
theorem rd_lenI {K : PySem.W.Frag} {H : Hp} {Q : VK} {a : Addr} {ns : List Int} (h : SqL K H a (ns.map V.int)) (q : Q (.int ns.length) H) : mLen K [.ref a] H Q := rd_len h (by rw [List.length_map]; exact q)
theorem rd_lenT {K : PySem.W.Frag} {H : Hp} {Q : VK} {a : Addr} {xs : List V} (h : SqT K H a xs) (q : Q (.int xs.length) H) : mLen K [.ref a] H Q := by
  unfold mLen
  exact ⟨a, xs, rfl, .inr h, q⟩
/-- xs.append(e) -/
@[irreducible] def mApp (x y : V) (H : Hp) (Q : VK) : Prop := ∃ l xs, x = .ref l ∧ H l = some (.lst xs) ∧ xs.length < 1000000 ∧ Q .non (upd H l (.lst (xs ++ [y])))
def mAppE (to te : TE) : TE := fun σ H Q => to σ H fun x H1 => ∃ l xs, x = .ref l ∧ H1 l = some (.lst xs) ∧ te σ H1 fun y H2 => mApp x y H2 Q
theorem rd_app {l : Addr} {xs : List V} {y : V} {H : Hp} {Q : VK} (h : H l = some (.lst xs)) (hz : xs.length < 1000000) (q : Q .non (upd H l (.lst (xs ++ [y])))) : mApp (.ref l) y H Q := by
  unfold mApp
  exact ⟨l, xs, rfl, h, hz, q⟩
theorem pe_app {X : Cx} {o e : Expr} {to te : TE} {apos cpos : Pos} (ho : PE X o to) (he : PE X e te) (hbase : attributeBase o "append" X.env (eval o X.env) = eval o X.env := by rfl)
    (hfew : ((backTo cpos (starEach [e] X.env)).all (fun x => !x.1) && (backToKw cpos (keywordEach [] X.env)).all (fun x => x.1.isSome)
      && decide ([e].length + ([] : List Keyword).length + (if ([] : List Keyword).isEmpty then 0 else 1) < 30)) = true := by rfl)
    (hline : (apos.endLine == cpos.line) = true := by rfl) (hs : starEach [e] X.env = (false, eval e X.env) :: starEach [] X.env := by rfl) (hplain : (backTo cpos (starEach [] X.env)).any (·.1) = false := by rfl) :
    PE X (.Call (.Attribute o "append" apos) [e] [] cpos) (mAppE to te) :=
  pe_weak (pe_bm PySem.F.plainAttrs_list PySem.F.slot_list_append PySem.F.type_list_append mt_append (pe_c ho) (pa_cons (pe_c he) pa_nil hs) hbase hfew hline hs hplain) fun σ H Q q => by
    refine ⟨_, q, fun x H1 r => ?_⟩
    obtain ⟨l, xs, rfl, h, r⟩ := r
    refine ⟨Or.inl ⟨rfl, _, SqL.of h⟩, _, r, fun y H2 r2 => ?_⟩
    unfold mApp at r2
    obtain ⟨l2, ys, e2, h2, hz, q2⟩ := r2
    exact ⟨l2, ys, y, e2, rfl, h2, szl hz, q2⟩
/-- o[i] = e, o a list -/
@[irreducible] def mSetL : V → V → V → Hp → (Hp → Prop) → Prop := rSetL
theorem set_listM {X : Cx} : PSet X mSetL := fun pins s σ H o i v uo ui uv Q I ro ri rv q => set_list pins s σ H o i v uo ui uv Q I ro ri rv (by
  unfold mSetL at q
  exact q)
theorem rd_setL {l : Addr} {xs : List V} {k : Int} {y : V} {H : Hp} {Q : Hp → Prop} (h : H l = some (.lst xs)) (h0 : 0 ≤ k) (h1 : k < (xs.length : Int)) (q : Q (upd H l (.lst (xs.set k.toNat y)))) : mSetL (.ref l) (.int k) y H Q := by
  unfold mSetL
  refine ⟨l, xs, k, k.toNat, rfl, rfl, h, ?_, q⟩
  unfold ixN
  first
    | (rw [if_pos h0, if_pos (by omega)]; done)
    | (rw [if_neg (by omega), if_pos (by omega)]; done)
    | simp [show ¬ k < 0 by omega, h0, h1]
/-- what a loop keeps of its own list: all else as it was -/
def But (p : Addr) (H H' : Hp) : Prop := ∀ b o, b ≠ p → H b = some o → H' b = some o

@[irreducible] def mSum (K : PySem.W.Frag) : List V → Hp → VK → Prop := rSum K
theorem call_sumM {X : Cx} (hc : X.calm = true) : CallR X (.builtin "sum") (mSum X.K) := fun pins s σ H xs us Q I r q => cr_sum hc pins s σ H xs us Q I r (by
  unfold mSum at q
  exact q)
theorem rd_sum {K : PySem.W.Frag} {H : Hp} {Q : VK} {a : Addr} {ns : List Int} (h : SqL K H a (ns.map V.int)) (q : Q (.int ns.sum) H) : mSum K [.ref a] H Q := by
  unfold mSum
  exact ⟨a, ns, rfl, h, q⟩

/-- isinstance(e, C), e the error that the suite holds, whatever its class -/
def mIsE (K : PySem.W.Frag) (cls : Value) (d : Option Addr) (a : Addr) : List V → Hp → VK → Prop := fun xs H Q => ∃ (D C : Addr) (b : Bool), xs = [.ref a, .ref C] ∧ cls = .ref D ∧ d = none ∧ ExcC K D ∧ PySem.W.kitOne K (.ref D) (.ref C) = some b ∧ Q (.bl b) H
theorem call_isEM {X : Cx} {a : Addr} {oe : Obj} {cls : Value} {d : Option Addr} {pn : List (Addr × Obj)} (hz : Zc cls d oe) (hf : ∃ vs, oe.data = .fields vs) : CallR (X.suite a ((a, oe) :: pn)) (.builtin "isinstance") (mIsE X.K cls d a) := by
  intro pins s σ H xs us Q I r h
  obtain ⟨D, C, b, rfl, rfl, rfl, hD, hk, q⟩ := h
  exact call_isE hD hz hf pins s σ H [.ref a, .ref C] us Q I r ⟨.ref C, .ref C, b, rfl, fun u hu => hu, hk, q⟩
theorem kit_same {K : PySem.W.Frag} {D : Addr} : PySem.W.kitOne K (.ref D) (.ref D) = some true := by
  unfold PySem.W.kitOne
  rw [if_pos (by simp)]

/-! ### constants, extend, repetition, min of three -/
theorem pe_gint {X : Cx} {x : Str} {n : Int} {pos : Pos} (hg : Gl X x) (hm : ∃ t, X.mg x = some (.int n t)) (hd : (x == ("__debug__" : Str)) = false := by decide) : PE X (.Name x pos) (tC (.int n)) := by
  obtain ⟨t, hm⟩ := hm
  exact pe_glob hg hm ⟨t, rfl⟩ hd
@[irreducible] def mExt (x y : V) (H : Hp) (Q : VK) : Prop := ∃ l b xs zs, x = .ref l ∧ y = .ref b ∧ H l = some (.lst xs) ∧ H b = some (.lst zs) ∧ xs.length + zs.length ≤ 1000000 ∧ Q .non (upd H l (.lst (xs ++ zs)))
def mExtE (to te : TE) : TE := fun σ H Q => to σ H fun x H1 => ∃ l xs, x = .ref l ∧ H1 l = some (.lst xs) ∧ te σ H1 fun y H2 => mExt x y H2 Q
theorem rd_ext {l b : Addr} {xs zs : List V} {H : Hp} {Q : VK} (h : H l = some (.lst xs)) (hb : H b = some (.lst zs)) (hz : xs.length + zs.length ≤ 1000000) (q : Q .non (upd H l (.lst (xs ++ zs)))) : mExt (.ref l) (.ref b) H Q := by
  unfold mExt
  exact ⟨l, b, xs, zs, rfl, rfl, h, hb, hz, q⟩
theorem pe_ext {X : Cx} {o e : Expr} {to te : TE} {apos cpos : Pos} (ho : PE X o to) (he : PE X e te) (hbase : attributeBase o "extend" X.env (eval o X.env) = eval o X.env := by rfl)
    (hfew : ((backTo cpos (starEach [e] X.env)).all (fun x => !x.1) && (backToKw cpos (keywordEach [] X.env)).all (fun x => x.1.isSome)
      && decide ([e].length + ([] : List Keyword).length + (if ([] : List Keyword).isEmpty then 0 else 1) < 30)) = true := by rfl)
    (hline : (apos.endLine == cpos.line) = true := by rfl) (hs : starEach [e] X.env = (false, eval e X.env) :: starEach [] X.env := by rfl) (hplain : (backTo cpos (starEach [] X.env)).any (·.1) = false := by rfl) :
    PE X (.Call (.Attribute o "extend" apos) [e] [] cpos) (mExtE to te) :=
  pe_weak (pe_bm PySem.F.plainAttrs_list PySem.F.slot_list_extend PySem.F.type_list_extend mt_extend (pe_c ho) (pa_cons (pe_c he) pa_nil hs) hbase hfew hline hs hplain) fun σ H Q q => by
    refine ⟨_, q, fun x H1 r => ?_⟩
    obtain ⟨l, xs, rfl, h, r⟩ := r
    refine ⟨Or.inl ⟨rfl, _, SqL.of h⟩, _, r, fun y H2 r2 => ?_⟩
    unfold mExt at r2
    obtain ⟨l2, b2, ys, zs, e2, rfl, h2, h3, hz, q2⟩ := r2
    exact ⟨l2, b2, ys, zs, e2, rfl, h2, h3, sz hz, q2⟩
theorem op_repM {X : Cx} : OpR X (binaryOp .Mult) mRep := fun pins s σ H x y v u Q I rx ry q => op_rep pins s σ H x y v u Q I rx ry (by
  unfold mRep at q
  obtain ⟨l, k, xs, e1, e2, h1, h0, hk, hz, h⟩ := q
  have big : (2 : Int) ^ 63 = 9223372036854775808 := by decide
  exact ⟨l, k, xs, e1, e2, h1, by omega, by omega, sz hz, h.go⟩)
theorem rd_rep {l : Addr} {k : Int} {xs : List V} {H : Hp} {Q : VK} (h1 : H l = some (.lst xs)) (h0 : 0 ≤ k) (hk : k ≤ 100000) (hz : xs.length * k.toNat ≤ 1000000) (h : NewO (.lst (List.replicate k.toNat xs).flatten) H Q) : mRep (.ref l) (.int k) H Q := by
  unfold mRep
  exact ⟨l, k, xs, rfl, rfl, h1, h0, hk, hz, h⟩
def mMin3 : List V → Hp → VK → Prop := fun vs H Q => ∃ i j k, vs = [.int i, .int j, .int k] ∧ Q (.int (min (min i j) k)) H
theorem call_min3M {X : Cx} (hc : X.calm = true) : CallR X (.builtin "min") mMin3 := fun pins s σ H xs us Q I r ⟨i, j, k, e, q⟩ => call_min3Nu hc pins s σ H xs us Q I r ⟨_, _, _, _, e, by
  show (Option.map (fun c => if c = true then V.int j else V.int i) (some (decide (j < i)))).bind _ = _
  by_cases h : j < i
  · rw [decide_eq_true h]
    show Option.map (fun c => if c = true then V.int k else V.int j) (some (decide (k < j))) = some (.int (min (min i j) k))
    by_cases h2 : k < j
    · rw [decide_eq_true h2]
      show some (V.int k) = _
      congr 2
      omega
    · rw [decide_eq_false h2]
      show some (V.int j) = _
      congr 2
      omega
  · rw [decide_eq_false h]
    show Option.map (fun c => if c = true then V.int k else V.int i) (some (decide (k < i))) = some (.int (min (min i j) k))
    by_cases h2 : k < i
    · rw [decide_eq_true h2]
      show some (V.int k) = _
      congr 2
      omega
    · rw [decide_eq_false h2]
      show some (V.int i) = _
      congr 2
      omega, q⟩
/-! ### comprehensions whose elements are new tuples -/
def EltT (te : TE) (σ : L2.St) (H : Hp) (xs : List V) : Prop := ∀ H', Same H H' → te σ H' fun v H'' => Same H' H'' ∧ ∃ p, v = .ref p ∧ H'' p = some (.tup xs)
def NewTs (n : Nat) (f : Nat → List V) (H : Hp) (Q : VK) : Prop := ∀ (D : Addr) (H' : Hp) (ps : List Addr), H D = none → Same H H' → H' D = some (.lst (ps.map V.ref)) → ps.length = n → (∀ i p, ps[i]? = some p → H' p = some (.tup (f i))) → Q (.ref D) H'
@[irreducible] def mLcTR3 (ta : TA) (j : Nat) (te : TE) (vs : List Nat) : TE := fun σ H Q => ta σ H fun ws H1 => ∃ (lo hi c : Int) (n : Nat) (f : Nat → List V), ws = [.int lo, .int hi, .int c] ∧ RgC lo hi c n ∧ n ≤ 1000 ∧ (∀ i, i < n → EltT te ((wipe σ vs).set j (some (.int (lo + (i : Nat) * c)))) H1 (f i)) ∧ NewTs n f H1 Q
theorem rd_lcTR3 {ta : TA} {j : Nat} {te : TE} {vs : List Nat} {σ : L2.St} {H : Hp} {Q : VK} (h : ta σ H fun ws H1 => ∃ (lo hi c : Int) (n : Nat) (f : Nat → List V), ws = [.int lo, .int hi, .int c] ∧ RgC lo hi c n ∧ n ≤ 1000 ∧ (∀ i, i < n → EltT te ((wipe σ vs).set j (some (.int (lo + (i : Nat) * c)))) H1 (f i)) ∧ NewTs n f H1 Q) : mLcTR3 ta j te vs σ H Q := by
  unfold mLcTR3
  exact h
@[irreducible] def mLcTL (K : PySem.W.Frag) (tl : TE) (j : Nat) (te : TE) (vs : List Nat) : TE := fun σ H Q => tl σ H fun x H1 => ∃ (a : Addr) (xs : List V) (f : Nat → List V), x = .ref a ∧ SqL K H1 a xs ∧ xs.length ≤ 1000 ∧ (∀ i y, xs[i]? = some y → EltT te ((wipe σ vs).set j (some y)) H1 (f i)) ∧ NewTs xs.length f H1 Q
theorem rd_lcTL {K : PySem.W.Frag} {tl : TE} {j : Nat} {te : TE} {vs : List Nat} {σ : L2.St} {H : Hp} {Q : VK} (h : tl σ H fun x H1 => ∃ (a : Addr) (xs : List V) (f : Nat → List V), x = .ref a ∧ SqL K H1 a xs ∧ xs.length ≤ 1000 ∧ (∀ i y, xs[i]? = some y → EltT te ((wipe σ vs).set j (some y)) H1 (f i)) ∧ NewTs xs.length f H1 Q) : mLcTL K tl j te vs σ H Q := by
  unfold mLcTL
  exact h
def TsW (H1 : Hp) (D : Addr) (f : Nat → List V) (i : Nat) (H' : Hp) : Prop := Same H1 H' ∧ ∃ ps : List Addr, H' D = some (.lst (ps.map V.ref)) ∧ ps.length = i ∧ ∀ k p, ps[k]? = some p → H' p = some (.tup (f k))
theorem TsW.next {H1 H' H'' : Hp} {D p : Addr} {f : Nat → List V} {i : Nat} (hD : H1 D = none) (w : TsW H1 D f i H') (s : Same H' H'') (hp : H'' p = some (.tup (f i))) : ∃ acc, H'' D = some (.lst acc) ∧ acc.length = i ∧ TsW H1 D f (i + 1) (upd H'' D (.lst (acc ++ [.ref p]))) := by
  obtain ⟨sm, ps, hd, hl, ht⟩ := w
  have hd2 := s _ _ hd
  have ne : ∀ {q : Addr} {xs : List V}, H'' q = some (.tup xs) → q ≠ D := fun {q xs} h e => by
    rw [e, hd2] at h
    cases h
  refine ⟨_, hd2, by rw [List.length_map, hl], same_mut (sm.trans s) hD, ps ++ [p], ?_, by rw [List.length_append, List.length_singleton, hl], fun k q hk => ?_⟩
  · rw [upd_same, List.map_append]
    rfl
  · by_cases h : k < ps.length
    · rw [List.getElem?_append_left h] at hk
      have := s _ _ (ht k q hk)
      rw [upd_ne (ne this)]
      exact this
    · rw [List.getElem?_append_right (by omega)] at hk
      have h0 : k - ps.length = 0 := by
        cases e : k - ps.length with
        | zero => rfl
        | succ m => rw [e] at hk; simp at hk
      rw [h0] at hk
      have e : p = q := Option.some.inj hk
      have ek : k = i := by omega
      subst e
      rw [ek, upd_ne (ne hp)]
      exact hp
section
variable {X : Cx} {te : TE} {ta : TA} {pos : Pos}
theorem lcTR3_of {ta : TA} {j : Nat} {te : TE} {vs : List Nat} {σ : L2.St} {H : Hp} {Q : VK} (hj : vs = [j]) (q : mLcTR3 ta j te vs σ H Q) : tLc (iRng3 (cTA ta)) (gName j) tYes (cTE te) vs σ H Q := by
  unfold mLcTR3 at q
  refine ⟨_, q, fun ws H1 r => ?_⟩
  obtain ⟨lo, hi, c, n, f, rfl, hr, hn, he, hq⟩ := r
  refine ⟨lo, hi, c, n, rfl, hr, fun D hD => ?_⟩
  refine ⟨fun i m H' => m = n - i ∧ i ≤ n ∧ TsW H1 D f i H', ⟨n, rfl, Nat.zero_le _, same_upd hD, [], upd_same, rfl, fun k p h => by cases h⟩, ?_⟩
  rintro i m H' ⟨rfl, hi, w⟩
  by_cases hlt : i < n
  · refine .inr ⟨hlt, TsW H1 D f (i + 1), fun H2 w2 => ⟨n - (i + 1), by omega, rfl, hlt, w2⟩, fun x H2 y => ?_⟩
    obtain ⟨e, y⟩ := y
    subst e
    subst y
    refine ⟨wipe_set hj, _, he i hlt _ w.1, fun v H'' r => ?_⟩
    obtain ⟨s, p, rfl, hp⟩ := r
    obtain ⟨acc, h1, h2, h3⟩ := w.next hD s hp
    exact ⟨acc, h1, szl (by omega), h3⟩
  · have e : i = n := by omega
    subst e
    obtain ⟨sm, ps, hd, hl, ht⟩ := w
    exact .inl ⟨Nat.le_refl _, hq D H' ps hD sm hd hl ht⟩
theorem lcTL_of {K : PySem.W.Frag} {tl : TE} {j : Nat} {te : TE} {vs : List Nat} {σ : L2.St} {H : Hp} {Q : VK} (hj : vs = [j]) (q : mLcTL K tl j te vs σ H Q) : tLc (iList K (cTE tl)) (gName j) tYes (cTE te) vs σ H Q := by
  unfold mLcTL at q
  refine ⟨_, q, fun x H1 r => ?_⟩
  obtain ⟨a, xs, f, rfl, hx, hn, he, hq⟩ := r
  refine ⟨a, rfl, ⟨xs, hx⟩, fun D hD => ?_⟩
  refine lc_list (xs := xs) (fun i H' => TsW H1 D f i H') ⟨same_upd hD, [], upd_same, rfl, fun k p h => by cases h⟩ (fun i H' _ w => w.1.seq hx) (fun i y H' hi w => ⟨wipe_set hj, _, he i y hi H' w.1, fun v H'' r => ?_⟩) fun H' w => ?_
  · obtain ⟨s, p, rfl, hp⟩ := r
    obtain ⟨acc, h1, h2, h3⟩ := w.next hD s hp
    have hl : i < xs.length := (List.getElem?_eq_some_iff.mp hi).1
    exact ⟨acc, h1, szl (by omega), h3⟩
  · obtain ⟨sm, ps, hd, hl, ht⟩ := w
    exact hq D H' ps hD sm hd hl ht
theorem pe_lcTL {elt it : Expr} {scope : Scope} {j : Nat} {x : Str} {xpos : Pos} (hc : X.calm = true) (hN : X.N.Nodup) {tl : TE} (ha : PE X it tl) (ok : BlkOk X.N X.env.scope scope [(x, j)])
    (hgt : ∀ (s : Shared) (H : Hp) (C : Addr) (cl : List (Str × Addr)) (fp : List Addr), PG (X.blk s H scope (compEnvC scope cl C X.env) fp) (.Name x xpos) (gName j))
    (he : ∀ (s : Shared) (H : Hp) (C : Addr) (cl : List (Str × Addr)) (fp : List Addr), PE (X.blk s H scope (compEnvC scope cl C X.env) fp) elt te) (hs2 : ∀ y, foldedSetIterable it X.env y = pure y := by intro _; rfl) :
    PE X (.ListComp elt [⟨.Name x xpos, it, [], 0⟩] scope pos) (mLcTL X.K tl j te [j]) :=
  pe_weak (pe_lc hc hN (pi_list (pe_c ha)) ok hgt (fun _ _ _ _ _ => pts_nil) (fun s H C cl fp => pe_c (he s H C cl fp)) hs2) fun _ _ _ q => lcTL_of rfl q
theorem ps_setLcTL {i : Nat} {y : Str} {py spos : Pos} {elt it : Expr} {scope : Scope} {j : Nat} {x : Str} {xpos : Pos} {tl : TE} (hc : X.calm = true) (hN : X.N.Nodup) (hy : X.N[i]? = some y) (hyl : X.env.scope.names.lookup y = some .local)
    (hsw : swapsWith (.ListComp elt [⟨.Name x xpos, it, [], 0⟩] scope pos) (some (.Name y py)) spos.line X.env = pure true) (ha : PE X it tl) (ok : BlkOk X.N X.env.scope scope [(x, j)])
    (hgt : ∀ (s : Shared) (H : Hp) (C : Addr) (cl : List (Str × Addr)) (fp : List Addr), PG (X.blk s H scope (compEnvC scope cl C X.env) fp) (.Name x xpos) (gName j))
    (he : ∀ (s : Shared) (H : Hp) (C : Addr) (cl : List (Str × Addr)) (fp : List Addr), PE (X.blk s H scope (compEnvC scope cl C X.env) fp) elt te) (hs2 : ∀ y, foldedSetIterable it X.env y = pure y := by intro _; rfl) :
    PS X (.Assign [.Name y py] (.ListComp elt [⟨.Name x xpos, it, [], 0⟩] scope pos) spos) (tAsg (mLcTL X.K tl j te [j]) (gName i)) :=
  ps_weak (ps_setLc hc hN hy hyl hsw (pi_list (pe_c ha)) ok hgt (fun _ _ _ _ _ => pts_nil) (fun s H C cl fp => pe_c (he s H C cl fp)) hs2) fun _ _ _ q => lcTL_of rfl q
theorem ps_setLcTR3 {i : Nat} {y : Str} {py spos : Pos} {elt : Expr} {scope : Scope} {j : Nat} {x : Str} {a b c : Expr} {p p2 xpos : Pos} (hc : X.calm = true) (hN : X.N.Nodup) (hy : X.N[i]? = some y) (hyl : X.env.scope.names.lookup y = some .local)
    (hsw : swapsWith (.ListComp elt [⟨.Name x xpos, .Call (.Name "range" p) [a, b, c] [] p2, [], 0⟩] scope pos) (some (.Name y py)) spos.line X.env = pure true) (hg : Gl X "range") (hm : X.mg "range" = none) (ha : PA X [a, b, c] ta) (ok : BlkOk X.N X.env.scope scope [(x, j)])
    (hgt : ∀ (s : Shared) (H : Hp) (C : Addr) (cl : List (Str × Addr)) (fp : List Addr), PG (X.blk s H scope (compEnvC scope cl C X.env) fp) (.Name x xpos) (gName j))
    (he : ∀ (s : Shared) (H : Hp) (C : Addr) (cl : List (Str × Addr)) (fp : List Addr), PE (X.blk s H scope (compEnvC scope cl C X.env) fp) elt te)
    (hs : starEach [a, b, c] X.env = (false, eval a X.env) :: starEach [b, c] X.env := by rfl) (hpl : (backTo p2 (starEach [b, c] X.env)).any (·.1) = false := by rfl) (hs2 : ∀ y, foldedSetIterable (.Call (.Name "range" p) [a, b, c] [] p2) X.env y = pure y := by intro _; rfl) :
    PS X (.Assign [.Name y py] (.ListComp elt [⟨.Name x xpos, .Call (.Name "range" p) [a, b, c] [] p2, [], 0⟩] scope pos) spos) (tAsg (mLcTR3 ta j te [j]) (gName i)) :=
  ps_weak (ps_setLc hc hN hy hyl hsw (pi_range3 hg hm (pa_c ha) hs hpl) ok hgt (fun _ _ _ _ _ => pts_nil) (fun s H C cl fp => pe_c (he s H C cl fp)) hs2) fun _ _ _ q => lcTR3_of rfl q
end

/-! ### the same rules within a comprehension: the written part by its own name -/
section
variable {X : Cx} {K : PySem.W.Frag}
theorem ix_listK (h : X.K = K) : IxR X (mIxL K) := h ▸ ix_listM
theorem ix_tupK (h : X.K = K) : IxR X (mIxT K) := h ▸ ix_tupM
theorem call_lenK (h : X.K = K) : CallR X (.builtin "len") (mLen K) := h ▸ call_lenM
end

theorem br_nonI {x : Int} {A B : Prop} (h : B) : Br (decide (V.int x = V.non)) A B := br_f (fun e => by cases e) h
theorem br_nonR {x : Addr} {A B : Prop} (h : B) : Br (decide (V.ref x = V.non)) A B := br_f (fun e => by cases e) h
theorem br_nonN {A B : Prop} (h : A) : Br (decide (V.non = V.non)) A B := br_t rfl h
theorem dec_nonI {x : Int} : decide (V.int x = V.non) = false := decide_eq_false fun e => by cases e
theorem dec_nonR {x : Addr} : decide (V.ref x = V.non) = false := decide_eq_false fun e => by cases e

/-! ### if t: x = e, told once by what x holds behind it -/
@[irreducible] def IfSet (b : Bool) (te : TE) (i : Nat) (D : Ends) (σ : L2.St) (H : Hp) : Prop := ∃ P : V → Hp → Prop, (b = true → te σ H P) ∧ (b = false → ∃ v, σ.set i (some v) = σ ∧ P v H) ∧ ∀ v H', P v H' → D.nx (σ.set i (some v)) H'
theorem rd_ifSet {b : Bool} {te : TE} {i : Nat} {D : Ends} {σ : L2.St} {H : Hp} (P : V → Hp → Prop) (h1 : b = true → te σ H P) (h2 : b = false → ∃ v, σ.set i (some v) = σ ∧ P v H) (k : ∀ v H', P v H' → D.nx (σ.set i (some v)) H') : IfSet b te i D σ H := by
  unfold IfSet
  exact ⟨P, h1, h2, k⟩
def mIfSet (tt : TT) (te : TE) (i : Nat) : TS := fun D σ H => tt σ H fun b H1 => IfSet b te i D σ H1
theorem ps_ifSet {X : Cx} {i : Nat} {x : Str} {c e : Expr} {tt : TT} {te : TE} {pos pos2 pos' : Pos} (hc : PT X c tt) (hN : X.N.Nodup) (hi : X.N[i]? = some x) (hx : Loc X.env.scope x) (he : PE X e te) (hs : swapsWith e (some (.Name x pos')) pos2.line X.env = pure false := by rfl)
    (hf : X.fn x = true ∨ X.env.scope.names.lookup x = some .local := by first | exact .inl rfl | exact .inr rfl | assumption) : PS X (.If c [.Assign [.Name x pos'] e pos2] [] pos) (mIfSet tt te i) :=
  ps_weak (ps_if (pt_c hc) (pss_one (ps_set (i := i) hN hi hx (pe_c he) hs hf)) pss_nil) fun D σ H q => ⟨_, q, fun b H1 r => by
    unfold IfSet at r
    obtain ⟨P, h1, h2, k⟩ := r
    cases b with
    | true => exact iteT ⟨P, h1 rfl, fun v H' p => k v H' p⟩
    | false =>
      obtain ⟨v, e, p⟩ := h2 rfl
      refine iteF ?_
      have := k v H1 p
      rw [e] at this
      exact this⟩
section
variable {X : Cx}
/-- what stands in a list at a whole number, as the store in place reads it -/
theorem get_listM : PGet X (mIxL X.K) := fun pins s σ H x y vx vy Q inv rx ry h => by
  unfold mIxL at h
  obtain ⟨p, xs, k, z, rfl, rfl, hsq, hat, q⟩ := h
  cases rx
  obtain ⟨tk, rfl⟩ := ry
  obtain ⟨its, rel, plain, _⟩ := inv.list hsq
  obtain ⟨j, hj, hget, hn, hlo, hhi⟩ := atI_get hat
  obtain ⟨wv, hwv, relz⟩ := rel.get hget
  have hlen := rel.length
  have h63 := line63
  by_cases hk : 0 ≤ k
  · have ej : k.toNat = j := by
      rw [seqIndex_of hk hhi] at hj
      exact Option.some.inj hj
    exact wpAny_getItem_list plain.isList hk (by omega) (by rw [ej]; simpa using hwv) ⟨z, H, inv, relz, q⟩
  · have ej : (k + (its.toArray.size : Int)).toNat = j := by
      rw [seqIndex_neg (by omega) hlo] at hj
      rw [List.size_toArray, ← hlen]
      exact Option.some.inj hj
    exact wpAny_getItem_list_neg plain.isList (by omega) (by rw [List.size_toArray]; omega) (by omega) (by rw [ej]; simpa using hwv) ⟨z, H, inv, relz, q⟩
end
section
variable {X : Cx} {te : TE} {ta : TA} {pos : Pos}
/-- [(…) for x in range(n)] -/
@[irreducible] def mLcTR1 (ta : TA) (j : Nat) (te : TE) (vs : List Nat) : TE := fun σ H Q => ta σ H fun ws H1 => ∃ (n : Int) (f : Nat → List V), ws = [.int n] ∧ (-100000 ≤ n ∧ n ≤ 100000) ∧ (∀ i, i < n.toNat → EltT te ((wipe σ vs).set j (some (.int (i : Nat)))) H1 (f i)) ∧ NewTs n.toNat f H1 Q
theorem rd_lcTR1 {ta : TA} {j : Nat} {te : TE} {vs : List Nat} {σ : L2.St} {H : Hp} {Q : VK} (h : ta σ H fun ws H1 => ∃ (n : Int) (f : Nat → List V), ws = [.int n] ∧ (-100000 ≤ n ∧ n ≤ 100000) ∧ (∀ i, i < n.toNat → EltT te ((wipe σ vs).set j (some (.int (i : Nat)))) H1 (f i)) ∧ NewTs n.toNat f H1 Q) : mLcTR1 ta j te vs σ H Q := by
  unfold mLcTR1
  exact h
theorem lcTR1_of {ta : TA} {j : Nat} {te : TE} {vs : List Nat} {σ : L2.St} {H : Hp} {Q : VK} (hj : vs = [j]) (q : mLcTR1 ta j te vs σ H Q) : tLc (iRng1 (cTA ta)) (gName j) tYes (cTE te) vs σ H Q := by
  unfold mLcTR1 at q
  refine ⟨_, q, fun ws H1 r => ?_⟩
  obtain ⟨n, f, rfl, ⟨hn0, hn⟩, he, hq⟩ := r
  have big : (2 : Int) ^ 62 = 4611686018427387904 := by decide
  refine ⟨n, rfl, by omega, by omega, fun D hD => ?_⟩
  refine lc_range (lo := 0) (n := n.toNat) (fun i H' => TsW H1 D f i H') ⟨same_upd hD, [], upd_same, rfl, fun k p h => by cases h⟩ (fun i H' hi w => ⟨wipe_set hj, ?_⟩) fun H' w => ?_
  · show cTE te ((wipe σ vs).set j (some (.int (0 + (i : Int))))) H' _
    rw [Int.zero_add]
    refine ⟨_, he i hi H' w.1, fun v H'' r => ?_⟩
    obtain ⟨s, p, rfl, hp⟩ := r
    obtain ⟨acc, h1, h2, h3⟩ := w.next hD s hp
    exact ⟨acc, h1, szl (by omega), h3⟩
  · obtain ⟨sm, ps, hd, hl, ht⟩ := w
    exact hq D H' ps hD sm hd hl ht
theorem ps_setLcTR1 {i : Nat} {y : Str} {py spos : Pos} {elt : Expr} {scope : Scope} {j : Nat} {x : Str} {a : Expr} {p p2 xpos : Pos} (hc : X.calm = true) (hN : X.N.Nodup) (hy : X.N[i]? = some y) (hyl : X.env.scope.names.lookup y = some .local)
    (hsw : swapsWith (.ListComp elt [⟨.Name x xpos, .Call (.Name "range" p) [a] [] p2, [], 0⟩] scope pos) (some (.Name y py)) spos.line X.env = pure true) (hg : Gl X "range") (hm : X.mg "range" = none) (ha : PA X [a] ta) (ok : BlkOk X.N X.env.scope scope [(x, j)])
    (hgt : ∀ (s : Shared) (H : Hp) (C : Addr) (cl : List (Str × Addr)) (fp : List Addr), PG (X.blk s H scope (compEnvC scope cl C X.env) fp) (.Name x xpos) (gName j))
    (he : ∀ (s : Shared) (H : Hp) (C : Addr) (cl : List (Str × Addr)) (fp : List Addr), PE (X.blk s H scope (compEnvC scope cl C X.env) fp) elt te)
    (hs : starEach [a] X.env = [(false, eval a X.env)] := by rfl) (hs2 : ∀ y, foldedSetIterable (.Call (.Name "range" p) [a] [] p2) X.env y = pure y := by intro _; rfl) :
    PS X (.Assign [.Name y py] (.ListComp elt [⟨.Name x xpos, .Call (.Name "range" p) [a] [] p2, [], 0⟩] scope pos) spos) (tAsg (mLcTR1 ta j te [j]) (gName i)) :=
  ps_weak (ps_setLc hc hN hy hyl hsw (pi_range1 hg hm (pa_c ha) hs) ok hgt (fun _ _ _ _ _ => pts_nil) (fun s H C cl fp => pe_c (he s H C cl fp)) hs2) fun _ _ _ q => lcTR1_of rfl q
end
/-! ### a comprehension over any walk, its elements values, some left out -/
def IMono (wi' wi : TI) : Prop := ∀ (σ : L2.St) (H : Hp) (R R' : It → Hp → Prop), (∀ J H', R J H' → R' J H') → wi' σ H R → wi σ H R'
section
variable {K : PySem.W.Frag}
theorem im_zip {ta : TA} : IMono (iZip K ta) (iZip K (cTA ta)) := fun σ H R R' h q => ⟨_, q, fun v H' r => by
  obtain ⟨a, b, xs, ys, e, h1, h2, r⟩ := r
  exact ⟨a, b, xs, ys, e, h1, h2, h _ _ r⟩⟩
theorem im_enum {ta : TA} : IMono (iEnum K ta) (iEnum K (cTA ta)) := fun σ H R R' h q => ⟨_, q, fun v H' r => by
  obtain ⟨a, xs, e, h1, r⟩ := r
  exact ⟨a, xs, e, h1, h _ _ r⟩⟩
theorem im_list {tl : TE} : IMono (iList K tl) (iList K (cTE tl)) := fun σ H R R' h q => ⟨_, q, fun v H' r => by
  obtain ⟨a, e, h1, r⟩ := r
  exact ⟨a, e, h1, h _ _ r⟩⟩
theorem im_tup {tl : TE} : IMono (iTup K tl) (iTup K (cTE tl)) := fun σ H R R' h q => ⟨_, q, fun v H' r => by
  obtain ⟨a, e, h1, r⟩ := r
  exact ⟨a, e, h1, h _ _ r⟩⟩
theorem im_rng1 {ta : TA} : IMono (iRng1 ta) (iRng1 (cTA ta)) := fun σ H R R' h q => ⟨_, q, fun v H' r => by
  obtain ⟨j, e, h1, h2, r⟩ := r
  exact ⟨j, e, h1, h2, h _ _ r⟩⟩
theorem im_rng2 {ta : TA} : IMono (iRng2 ta) (iRng2 (cTA ta)) := fun σ H R R' h q => ⟨_, q, fun v H' r => by
  obtain ⟨i, j, e, h1, r⟩ := r
  exact ⟨i, j, e, h1, h _ _ r⟩⟩
end
/-- the new list at D behind i turns -/
structure LcP (H1 : Hp) (D : Addr) (keep : Nat → Bool) (f : Nat → V) (i : Nat) (H' : Hp) : Prop where
  sm : Same H1 H'
  at' : H' D = some (.lst (((List.range i).filter keep).map f))
def LcN (H1 : Hp) (D : Addr) (keep : Nat → Bool) (f : Nat → V) (i : Nat) (y : V) (H4 : Hp) : Prop := ∃ acc, H4 D = some (.lst acc) ∧ acc.length < sizeLine ∧ LcP H1 D keep f (i + 1) (upd H4 D (.lst (acc ++ [y])))
theorem LcP.put {H1 H' H4 : Hp} {D : Addr} {keep : Nat → Bool} {f : Nat → V} {i : Nat} {y : V} (p : LcP H1 D keep f i H') (hD : H1 D = none) (hi : i < 100000) (s : Same H' H4) (hk : keep i = true) (e : y = f i) : LcN H1 D keep f i y H4 := by
  refine ⟨_, s _ _ p.at', ?_, same_mut (p.sm.trans s) hD, ?_⟩
  · have h1 := List.length_filter_le keep (List.range i)
    rw [List.length_range] at h1
    rw [List.length_map]
    exact szl (by omega)
  · rw [upd_same, List.range_succ, List.filter_append, List.map_append, e]
    have e2 : [i].filter keep = [i] := by
      rw [List.filter_cons, if_pos hk]
      rfl
    rw [e2]
    rfl
theorem LcP.skip {H1 H' H4 : Hp} {D : Addr} {keep : Nat → Bool} {f : Nat → V} {i : Nat} (p : LcP H1 D keep f i H') (s : Same H' H4) (hk : keep i = false) : LcP H1 D keep f (i + 1) H4 := by
  refine ⟨p.sm.trans s, ?_⟩
  rw [s _ _ p.at', List.range_succ, List.filter_append]
  have e2 : [i].filter keep = [] := by
    rw [List.filter_cons, if_neg (by rw [hk]; decide)]
    rfl
  rw [e2, List.append_nil]
@[irreducible] def mLcP (wi : TI) (g : TG) (tt : TT) (te : TE) (vs : List Nat) : TE := fun σ H Q => wi σ H fun J H1 => ∃ (n : Nat) (G : Hp → Prop) (Y : Nat → Hp → V → Hp → Prop) (keep : Nat → Bool) (f : Nat → V), Walk J n G Y ∧ n ≤ 100000 ∧ (∀ H', Same H1 H' → G H') ∧
  (∀ D, H1 D = none → ∀ i x H' H'', i < n → LcP H1 D keep f i H' → Y i H' x H'' → g x (wipe σ vs) H'' fun σ2 H2 => wipe σ2 vs = wipe σ vs ∧ tt σ2 H2 fun b H3 => Br b (te σ2 H3 fun y H4 => LcN H1 D keep f i y H4) (LcP H1 D keep f (i + 1) H3)) ∧ NewO (.lst (((List.range n).filter keep).map f)) H1 Q
theorem rd_lcP {wi : TI} {g : TG} {tt : TT} {te : TE} {vs : List Nat} {σ : L2.St} {H : Hp} {Q : VK} (h : wi σ H fun J H1 => ∃ (n : Nat) (G : Hp → Prop) (Y : Nat → Hp → V → Hp → Prop) (keep : Nat → Bool) (f : Nat → V), Walk J n G Y ∧ n ≤ 100000 ∧ (∀ H', Same H1 H' → G H') ∧
  (∀ D, H1 D = none → ∀ i x H' H'', i < n → LcP H1 D keep f i H' → Y i H' x H'' → g x (wipe σ vs) H'' fun σ2 H2 => wipe σ2 vs = wipe σ vs ∧ tt σ2 H2 fun b H3 => Br b (te σ2 H3 fun y H4 => LcN H1 D keep f i y H4) (LcP H1 D keep f (i + 1) H3)) ∧ NewO (.lst (((List.range n).filter keep).map f)) H1 Q) : mLcP wi g tt te vs σ H Q := by
  unfold mLcP
  exact h
def cTG (g : TG) : TG := fun v σ H Q => ∃ R : L2.St → Hp → Prop, g v σ H R ∧ ∀ σ' H', R σ' H' → Q σ' H'
section
variable {X : Cx} {e tg : Expr} {ifs : List Expr} {g : TG} {tt : TT} {te : TE}
theorem pg_c (h : PG X tg g) : PG X tg (cTG g) := ⟨fun pins s σ H v u Q I r ⟨R, h1, h2⟩ => wpAny_mono (h.run pins s σ H v u R I r h1) (fun _ s1 ⟨σ1, H1, I1, q⟩ => ⟨σ1, H1, I1, h2 _ _ q⟩) fun _ _ z => z⟩
theorem pts_c (h : PTs X ifs tt) : PTs X ifs (cTT tt) := ⟨fun pins s σ H Q I ⟨R, h1, h2⟩ => wpAny_mono (h.run pins s σ H R I h1) (fun _ s1 ⟨H1, I1, q⟩ => ⟨H1, I1, h2 _ _ q⟩) fun _ _ z => z⟩
theorem lcP_of {wi wi' : TI} {vs : List Nat} {σ : L2.St} {H : Hp} {Q : VK} (hw : IMono wi' wi) (q : mLcP wi' g tt te vs σ H Q) : tLc wi (cTG g) (cTT tt) (cTE te) vs σ H Q := by
  unfold mLcP at q
  refine hw _ _ _ _ (fun J H1 r => ?_) q
  obtain ⟨n, G, Y, keep, f, w, hn, hG, ht, hq⟩ := r
  intro D hD
  refine lc_it w (LcP H1 D keep f) ⟨same_upd hD, upd_same⟩ (fun i H' _ p => hG H' p.sm) (fun i x H' H'' hi p y => ?_) fun H' p => hq D H' hD p.sm p.at'
  refine ⟨_, ht D hD i x H' H'' hi p y, fun σ2 H2 r => ⟨r.1, _, r.2, fun b H3 r => ?_⟩⟩
  cases b with
  | true => exact iteT ⟨_, (r.un : if true = true then _ else _), fun y H4 z => z⟩
  | false => exact iteF (r.un : if false = true then _ else _)
theorem pe_lcP {iter elt : Expr} {scope : Scope} {own : List (Str × Nat)} {pos : Pos} {wi wi' : TI} (vs : List Nat) (hw : IMono wi' wi) (hc : X.calm = true) (hN : X.N.Nodup) (hi : PI X tg iter wi) (ok : BlkOk X.N X.env.scope scope own)
    (hg : ∀ (s : Shared) (H : Hp) (C : Addr) (cl : List (Str × Addr)) (fp : List Addr), PG (X.blk s H scope (compEnvC scope cl C X.env) fp) tg g) (ht : ∀ (s : Shared) (H : Hp) (C : Addr) (cl : List (Str × Addr)) (fp : List Addr), PTs (X.blk s H scope (compEnvC scope cl C X.env) fp) ifs tt)
    (he : ∀ (s : Shared) (H : Hp) (C : Addr) (cl : List (Str × Addr)) (fp : List Addr), PE (X.blk s H scope (compEnvC scope cl C X.env) fp) elt te) (hvs : own.map (·.2) = vs := by rfl) (hs : ∀ x, foldedSetIterable iter X.env x = pure x := by intro _; rfl) :
    PE X (.ListComp elt [⟨tg, iter, ifs, 0⟩] scope pos) (mLcP wi' g tt te vs) :=
  pe_weak (pe_lc hc hN hi ok (fun s H C cl fp => pg_c (hg s H C cl fp)) (fun s H C cl fp => pts_c (ht s H C cl fp)) (fun s H C cl fp => pe_c (he s H C cl fp)) hs) fun _ _ _ q => by
    rw [hvs]
    exact lcP_of hw q
theorem ps_setLcP {i : Nat} {y : Str} {py : Pos} {iter elt : Expr} {scope : Scope} {own : List (Str × Nat)} {pos spos : Pos} {wi wi' : TI} (vs : List Nat) (hw : IMono wi' wi) (hc : X.calm = true) (hN : X.N.Nodup) (hy : X.N[i]? = some y) (hyl : X.env.scope.names.lookup y = some .local)
    (hsw : swapsWith (.ListComp elt [⟨tg, iter, ifs, 0⟩] scope pos) (some (.Name y py)) spos.line X.env = pure true) (hi : PI X tg iter wi) (ok : BlkOk X.N X.env.scope scope own)
    (hg : ∀ (s : Shared) (H : Hp) (C : Addr) (cl : List (Str × Addr)) (fp : List Addr), PG (X.blk s H scope (compEnvC scope cl C X.env) fp) tg g) (ht : ∀ (s : Shared) (H : Hp) (C : Addr) (cl : List (Str × Addr)) (fp : List Addr), PTs (X.blk s H scope (compEnvC scope cl C X.env) fp) ifs tt)
    (he : ∀ (s : Shared) (H : Hp) (C : Addr) (cl : List (Str × Addr)) (fp : List Addr), PE (X.blk s H scope (compEnvC scope cl C X.env) fp) elt te) (hvs : own.map (·.2) = vs := by rfl) (hs : ∀ x, foldedSetIterable iter X.env x = pure x := by intro _; rfl) :
    PS X (.Assign [.Name y py] (.ListComp elt [⟨tg, iter, ifs, 0⟩] scope pos) spos) (tAsg (mLcP wi' g tt te vs) (gName i)) :=
  ps_weak (ps_setLc hc hN hy hyl hsw hi ok (fun s H C cl fp => pg_c (hg s H C cl fp)) (fun s H C cl fp => pts_c (ht s H C cl fp)) (fun s H C cl fp => pe_c (he s H C cl fp)) hs) fun _ _ _ q => by
    rw [hvs]
    exact lcP_of hw q
end
theorem wipe2 {σ : L2.St} {i j : Nat} {x y : Option V} (h : i ≠ j) : wipe (((wipe σ [i, j]).set i x).set j y) [i, j] = wipe σ [i, j] := by
  show (((((σ.set j none).set i none).set i x).set j y).set j none).set i none = (σ.set j none).set i none
  have e : ∀ (z : Option V), ((σ.set j none).set i z).set j none = (σ.set j none).set i z := fun z => by rw [List.set_comm _ _ h, List.set_set]
  rw [List.set_set, List.set_set, e, List.set_set]
/-! ### slices; lists of whole numbers compared -/
theorem sIx_nn {n d : Nat} {k : Int} (h : 0 ≤ k) : HT.sIx n d (some k) = min k.toNat n := by
  show (if k < 0 then (k + (n : Int)).toNat else min k.toNat n) = _
  rw [if_neg (by omega)]
theorem sIx_neg {n d : Nat} {k : Int} (h : k < 0) : HT.sIx n d (some k) = (k + (n : Int)).toNat := by
  show (if k < 0 then (k + (n : Int)).toNat else min k.toNat n) = _
  rw [if_pos h]
theorem drop_min {α : Type} (xs : List α) (k : Nat) : xs.drop (min k xs.length) = xs.drop k := by
  by_cases h : k ≤ xs.length
  · rw [Nat.min_eq_left h]
  · rw [Nat.min_eq_right (by omega), List.drop_of_length_le (Nat.le_refl _), List.drop_of_length_le (by omega)]
theorem take_all {α : Type} (xs : List α) {k m : Nat} (h : xs.length ≤ k) (h2 : xs.length ≤ m) : xs.take k = xs.take m := by
  rw [List.take_of_length_le h, List.take_of_length_le h2]
theorem cutX_from {xs : List V} {k : Int} (h : 0 ≤ k) : cutV xs (some k) none = xs.drop k.toNat := by
  unfold cutV
  rw [HT.sIx_none, sIx_nn h, drop_min]
  refine List.take_of_length_le ?_
  rw [List.length_drop]
  omega
theorem cutX_to {xs : List V} {k : Int} (h : 0 ≤ k) : cutV xs none (some k) = xs.take k.toNat := by
  unfold cutV
  rw [HT.sIx_none, sIx_nn h, List.drop_zero, Nat.sub_zero]
  by_cases h2 : k.toNat ≤ xs.length
  · rw [Nat.min_eq_left h2]
  · exact take_all _ (by omega) (by omega)
theorem cutX_nn {xs : List V} {i j : Int} (h : 0 ≤ i) (h' : 0 ≤ j) : cutV xs (some i) (some j) = (xs.drop i.toNat).take (j.toNat - i.toNat) := by
  unfold cutV
  rw [sIx_nn h, sIx_nn h', drop_min]
  by_cases h2 : j.toNat ≤ xs.length
  · by_cases h3 : i.toNat ≤ xs.length
    · rw [Nat.min_eq_left h2, Nat.min_eq_left h3]
    · rw [List.drop_of_length_le (by omega), List.take_nil, List.take_nil]
  · refine take_all _ ?_ ?_ <;> (rw [List.length_drop]; omega)
theorem cutX_butLast {xs : List V} {i : Int} (h : 0 ≤ i) : cutV xs (some i) (some (-1)) = (xs.drop i.toNat).take (xs.length - 1 - i.toNat) := by
  unfold cutV
  rw [sIx_nn h, sIx_neg (by decide), drop_min]
  have e : (-1 + (xs.length : Int)).toNat = xs.length - 1 := by omega
  rw [e]
  by_cases h3 : i.toNat ≤ xs.length
  · rw [Nat.min_eq_left h3]
  · rw [List.drop_of_length_le (by omega), List.take_nil, List.take_nil]
theorem eqvAll_ints : ∀ ns ms : List Int, PyData.eqvAll (ns.map PyData.int) (ms.map PyData.int) = decide (ns = ms)
  | [], [] => rfl
  | [], _ :: _ => by
    rw [decide_eq_false (by intro e; cases e)]
    rfl
  | _ :: _, [] => by
    rw [decide_eq_false (by intro e; cases e)]
    rfl
  | a :: r, b :: s => by
    rw [List.map_cons, List.map_cons, PyData.eqvAll, eqvAll_ints r s, PyData.eqv]
    by_cases h : a = b
    · subst h
      simp
    · simp [h]
section
variable {K : PySem.W.Frag} {H : Hp} {Q : VK} {a b : Addr}
theorem rd_eqI {ns ms : List Int} (h1 : SqL K H a (ns.map V.int)) (h2 : SqL K H b (ms.map V.int)) (h : Q (.bl (decide (ns = ms))) H) : mEqD K (.ref a) (.ref b) H Q :=
  rd_eqA (n := 1) (m := 1) (.list (ns.map PyData.int)) (.list (ms.map PyData.int)) (dp_ints h1) (dp_ints h2) (sh_lst (sh_ints _)) (sh_lst (sh_ints _)) (by rw [PyData.eqv, eqvAll_ints]; exact h)
theorem rd_neI {ns ms : List Int} (h1 : SqL K H a (ns.map V.int)) (h2 : SqL K H b (ms.map V.int)) (h : Q (.bl (!decide (ns = ms))) H) : mNeD K (.ref a) (.ref b) H Q :=
  rd_neA (n := 1) (m := 1) (.list (ns.map PyData.int)) (.list (ms.map PyData.int)) (dp_ints h1) (dp_ints h2) (sh_lst (sh_ints _)) (sh_lst (sh_ints _)) (by rw [PyData.eqv, eqvAll_ints]; exact h)
end
theorem rd_yes {σ : L2.St} {H : Hp} {Q : Bool → Hp → Prop} (h : Q true H) : tYes σ H Q := h
theorem at_last {ns : List Int} (h : 0 < ns.length) : atI (ns.map V.int) (-1) = some (.int (ns.getD (ns.length - 1) 0)) := by
  have hne : ns ≠ [] := fun e => by
    rw [e] at h
    cases h
  obtain ⟨r, x, rfl⟩ : ∃ r x, ns = r ++ [x] := ⟨ns.dropLast, ns.getLast hne, (List.dropLast_concat_getLast hne).symm⟩
  rw [List.map_append]
  have e : (r ++ [x]).getD ((r ++ [x]).length - 1) 0 = x := by
    rw [List.length_append, List.length_singleton, Nat.add_sub_cancel, List.getD_eq_getElem?_getD, List.getElem?_append_right (Nat.le_refl _), Nat.sub_self]
    rfl
  rw [e]
  exact atI_last _ _
/-- the frame in another form -/
theorem frS {F : L2.St → Hp → Prop} {σ σ' : L2.St} {H : Hp} (e : σ' = σ) (h : F σ' H) : F σ H := e ▸ h
theorem br_xnonI {x : Int} {A B : Prop} (h : A) : Br (!decide (V.int x = V.non)) A B := br_nt (fun e => by cases e) h
theorem br_xnonR {x : Addr} {A B : Prop} (h : A) : Br (!decide (V.ref x = V.non)) A B := br_nt (fun e => by cases e) h
theorem br_xnonN {A B : Prop} (h : B) : Br (!decide (V.non = V.non)) A B := br_nf rfl h
theorem rd_listT {K : PySem.W.Frag} {a : Addr} {xs : List V} {H : Hp} {Q : VK} (h1 : SqT K H a xs) (h : NewO (.lst xs) H Q) : mListOf K [.ref a] H Q := by
  unfold mListOf
  exact ⟨a, xs, rfl, .inr h1, h⟩
/-- tuple(xs) of a list -/
@[irreducible] def mTupOf (K : PySem.W.Frag) : List V → Hp → VK → Prop := fun xs H Q => ∃ p ys, xs = [.ref p] ∧ SqL K H p ys ∧ NewO (.tup ys) H Q
theorem rd_tupOf {K : PySem.W.Frag} {a : Addr} {xs : List V} {H : Hp} {Q : VK} (h1 : SqL K H a xs) (h : NewO (.tup xs) H Q) : mTupOf K [.ref a] H Q := by
  unfold mTupOf
  exact ⟨a, xs, rfl, h1, h⟩
theorem call_tupOfM {X : Cx} : CallR X (.type "tuple") (mTupOf X.K) := fun pins s σ H xs us Q I r q => call_tuple_of pins s σ H xs us Q I r (by
  unfold mTupOf at q
  obtain ⟨a, ys, e1, h1, h⟩ := q
  exact ⟨a, ys, e1, .inl ⟨h1, h.go⟩⟩)
/-! ### own cells: objects that change, beside a world that only grows -/
structure Cells (H B : Hp) (l : List (Addr × HO)) : Prop where
  cell : ∀ a o, (a, o) ∈ l → H a = some o
  nd : (l.map Prod.fst).Nodup
  imm : Same B H
  dis : ∀ a o, (a, o) ∈ l → B a = none
structure Own (S B0 : Hp) (as : List Addr) (B : Hp) (l : List (Addr × HO)) (H : Hp) : Prop where
  c : Cells H B l
  kept : ∀ b o, b ∉ as → S b = some o → H b = some o
  own : ∀ a o, (a, o) ∈ l → a ∈ as ∨ S a = none
  grow : Same B0 B
  new : ∀ b, B0 b = none → B b ≠ none → S b = none
  there : ∀ a, a ∈ as → H a ≠ none
theorem mem_fst {l : List (Addr × HO)} {a : Addr} {o : HO} (h : (a, o) ∈ l) : a ∈ l.map Prod.fst := List.mem_map.mpr ⟨(a, o), h, rfl⟩
theorem fst_mem {l : List (Addr × HO)} {a : Addr} (h : a ∈ l.map Prod.fst) : ∃ o, (a, o) ∈ l := by
  obtain ⟨⟨a', o⟩, h2, rfl⟩ := List.mem_map.mp h
  exact ⟨o, h2⟩
theorem Cells.start {H B : Hp} {l : List (Addr × HO)} (c : Cells H B l) : Own H B (l.map Prod.fst) B l H :=
  ⟨c, fun _ _ _ h => h, fun _ _ h => .inl (mem_fst h), Same.refl _, fun _ h k => absurd h k, fun a h => by
    obtain ⟨o, h⟩ := fst_mem h
    rw [c.cell a o h]
    exact fun e => nomatch e⟩
theorem Own.mk0 {H : Hp} : Own H H [] H [] H := ⟨⟨fun _ _ h => (nomatch h), List.nodup_nil, Same.refl _, fun _ _ h => (nomatch h)⟩, fun _ _ _ h => h, fun _ _ h => (nomatch h), Same.refl _, fun _ h k => absurd h k, fun _ h => (nomatch h)⟩
section
variable {S B0 B H H' : Hp} {as : List Addr} {l : List (Addr × HO)} {p : Addr} {o : HO}
theorem Own.mem (w : Own S B0 as B l H) (h : (p, o) ∈ l) : H p = some o := w.c.cell p o h
theorem Own.imm (w : Own S B0 as B l H) : Same B H := w.c.imm
theorem Own.same (w : Own S B0 [] B l H) : Same S H := fun b o h => w.kept b o (fun z => nomatch z) h
theorem Own.frS (w : Own S B0 as B l H) (n : H p = none) : S p = none ∧ p ∉ as := by
  have h2 : p ∉ as := fun h => w.there p h n
  refine ⟨?_, h2⟩
  cases e : S p with
  | none => rfl
  | some u => rw [w.kept p u h2 e] at n; cases n
theorem Own.frB (w : Own S B0 as B l H) (n : H p = none) : B p = none := same_none w.imm n
theorem Own.more (w : Own S B0 as B l H) (s : Same H H') : Own S B0 as B l H' :=
  ⟨⟨fun a u h => s _ _ (w.c.cell a u h), w.c.nd, w.c.imm.trans s, w.c.dis⟩, fun b u hb h => s _ _ (w.kept b u hb h), w.own, w.grow, w.new, fun a h e => w.there a h (same_none s e)⟩
theorem Own.notin (w : Own S B0 as B l H) (n : H p = none) {u : HO} : (p, u) ∉ l := fun h => by
  rw [w.c.cell p u h] at n
  cases n
theorem Own.ro (w : Own S B0 as B l H) (n : H p = none) (s : Same H H') (e : H' p = some o) : ∃ B', Same B B' ∧ B' p = some o ∧ B p = none ∧ Own S B0 as B' l H' := by
  have nb := w.frB n
  refine ⟨upd B p o, same_upd nb, upd_same, nb, ⟨fun a u h => s _ _ (w.c.cell a u h), w.c.nd, fun b u h => ?_, fun a u h => ?_⟩, fun b u hb h => s _ _ (w.kept b u hb h), w.own, w.grow.trans (same_upd nb), fun b h k => ?_, fun a h e => w.there a h (same_none s e)⟩
  · by_cases hb : b = p
    · rw [hb, upd_same] at h
      rw [hb, e, h]
    · rw [upd_ne hb] at h
      exact s _ _ (w.c.imm _ _ h)
  · rw [upd_ne (fun z => w.notin n (z ▸ h))]
    exact w.c.dis a u h
  · by_cases hb : b = p
    · rw [hb]
      exact (w.frS n).1
    · rw [upd_ne hb] at k
      exact w.new b h k
theorem Own.add (w : Own S B0 as B l H) (n : H p = none) (s : Same H H') (e : H' p = some o) : Own S B0 as B ((p, o) :: l) H' :=
  ⟨⟨fun a u h => by
      rcases List.mem_cons.mp h with h | h
      · cases h
        exact e
      · exact s _ _ (w.c.cell a u h), List.nodup_cons.mpr ⟨fun h => by
      obtain ⟨u, h⟩ := fst_mem h
      exact w.notin n h, w.c.nd⟩, w.c.imm.trans s, fun a u h => by
      rcases List.mem_cons.mp h with h | h
      · cases h
        exact w.frB n
      · exact w.c.dis a u h⟩, fun b u hb h => s _ _ (w.kept b u hb h), fun a u h => by
      rcases List.mem_cons.mp h with h | h
      · cases h
        exact .inr (w.frS n).1
      · exact w.own a u h, w.grow, w.new, fun a h e => w.there a h (same_none s e)⟩
theorem Own.sub {l' : List (Addr × HO)} (w : Own S B0 as B l H) (h : ∀ c, c ∈ l' → c ∈ l) (nd : (l'.map Prod.fst).Nodup) : Own S B0 as B l' H :=
  ⟨⟨fun a u k => w.c.cell a u (h _ k), nd, w.c.imm, fun a u k => w.c.dis a u (h _ k)⟩, w.kept, fun a u k => w.own a u (h _ k), w.grow, w.new, w.there⟩
/-- a cell changes: a list of the cells as they stand, one of them another -/
theorem Own.chg {l' : List (Addr × HO)} (w : Own S B0 as B l H) {u : HO} (hm : (p, u) ∈ l) (hf : l'.map Prod.fst = l.map Prod.fst) (hc : ∀ a v, (a, v) ∈ l' → (a = p ∧ v = o) ∨ (a ≠ p ∧ (a, v) ∈ l)) : Own S B0 as B l' (upd H p o) := by
  have old : ∀ {a v}, (a, v) ∈ l' → ∃ v', (a, v') ∈ l := fun {a v} h => by
    have := mem_fst h
    rw [hf] at this
    exact fst_mem this
  refine ⟨⟨fun a v h => ?_, hf ▸ w.c.nd, fun b v h => ?_, fun a v h => ?_⟩, fun b v hb h => ?_, fun a v h => ?_, w.grow, w.new, fun a h => ?_⟩
  · rcases hc a v h with ⟨rfl, rfl⟩ | ⟨hn, h⟩
    · exact upd_same
    · rw [upd_ne hn]
      exact w.c.cell a v h
  · have hb : b ≠ p := fun e => by
      rw [e, w.c.dis p u hm] at h
      cases h
    rw [upd_ne hb]
    exact w.c.imm b v h
  · obtain ⟨v', h'⟩ := old h
    exact w.c.dis a v' h'
  · have hn : b ≠ p := fun e => by
      subst e
      rcases w.own b u hm with z | z
      · exact hb z
      · rw [z] at h
        cases h
    rw [upd_ne hn]
    exact w.kept b v hb h
  · obtain ⟨v', h'⟩ := old h
    exact w.own a v' h'
  · by_cases e : a = p
    · rw [e, upd_same]
      exact fun z => nomatch z
    · rw [upd_ne e]
      exact w.there a h
theorem nd_ne {a b : Addr} {x y : HO} {l : List (Addr × HO)} (nd : (((a, x) :: l).map Prod.fst).Nodup) (h : (b, y) ∈ l) : b ≠ a := fun e => by
  subst e
  exact (List.nodup_cons.mp nd).1 (mem_fst h)
/-- the i-th cell changes -/
theorem Own.set (w : Own S B0 as B l H) (i : Nat) {u : HO} (hi : l[i]? = some (p, u)) (o : HO) : Own S B0 as B (l.set i (p, o)) (upd H p o) := by
  have hm : (p, u) ∈ l := List.mem_of_getElem? hi
  have hil := (List.getElem?_eq_some_iff.mp hi).1
  refine w.chg hm ?_ fun a v h => ?_
  · apply List.ext_getElem?
    intro j
    rw [List.getElem?_map, List.getElem?_map, List.getElem?_set]
    by_cases e : i = j
    · subst e
      rw [if_pos rfl, if_pos hil, hi]
      rfl
    · rw [if_neg e]
  · obtain ⟨j, hj⟩ := List.getElem?_of_mem h
    rw [List.getElem?_set] at hj
    by_cases e : i = j
    · rw [if_pos e, if_pos hil] at hj
      cases hj
      exact .inl ⟨rfl, rfl⟩
    · rw [if_neg e] at hj
      refine .inr ⟨fun z => ?_, List.mem_of_getElem? hj⟩
      subst z
      have h1 : (l.map Prod.fst)[i]? = some a := by rw [List.getElem?_map, hi]; rfl
      have h2 : (l.map Prod.fst)[j]? = some a := by rw [List.getElem?_map, hj]; rfl
      have hil2 : i < (l.map Prod.fst).length := by rw [List.length_map]; exact hil
      exact e ((List.getElem?_inj hil2 w.c.nd).mp (h1.trans h2.symm))
/-- a callee that works on the first cells -/
theorem Own.call {lc lr l' : List (Addr × HO)} {B' : Hp} (w : Own S B0 as B (lc ++ lr) H) (w' : Own H B (lc.map Prod.fst) B' l' H') : Own S B0 as B' (l' ++ lr) H' := by
  have nd := w.c.nd
  rw [List.map_append] at nd
  have ndr := (List.nodup_append.mp nd)
  have hr : ∀ a o, (a, o) ∈ lr → a ∉ lc.map Prod.fst := fun a o h k => ndr.2.2 a k a (mem_fst h) rfl
  have hl : ∀ a o, (a, o) ∈ l' → a ∈ lc.map Prod.fst ∨ H a = none := w'.own
  refine ⟨⟨fun a o h => ?_, ?_, w'.c.imm, fun a o h => ?_⟩, fun b o hb h => ?_, fun a o h => ?_, w.grow.trans w'.grow, fun b h k => ?_, fun a h => ?_⟩
  · rcases List.mem_append.mp h with h | h
    · exact w'.c.cell a o h
    · exact w'.kept a o (hr a o h) (w.c.cell a o (List.mem_append_right _ h))
  · rw [List.map_append]
    refine List.nodup_append.mpr ⟨w'.c.nd, ndr.2.1, fun a h b k e => ?_⟩
    subst e
    obtain ⟨o, h⟩ := fst_mem h
    obtain ⟨o2, k⟩ := fst_mem k
    rcases hl a o h with z | z
    · exact hr a o2 k z
    · rw [w.c.cell a o2 (List.mem_append_right _ k)] at z
      cases z
  · rcases List.mem_append.mp h with h | h
    · exact w'.c.dis a o h
    · have hb := w.c.dis a o (List.mem_append_right _ h)
      cases e : B' a with
      | none => rfl
      | some u =>
        have := w'.new a hb (by rw [e]; exact fun z => nomatch z)
        rw [w.c.cell a o (List.mem_append_right _ h)] at this
        cases this
  · refine w'.kept b o (fun z => ?_) (w.kept b o hb h)
    obtain ⟨u, z⟩ := fst_mem z
    rcases w.own b u (List.mem_append_left _ z) with y | y
    · exact hb y
    · rw [y] at h
      cases h
  · rcases List.mem_append.mp h with h | h
    · rcases hl a o h with z | z
      · obtain ⟨u, z⟩ := fst_mem z
        exact w.own a u (List.mem_append_left _ z)
      · exact .inr (w.frS z).1
    · exact w.own a o (List.mem_append_right _ h)
  · cases e : B b with
    | none => exact (w.frS (w'.new b e k)).1
    | some u => exact w.new b h (by rw [e]; exact fun z => nomatch z)
  · intro e
    have ha := w.there a h
    cases e2 : H a with
    | none => exact ha e2
    | some u =>
      by_cases hc : a ∈ lc.map Prod.fst
      · exact w'.there a hc e
      · rw [w'.kept a u hc e2] at e
        cases e
theorem Own.call0 {lc l' : List (Addr × HO)} {B' : Hp} (w : Own S B0 as B lc H) (w' : Own H B (lc.map Prod.fst) B' l' H') : Own S B0 as B' l' H' := by
  have w2 : Own S B0 as B (lc ++ []) H := by rw [List.append_nil]; exact w
  have w3 := w2.call w'
  rw [List.append_nil] at w3
  exact w3
theorem Own.cellsL {lc lr : List (Addr × HO)} (w : Own S B0 as B (lc ++ lr) H) : Cells H B lc := by
  have nd := w.c.nd
  rw [List.map_append] at nd
  exact ⟨fun a o h => w.c.cell a o (List.mem_append_left _ h), (List.nodup_append.mp nd).1, w.c.imm, fun a o h => w.c.dis a o (List.mem_append_left _ h)⟩
/-- the first cell changes no more -/
theorem Own.ice (w : Own S B0 as B ((p, o) :: l) H) (n : S p = none) : ∃ B', Same B B' ∧ B' p = some o ∧ Own S B0 as B' l H := by
  have nb := w.c.dis p o (List.mem_cons_self ..)
  have nd := List.nodup_cons.mp w.c.nd
  refine ⟨upd B p o, same_upd nb, upd_same, ⟨fun a u h => w.c.cell a u (List.mem_cons_of_mem _ h), nd.2, fun b u h => ?_, fun a u h => ?_⟩, w.kept, fun a u h => w.own a u (List.mem_cons_of_mem _ h), w.grow.trans (same_upd nb), fun b h k => ?_, w.there⟩
  · by_cases hb : b = p
    · rw [hb, upd_same] at h
      rw [hb, w.c.cell p o (List.mem_cons_self ..), h]
    · rw [upd_ne hb] at h
      exact w.c.imm b u h
  · rw [upd_ne (fun z => nd.1 (by rw [← show a = p from z]; exact mem_fst h))]
    exact w.c.dis a u (List.mem_cons_of_mem _ h)
  · by_cases hb : b = p
    · rw [hb]
      exact n
    · rw [upd_ne hb] at k
      exact w.new b h k
end

/-! ### fields, methods, dicts, whiles: readings that stop the walk at what the heap holds -/
@[irreducible] def mGetF (C : Addr) (f : Str) (x : V) (H : Hp) (Q : VK) : Prop := ∃ a dx fs v, x = .ref a ∧ H a = some (.ins C dx fs) ∧ fs.lookup f = some v ∧ Q v H
@[irreducible] def mPutF (C : Addr) (f : Str) (x y : V) (H : Hp) (k : Hp → Prop) : Prop := ∃ a dx fs, x = .ref a ∧ H a = some (.ins C dx fs) ∧ fs.length < 1000 ∧ k (upd H a (.ins C dx (putF f y fs)))
@[irreducible] def mIns (C : Addr) (m : Str) (x : V) (H : Hp) (A : Prop) : Prop := ∃ a dx fs, x = .ref a ∧ H a = some (.ins C dx fs) ∧ fs.lookup m = none ∧ A
@[irreducible] def mDIn (x y : V) (H : Hp) (Q : VK) : Prop := ∃ a kvs k, x = .ref a ∧ y = kV k ∧ H a = some (.dK kvs) ∧ Q (.bl (valV kvs k).isSome) H
@[irreducible] def mDNotIn (x y : V) (H : Hp) (Q : VK) : Prop := ∃ a kvs k, x = .ref a ∧ y = kV k ∧ H a = some (.dK kvs) ∧ Q (.bl (!(valV kvs k).isSome)) H
@[irreducible] def mDGet (x y : V) (H : Hp) (Q : VK) : Prop := ∃ a kvs k v, x = .ref a ∧ y = kV k ∧ H a = some (.dK kvs) ∧ valV kvs k = some v ∧ Q v H
@[irreducible] def mDPut (x y v : V) (H : Hp) (k : Hp → Prop) : Prop := ∃ a kvs key, x = .ref a ∧ y = kV key ∧ H a = some (.dK kvs) ∧ kvs.length < 1000000 ∧ k (upd H a (.dK (putK kvs key v)))
@[irreducible] def mDDel (x y : V) (H : Hp) (k : Hp → Prop) : Prop := ∃ a kvs key, x = .ref a ∧ y = kV key ∧ H a = some (.dK kvs) ∧ (valV kvs key).isSome = true ∧ k (upd H a (.dK (dropK kvs key)))
@[irreducible] def mPopAt (x i : V) (H : Hp) (Q : VK) : Prop := ∃ l xs k y, x = .ref l ∧ i = .int k ∧ H l = some (.lst xs) ∧ 0 ≤ k ∧ k < (xs.length : Int) ∧ k ≤ 1000000 ∧ xs[k.toNat]? = some y ∧ Q y (upd H l (.lst (xs.eraseIdx k.toNat)))
@[irreducible] def mInsert (x i y : V) (H : Hp) (Q : VK) : Prop := ∃ l xs k, x = .ref l ∧ i = .int k ∧ H l = some (.lst xs) ∧ xs.length < 1000000 ∧ 0 ≤ k ∧ k ≤ 1000000 ∧ Q .non (upd H l (.lst (xs.take k.toNat ++ [y] ++ xs.drop k.toNat)))
@[irreducible] def mTru (K : PySem.W.Frag) (x : V) (H : Hp) (Q : Bool → Hp → Prop) : Prop := ∃ k, TruV K x H k ∧ Q k H
def mFld (C : Addr) (ta : TE) (f : Str) : TE := fun σ H Q => ta σ H fun x H1 => mGetF C f x H1 Q
def mSFld (C : Addr) (ta tv : TE) (f : Str) : TS := fun D σ H => tv σ H fun y H1 => ta σ H1 fun x H2 => mPutF C f x y H2 fun H3 => D.nx σ H3
def mSFldAug (C : Addr) (ta tv : TE) (rd : R2) (f : Str) : TS := fun D σ H => ta σ H fun x H1 => mGetF C f x H1 fun v _ => tv σ H1 fun y H2 => rd v y H2 fun z H3 => mPutF C f x z H3 fun H4 => D.nx σ H4
def mMeth (C : Addr) (m : Str) (sp : Sp) (dvs : List V) (E : XK) (ta : TE) (t : TA) : TE := fun σ H Q => ta σ H fun x H1 => mIns C m x H1 (t σ H1 fun vs H2 => sp (x :: (vs ++ dvs)) H2 Q E)
def mDInE (ty td : TE) : TE := fun σ H Q => ty σ H fun y H1 => td σ H1 fun x H2 => mDIn x y H2 Q
def mDNotInE (ty td : TE) : TE := fun σ H Q => ty σ H fun y H1 => td σ H1 fun x H2 => mDNotIn x y H2 Q
def mDGetE (td ty : TE) : TE := fun σ H Q => td σ H fun x H1 => ty σ H1 fun y H2 => mDGet x y H2 Q
def mSDPut (td ty tv : TE) : TS := fun D σ H => tv σ H fun v H1 => td σ H1 fun x H2 => ty σ H2 fun y H3 => mDPut x y v H3 fun H4 => D.nx σ H4
def mSDDel (td ty : TE) : TS := fun D σ H => td σ H fun x H1 => ty σ H1 fun y H2 => mDDel x y H2 fun H3 => D.nx σ H3
def mPopE (to te : TE) : TE := fun σ H Q => to σ H fun x H1 => ∃ l xs, x = .ref l ∧ H1 l = some (.lst xs) ∧ te σ H1 fun y H2 => mPopAt x y H2 Q
def mInsE (to ti te : TE) : TE := fun σ H Q => to σ H fun x H1 => ∃ l xs, x = .ref l ∧ H1 l = some (.lst xs) ∧ ti σ H1 fun i H2 => te σ H2 fun y H3 => mInsert x i y H3 Q
def mTruth (K : PySem.W.Frag) (ta : TE) : TT := fun σ H Q => ta σ H fun x H1 => mTru K x H1 Q
@[irreducible] def mWhile (c : TT) (tb : TS) : TS := fun D σ H => ∃ (Pv : L2.St → Hp → Prop) (μ : L2.St → Hp → Nat), Pv σ H ∧ ∀ σ H, Pv σ H → c σ H fun b H1 => Br b (tb { D with nx := fun σ' H' => Pv σ' H' ∧ μ σ' H' < μ σ H, ct := fun σ' H' => Pv σ' H' ∧ μ σ' H' < μ σ H, bk := D.nx } σ H1) (D.nx σ H1)
theorem rd_while {c : TT} {tb : TS} {D : Ends} {σ : L2.St} {H : Hp} (Pv : L2.St → Hp → Prop) (μ : L2.St → Hp → Nat) (h0 : Pv σ H) (hs : ∀ σ H, Pv σ H → c σ H fun b H1 => Br b (tb { D with nx := fun σ' H' => Pv σ' H' ∧ μ σ' H' < μ σ H, ct := fun σ' H' => Pv σ' H' ∧ μ σ' H' < μ σ H, bk := D.nx } σ H1) (D.nx σ H1)) : mWhile c tb D σ H := by
  unfold mWhile
  exact ⟨Pv, μ, h0, hs⟩
section
variable {C a : Addr} {f m : Str} {H : Hp} {Q : VK} {dx : Addr} {fs : List (Str × V)} {v y : V} {kvs : List (Key × V)} {n : Int} {t : Str} {xs : List V}
theorem rd_getF (h : H a = some (.ins C dx fs)) (hl : fs.lookup f = some v) (q : Q v H) : mGetF C f (.ref a) H Q := by
  unfold mGetF
  exact ⟨a, dx, fs, v, rfl, h, hl, q⟩
theorem rd_putF {k : Hp → Prop} {fs' : List (Str × V)} (h : H a = some (.ins C dx fs)) (hz : fs.length < 1000) (e : putF f y fs = fs') (q : k (upd H a (.ins C dx fs'))) : mPutF C f (.ref a) y H k := by
  unfold mPutF
  exact ⟨a, dx, fs, rfl, h, hz, e ▸ q⟩
theorem rd_ins {A : Prop} (h : H a = some (.ins C dx fs)) (hl : fs.lookup m = none) (q : A) : mIns C m (.ref a) H A := by
  unfold mIns
  exact ⟨a, dx, fs, rfl, h, hl, q⟩
theorem rd_din (h : H a = some (.dK kvs)) (q : Q (.bl (valV kvs (.inl n)).isSome) H) : mDIn (.ref a) (.int n) H Q := by
  unfold mDIn
  exact ⟨a, kvs, .inl n, rfl, rfl, h, q⟩
theorem rd_dnotin (h : H a = some (.dK kvs)) (q : Q (.bl (!(valV kvs (.inl n)).isSome)) H) : mDNotIn (.ref a) (.int n) H Q := by
  unfold mDNotIn
  exact ⟨a, kvs, .inl n, rfl, rfl, h, q⟩
theorem rd_dget (h : H a = some (.dK kvs)) (e : valV kvs (.inl n) = some v) (q : Q v H) : mDGet (.ref a) (.int n) H Q := by
  unfold mDGet
  exact ⟨a, kvs, .inl n, v, rfl, rfl, h, e, q⟩
theorem rd_dgetS (h : H a = some (.dK kvs)) (e : valV kvs (.inr t) = some v) (q : Q v H) : mDGet (.ref a) (.str t) H Q := by
  unfold mDGet
  exact ⟨a, kvs, .inr t, v, rfl, rfl, h, e, q⟩
theorem rd_dput {k : Hp → Prop} (h : H a = some (.dK kvs)) (hz : kvs.length < 1000000) (q : k (upd H a (.dK (putK kvs (.inl n) y)))) : mDPut (.ref a) (.int n) y H k := by
  unfold mDPut
  exact ⟨a, kvs, .inl n, rfl, rfl, h, hz, q⟩
theorem rd_dputS {k : Hp → Prop} (h : H a = some (.dK kvs)) (hz : kvs.length < 1000000) (q : k (upd H a (.dK (putK kvs (.inr t) y)))) : mDPut (.ref a) (.str t) y H k := by
  unfold mDPut
  exact ⟨a, kvs, .inr t, rfl, rfl, h, hz, q⟩
theorem rd_ddel {k : Hp → Prop} (h : H a = some (.dK kvs)) (e : (valV kvs (.inl n)).isSome = true) (q : k (upd H a (.dK (dropK kvs (.inl n))))) : mDDel (.ref a) (.int n) H k := by
  unfold mDDel
  exact ⟨a, kvs, .inl n, rfl, rfl, h, e, q⟩
theorem rd_pop0 {xs : List V} (h : H a = some (.lst (y :: xs))) (q : Q y (upd H a (.lst xs))) : mPopAt (.ref a) (.int 0) H Q := by
  unfold mPopAt
  exact ⟨a, y :: xs, 0, y, rfl, rfl, h, Int.le_refl 0, by rw [List.length_cons]; omega, by decide, rfl, q⟩
theorem rd_popAt (h : H a = some (.lst xs)) (h0 : 0 ≤ n) (h1 : n < (xs.length : Int)) (h2 : n ≤ 1000000) (e : xs[n.toNat]? = some y) (q : Q y (upd H a (.lst (xs.eraseIdx n.toNat)))) : mPopAt (.ref a) (.int n) H Q := by
  unfold mPopAt
  exact ⟨a, xs, n, y, rfl, rfl, h, h0, h1, h2, e, q⟩
theorem rd_insert (h : H a = some (.lst xs)) (hz : xs.length < 1000000) (h0 : 0 ≤ n) (h1 : n ≤ 1000000) (q : Q .non (upd H a (.lst (xs.take n.toNat ++ [y] ++ xs.drop n.toNat)))) : mInsert (.ref a) (.int n) y H Q := by
  unfold mInsert
  exact ⟨a, xs, n, rfl, rfl, h, hz, h0, h1, q⟩
theorem rd_truL {K : PySem.W.Frag} {R : Bool → Hp → Prop} (h : SqL K H a xs) (q : R (!xs.isEmpty) H) : mTru K (.ref a) H R := by
  unfold mTru
  exact ⟨_, .inl ⟨xs, h, rfl⟩, q⟩
theorem rd_truD {K : PySem.W.Frag} {R : Bool → Hp → Prop} (h : H a = some (.dK kvs)) (q : R (!kvs.isEmpty) H) : mTru K (.ref a) H R := by
  unfold mTru
  exact ⟨_, .inr (.inr ⟨kvs, h, rfl⟩), q⟩
theorem rd_truB {K : PySem.W.Frag} {R : Bool → Hp → Prop} {b : Bool} (q : R b H) : mTru K (.bl b) H R := by
  unfold mTru
  exact ⟨b, rfl, q⟩
end
section
variable {X : Cx} {e o value i c : Expr} {f m : Str} {pos pos' tpos apos cpos : Pos} {ta tv td ty te ti to : TE} {C : Addr}
theorem pe_fldM (he : PE X e ta) (c : Cls X.K C) (n : NoAttr X.K C f) (hb : attributeBase e f X.env (eval e X.env) = eval e X.env := by rfl) : PE X (.Attribute e f pos) (mFld C ta f) :=
  pe_weak (pe_fld (pe_c he) hb) fun σ H Q q => ⟨_, q, fun x H1 r => by
    unfold mGetF at r
    obtain ⟨a, dx, fs, v, e1, h, hl, r⟩ := r
    exact ⟨a, C, dx, fs, v, e1, h, c, n, hl, r⟩⟩
theorem ps_fldM (ha : PE X o ta) (hv : PE X value tv) (c : Cls X.K C) (n : NoAttr X.K C f) (hs : swapsWith value (some (.Attribute o f pos')) pos.line X.env = pure false := by rfl) : PS X (.Assign [.Attribute o f pos'] value pos) (mSFld C ta tv f) :=
  ps_weak (ps_fld (pe_c ha) (pe_c hv) hs) fun D σ H q => ⟨_, q, fun y H1 r => ⟨_, r, fun x H2 r => by
    unfold mPutF at r
    obtain ⟨a, dx, fs, e1, h, hz, r⟩ := r
    exact ⟨a, C, dx, fs, e1, h, c, n, hz, r⟩⟩⟩
theorem inop_c {op : Operator} {rd : R2} (h : InOp X op rd) : InOp X op (cR2 rd) := fun pins s σ H x y u v Q I rx ry ⟨R, h1, h2⟩ => thn (h pins s σ H x y u v R I rx ry h1) fun w s1 ⟨z, H1, I1, rz, q⟩ => ⟨z, H1, I1, rz, h2 _ _ q⟩
theorem ps_fldaugM {op : Operator} {rd : R2} (ha : PE X o ta) (hv : PE X value tv) (hop : InOp X op rd) (c : Cls X.K C) (n : NoAttr X.K C f) : PS X (.AugAssign (.Attribute o f tpos) op value pos) (mSFldAug C ta tv rd f) :=
  ps_weak (ps_fldaug (pe_c ha) (pe_c hv) (inop_c hop)) fun D σ H q => ⟨_, q, fun x H1 r => by
    unfold mGetF at r
    obtain ⟨a, dx, fs, v, e1, h, hl, r⟩ := r
    subst e1
    refine ⟨a, C, dx, fs, v, rfl, h, c, n, hl, _, r, fun y H2 r => ⟨_, r, fun z H3 r => ?_⟩⟩
    unfold mPutF at r
    obtain ⟨a', dx', fs', e1, h', hz, r⟩ := r
    cases e1
    exact ⟨dx', fs', h', hz, r⟩⟩
theorem pc_weak {op : CmpOp} {a b : Expr} {t t' : TE} (h : PC X op a b t) (w : ∀ σ H Q, t' σ H Q → t σ H Q) : PC X op a b t' := ⟨fun pins s σ H Q I q => h.run pins s σ H Q I (w σ H Q q)⟩
theorem pc_dinM (hu : X.A.units + 1 < cLine) (hi : PE X i ty) (ho : PE X o td) : PC X .In i o (mDInE ty td) :=
  pc_weak (pc_din hu (pe_c hi) (pe_c ho)) fun σ H Q q => ⟨_, q, fun y H1 r => ⟨_, r, fun x H2 r => by
    unfold mDIn at r
    obtain ⟨a, kvs, k, e1, e2, h, r⟩ := r
    exact ⟨a, _, e1, e2 ▸ DGet.k h, r⟩⟩⟩
theorem pc_dnotinM (hu : X.A.units + 1 < cLine) (hi : PE X i ty) (ho : PE X o td) : PC X .NotIn i o (mDNotInE ty td) :=
  pc_weak (pc_dnotin hu (pe_c hi) (pe_c ho)) fun σ H Q q => ⟨_, q, fun y H1 r => ⟨_, r, fun x H2 r => by
    unfold mDNotIn at r
    obtain ⟨a, kvs, k, e1, e2, h, r⟩ := r
    exact ⟨a, _, e1, e2 ▸ DGet.k h, r⟩⟩⟩
theorem pe_dgetM (hu : X.A.units + 1 < cLine) (ho : PE X o td) (hi : PE X i ty) (hs : NoSl i := by exact fun _ _ => rfl) : PE X (.Subscript o i pos) (mDGetE td ty) :=
  pe_weak (pe_dget hu (pe_c ho) (pe_c hi) hs) fun σ H Q q => ⟨_, q, fun x H1 r => ⟨_, r, fun y H2 r => by
    unfold mDGet at r
    obtain ⟨a, kvs, k, v, e1, e2, h, e, r⟩ := r
    exact ⟨a, v, e1, by rw [e2, ← e]; exact DGet.k h, r⟩⟩⟩
theorem ps_dputM (hu : X.A.units + 1 < cLine) (ho : PE X o td) (hi : PE X i ty) (hv : PE X value tv) (hs : swapsWith value (some (.Subscript o i pos')) pos.line X.env = pure false := by rfl) : PS X (.Assign [.Subscript o i pos'] value pos) (mSDPut td ty tv) :=
  ps_weak (ps_dput hu (pe_c ho) (pe_c hi) (pe_c hv) hs) fun D σ H q => ⟨_, q, fun v H1 r => ⟨_, r, fun x H2 r => ⟨_, r, fun y H3 r => by
    unfold mDPut at r
    obtain ⟨a, kvs, k, e1, e2, h, hz, r⟩ := r
    exact ⟨a, _, e1, e2 ▸ DPut.k h (szl hz), r⟩⟩⟩⟩
theorem ps_ddelM (ho : PE X o td) (hi : PE X i ty) : PS X (.Delete [.Subscript o i tpos] pos) (mSDDel td ty) :=
  ps_weak (ps_ddel (pe_c ho) (pe_c hi)) fun D σ H q => ⟨_, q, fun x H1 r => ⟨_, r, fun y H2 r => by
    unfold mDDel at r
    obtain ⟨a, kvs, k, e1, e2, h, e, r⟩ := r
    exact ⟨a, kvs, k, e1, h, e2, e, r⟩⟩⟩
theorem pt_truthM (ha : PE X e ta) (he : ∀ whole, isTrue e X.env whole = (do let v ← whole; standAt e.pos; holding [v] (truthy v))) : PT X e (mTruth X.K ta) :=
  pt_weak (pt_truth (pe_c ha) he) fun σ H Q q => ⟨_, q, fun x H1 r => by
    unfold mTru at r
    exact r⟩
theorem ps_whileM {body : List Stmt} {tc : TT} {tb : TS} (hp : PassesOwn (model X.prog X.w) X.A X.env X.xe) (hc : PT X c tc) (hb : PSs X body tb) : PS X (.While c body [] pos) (mWhile tc tb) :=
  ps_weak (ps_while hp (pt_c hc) hb) fun D σ H q => by
    unfold mWhile at q
    obtain ⟨Pv, μ, h0, hs⟩ := q
    exact while_by Pv μ h0 (fun σ H p => ⟨_, hs σ H p, fun b H1 r => r.un⟩) fun σ H Q Q' h ⟨R, h1, h2⟩ => ⟨R, h1, fun b H1 r => h _ _ (h2 _ _ r)⟩
theorem pe_pop {o e : Expr} (ho : PE X o to) (he : PE X e te) (hbase : attributeBase o "pop" X.env (eval o X.env) = eval o X.env := by rfl)
    (hfew : ((backTo cpos (starEach [e] X.env)).all (fun x => !x.1) && (backToKw cpos (keywordEach [] X.env)).all (fun x => x.1.isSome)
      && decide ([e].length + ([] : List Keyword).length + (if ([] : List Keyword).isEmpty then 0 else 1) < 30)) = true := by rfl)
    (hline : (apos.endLine == cpos.line) = true := by rfl) (hs : starEach [e] X.env = (false, eval e X.env) :: starEach [] X.env := by rfl) (hplain : (backTo cpos (starEach [] X.env)).any (·.1) = false := by rfl) :
    PE X (.Call (.Attribute o "pop" apos) [e] [] cpos) (mPopE to te) :=
  pe_weak (pe_bm PySem.F.plainAttrs_list PySem.F.slot_list_pop PySem.F.type_list_pop mt_popAt (pe_c ho) (pa_cons (pe_c he) pa_nil hs) hbase hfew hline hs hplain) fun σ H Q q => by
    refine ⟨_, q, fun x H1 r => ?_⟩
    obtain ⟨l, xs, rfl, h, r⟩ := r
    refine ⟨Or.inl ⟨rfl, _, SqL.of h⟩, _, r, fun y H2 r2 => ?_⟩
    unfold mPopAt at r2
    obtain ⟨l2, ys, k, z, e2, e3, h2, h0, h1, hk, hy, q2⟩ := r2
    have big : (2 : Int) ^ 63 = 9223372036854775808 := by decide
    exact ⟨l2, ys, k, k.toNat, z, e2, congrArg (fun u => [u]) e3, h2, by omega, by omega, seqIndex_of h0 h1, hy, q2⟩
end
section
variable {X : Cx} {e o i : Expr} {m : Str} {apos cpos : Pos} {ta te ti to : TE} {C : Addr} {t : TA} {sp : Sp} {dvs : List V} {E : XK}
theorem meth_weak (h : PE X e (tMeth C m sp dvs E (cTE ta) t)) : PE X e (mMeth C m sp dvs E ta t) := pe_weak h fun σ H Q q => ⟨_, q, fun x H1 r => by
  unfold mIns at r
  exact r⟩
theorem pe_insert {o i e : Expr} (ho : PE X o to) (hi : PE X i ti) (he : PE X e te) (hbase : attributeBase o "insert" X.env (eval o X.env) = eval o X.env := by rfl)
    (hfew : ((backTo cpos (starEach [i, e] X.env)).all (fun x => !x.1) && (backToKw cpos (keywordEach [] X.env)).all (fun x => x.1.isSome)
      && decide ([i, e].length + ([] : List Keyword).length + (if ([] : List Keyword).isEmpty then 0 else 1) < 30)) = true := by rfl)
    (hline : (apos.endLine == cpos.line) = true := by rfl) (hs1 : starEach [e] X.env = (false, eval e X.env) :: starEach [] X.env := by rfl) (hs : starEach [i, e] X.env = (false, eval i X.env) :: starEach [e] X.env := by rfl) (hplain : (backTo cpos (starEach [e] X.env)).any (·.1) = false := by rfl) :
    PE X (.Call (.Attribute o "insert" apos) [i, e] [] cpos) (mInsE to ti te) :=
  pe_weak (pe_bm PySem.F.plainAttrs_list PySem.F.slot_list_insert PySem.F.type_list_insert mt_insert (pe_c ho) (pa_cons (pe_c hi) (pa_cons (pe_c he) pa_nil hs1) hs) hbase hfew hline hs hplain) fun σ H Q q => by
    refine ⟨_, q, fun x H1 r => ?_⟩
    obtain ⟨l, xs, rfl, h, r⟩ := r
    refine ⟨Or.inl ⟨rfl, _, SqL.of h⟩, _, r, fun y H2 r => ⟨_, r, fun z H3 r2 => ?_⟩⟩
    unfold mInsert at r2
    obtain ⟨l2, ys, k, e2, e3, h2, hz, h0, h1, q2⟩ := r2
    have big : (2 : Int) ^ 63 = 9223372036854775808 := by decide
    exact ⟨l2, ys, k, z, e2, congrArg (fun u => [u, z]) e3, h2, szl hz, h0, by omega, q2⟩
end
/-! ### an if whose ways meet again: told once by what holds behind it -/
def cTSs (t : TS) : TS := fun D σ H => ∃ P : L2.St → Hp → Prop, t { D with nx := P } σ H ∧ ∀ σ' H', P σ' H' → D.nx σ' H'
theorem pss_c {X : Cx} {sts : List Stmt} {t : TS} (h : PSs X sts t) : PSs X sts (cTSs t) := ⟨fun pins s σ H D I ⟨P, h1, h2⟩ => thn (h.run pins s σ H { D with nx := P } I h1) fun f s' q => by
  cases f with
  | next =>
    obtain ⟨σ', H', I', q⟩ := q
    exact ⟨σ', H', I', h2 _ _ q⟩
  | brk => exact q
  | cont => exact q
  | ret u => exact q⟩
@[irreducible] def IfJ (b : Bool) (t u : TS) (D : Ends) (σ : L2.St) (H : Hp) : Prop := ∃ P : L2.St → Hp → Prop, (b = true → t { D with nx := P } σ H) ∧ (b = false → u { D with nx := P } σ H) ∧ ∀ σ' H', P σ' H' → D.nx σ' H'
def mIfJ (c : TT) (t u : TS) : TS := fun D σ H => c σ H fun b H1 => IfJ b t u D σ H1
theorem rd_ifJ {b : Bool} {t u : TS} {D : Ends} {σ : L2.St} {H : Hp} (P : L2.St → Hp → Prop) (h1 : b = true → t { D with nx := P } σ H) (h2 : b = false → u { D with nx := P } σ H) (k : ∀ σ' H', P σ' H' → D.nx σ' H') : IfJ b t u D σ H := by
  unfold IfJ
  exact ⟨P, h1, h2, k⟩
theorem ps_ifJ {X : Cx} {c : Expr} {bs us : List Stmt} {pos : Pos} {tt : TT} {t u : TS} (hc : PT X c tt) (ha : PSs X bs t) (hb : PSs X us u) : PS X (.If c bs us pos) (mIfJ tt t u) :=
  ps_weak (ps_if (pt_c hc) (pss_c ha) (pss_c hb)) fun D σ H q => ⟨_, q, fun b H1 r => by
    unfold IfJ at r
    obtain ⟨P, h1, h2, k⟩ := r
    cases b with
    | true => exact iteT ⟨P, h1 rfl, k⟩
    | false => exact iteF ⟨P, h2 rfl, k⟩⟩
end My
namespace My
open PySem L2

section
open PySem.Spec PyProof.Rows
variable {prog : Program} {w : World} {A : Around} {E : Value → Shared → Prop} {s : Shared}
def bestA (b : Option (Int × Tok)) : Array Value := match b with | none => #[] | some p => #[Value.int p.1 p.2, Value.int p.1 p.2]
def bestO (b : Option (Int × Tok)) (c : Nat) : Obj := { cls := .type "list", dict := none, data := .seq (bestA b) c, slots := #[] }
def endsIn (o : Option Int) (dv v : Value) : Prop := match o with | none => v = dv | some m => ∃ t, v = Value.int m t
theorem kw_tree {id : String} {b : Builtin} {args : List Value} {kw : List (Str × Value)} {Q : Value → Shared → Prop} (hk : builtinKind id = none) (hp : plainId id = true) (hb : entryFor table id = some b) (ha : argsOk id ⟨args, kw⟩)
    (hc : wpAny (model prog w) A.in1 (b ⟨args, kw⟩) (fun fin s' => match fin with
      | .done f => (match (Except.ok f : Result) with | .ok (.ret v) => Q v s' | .ok _ => False | .error e => E e s')
      | .again d => d.quiet = true ∧ codeAny (model prog w) A d (fun r s' => match r with | .ok (.ret v) => Q v s' | .ok _ => False | .error e => E e s') s') E s) : wpAny (model prog w) A (call (.builtin id) args kw) Q E s := by
  refine wpAny_call (codeAny_call_builtin hp hb ?_)
  simp only [checkBuiltinCall, hk]
  cases hs : Manifest.signature? id with
  | none => exact wpAny_pure hc
  | some sig =>
    have h2 : Bind.checkArgs id sig ⟨args, kw⟩ = pure () := by simpa only [argsOk, hs] using ha
    show wpAny _ A.in1 (Bind.checkArgs id sig ⟨args, kw⟩) _ _ s
    rw [h2]
    exact wpAny_pure hc
end

section
open PySem.Spec PyProof.Rows
variable {prog : Program} {w : World} {A : Around} {R : Result → Shared → Prop} {I : Addr} {fp wr : List Addr} {G : Array GenState → Array GenState → Prop} {n : Nat} {P : Nat → Value → Prop} {St : Nat → Shared → Prop}
def mxTo (val : Nat → Int) : Nat → Option Int
  | 0 => none
  | i + 1 => some (match mxTo val i with | none => val i | some m => if val i > m then val i else m)
theorem mx_loop (W : WalksS prog w A.in1 I fp wr G n P St) (val : Nat → Int) (hv : ∀ i v, P i v → ∃ t, v = Value.int (val i) t) (S : Addr) (hSf : S ∉ fp) (dv : Value) :
    ∀ (k i : Nat) (s : Shared) (c : Nat) (b : Option (Int × Tok)), n - i = k → i ≤ n → St i s → b.map Prod.fst = mxTo val i → s.heap.get? S = some (bestO b c) →
      (∀ v s', Moved (S :: wr) G s s' → endsIn (mxTo val n) dv v → R (.ok (.ret v)) s') → codeAny (model prog w) A (.builtin "max.loop" ⟨[.ref I, .none, .ref S], [(Str.ofString "default", dv)]⟩) R s := by
  have nw : S ∉ wr := fun z => hSf (W.sub _ z)
  have up : ∀ b ∈ wr, b ∈ S :: wr := fun b z => .tail _ z
  have hN : (toString "max" ++ toString ".loop" : String) = "max.loop" := by decide
  have hne : ∀ {b : Addr}, b ∉ S :: wr → S ≠ b := fun z e => z (e ▸ .head _)
  intro k
  induction k with
  | zero =>
    intro i s c b hk hi st hb hS fin
    have en : i = n := by omega
    subst en
    refine codeAny_builtin F.entry_max_loop ?_
    rw [Around.under_plainId F.plain_max_loop _]
    show wpAny _ A.in1 (seqItems? (.ref S) >>= _) _ _ s
    refine wpAny_bind (wpAny_seqItems hS (show (bestO b c).data = .seq (bestA b) c from rfl) ?_)
    show wpAny _ A.in1 (tryCatch (pyNext (.ref I)) _ >>= _) _ _ s
    refine wpAny_bind (wpAny_tryCatch (W.done s _ _ st fun s' mv => ?_))
    have hS2 := mv.heap S _ nw hS
    cases b with
    | none =>
      refine wpAny_bind (m := rule _) (wpAny_rule (wpAny_pure (fin _ _ (mv.mono up) ?_)))
      rw [← hb]
      rfl
    | some p =>
      obtain ⟨m, t⟩ := p
      show wpAny _ A.in1 (updateSeq S (fun _ => #[]) >>= _) _ _ _
      refine wpAny_bind ?_
      refine wpAny_updateSeq (hz := by show 2 ≤ sizeLine; rw [sizeLine_eq]; decide) hS2 rfl (wpAny_bind (wpAny_letGo (wpAny_pure ?_)))
      refine fin (.int m t) _ ((mv.mono up).then_heap (tk := s'.toks) (Nat.le_refl _) fun b o z e => (Heap.get?_update_other _ _ (hne z)).trans e) ?_
      rw [← hb]
      exact ⟨t, rfl⟩
  | succ k ih =>
    intro i s c b hk hi st hb hS fin
    have hlt : i < n := by omega
    refine codeAny_builtin F.entry_max_loop ?_
    rw [Around.under_plainId F.plain_max_loop _]
    show wpAny _ A.in1 (seqItems? (.ref S) >>= _) _ _ s
    refine wpAny_bind (wpAny_seqItems hS (show (bestO b c).data = .seq (bestA b) c from rfl) ?_)
    show wpAny _ A.in1 (tryCatch (pyNext (.ref I)) _ >>= _) _ _ s
    refine wpAny_bind (wpAny_tryCatch (W.item i s _ _ hlt st fun v s' pv st' mv => ?_))
    obtain ⟨u, rfl⟩ := hv i v pv
    have hS2 := mv.heap S _ nw hS
    have stay : ∀ (h' : Heap) (tk : Nat), s'.toks ≤ tk → (∀ b, b ≠ S → h'.get? b = s'.heap.get? b) → St (i + 1) { s' with heap := h', toks := tk } := fun h' tk htk hh => W.frame _ s' _ _ st' htk fun b zb o e => (hh b fun z => hSf (z ▸ zb)).trans e
    cases b with
    | none =>
      show wpAny _ A.in1 (updateSeq S (fun _ => #[Value.int (val i) u, Value.int (val i) u]) >>= _) _ _ _
      refine wpAny_bind ?_
      refine wpAny_updateSeq hS2 rfl ?_
      rw [hN]
      refine wpAny_pure ⟨plainId_quiet F.plain_max_loop _, ih (i + 1) _ _ (some (val i, u)) (by omega) hlt (stay _ s'.toks (Nat.le_refl _) fun b z => Heap.get?_update_other _ _ (Ne.symm z)) ?_ (Heap.get?_update_self _ hS2 rfl) fun v' s'' mv' hv' => ?_⟩
      · show some (val i) = mxTo val (i + 1)
        unfold mxTo
        rw [← hb]
        rfl
      · exact fin v' s'' (Moved.trans W.gtrans ((mv.mono up).then_heap (tk := s'.toks) (Nat.le_refl _) fun b o z e => (Heap.get?_update_other _ _ (hne z)).trans e) mv') hv'
    | some p =>
      obtain ⟨m, t⟩ := p
      have eb : mxTo val (i + 1) = some (if val i > m then val i else m) := by
        have hb2 : some m = mxTo val i := hb
        show some (match mxTo val i with | none => val i | some m => if val i > m then val i else m) = _
        rw [← hb2]
      show wpAny _ A.in1 (tryCatch (holding [Value.int (val i) u, Value.int (val i) u] (richCompare .Gt (Value.int (val i) u) (Value.int m t) >>= _)) _ >>= _) _ _ _
      refine wpAny_bind (wpAny_tryCatch (wpAny_holding (wpAny_bind ((CmpOf.ints_gt (P := fun a v => ∃ t, v = Value.int (if a = 0 then val i else m) t) (fun j : Nat => if j = 0 then val i else m) fun _ _ z => z) 0 1 _ _ _ _ _ ⟨u, rfl⟩ ⟨t, rfl⟩ ?_))))
      refine wpAny_bind (wpAny_holding (wpAny_truthy_bool ?_))
      refine wpAny_bind (wpAny_letGo (wpAny_pure ?_))
      show wpAny _ _ (if decide (val i > m) = true then _ else _) _ _ _
      by_cases hc : val i > m
      · rw [decide_eq_true hc]
        simp only [if_true]
        refine wpAny_bind ?_
        refine wpAny_updateSeq (hz := by show 2 ≤ sizeLine; rw [sizeLine_eq]; decide) hS2 rfl (wpAny_bind (wpAny_letGo ?_))
        rw [hN]
        refine wpAny_pure ⟨plainId_quiet F.plain_max_loop _, ih (i + 1) _ _ (some (val i, u)) (by omega) hlt (stay _ s'.toks (Nat.le_refl _) fun b z => Heap.get?_update_other _ _ (Ne.symm z)) (by rw [eb, if_pos hc]; rfl) (Heap.get?_update_self _ hS2 rfl) fun v' s'' mv' hv' => ?_⟩
        exact fin v' s'' (Moved.trans W.gtrans ((mv.mono up).then_heap (tk := s'.toks) (Nat.le_refl _) fun b o z e => (Heap.get?_update_other _ _ (hne z)).trans e) mv') hv'
      · rw [decide_eq_false hc]
        simp only [Bool.false_eq_true, if_false]
        refine wpAny_bind (wpAny_letGo ?_)
        rw [hN]
        refine wpAny_pure ⟨plainId_quiet F.plain_max_loop _, ih (i + 1) _ _ (some (m, t)) (by omega) hlt st' (by rw [eb, if_neg hc]; rfl) hS2 fun v' s'' mv' hv' => ?_⟩
        exact fin v' s'' (Moved.trans W.gtrans (mv.mono up) mv') hv'
theorem mx_kw {A : Around} {E : Value → Shared → Prop} {s : Shared} {x dv : Value} {Q : Value → Shared → Prop}
    (h : wpAny (model prog w) A.in1 (pyIter x) (fun it s2 => ∃ I fp wr G n P St val, it = .ref I ∧ WalksS prog w A.in1 I fp wr G n P St ∧ St 0 s2 ∧ (∀ b ∈ fp, b < s2.heap.objs.size) ∧ (∀ i v, P i v → ∃ t, v = Value.int (val i) t) ∧
      ∀ v s', Moved wr G s2 s' → endsIn (mxTo val n) dv v → Q v s') E s) : wpAny (model prog w) A (call (.builtin "max") [x] [(Str.ofString "default", dv)]) Q E s := by
  have hN : (toString "max" ++ toString ".loop" : String) = "max.loop" := by decide
  refine kw_tree F.kind_max F.plain_max F.entry_max (by unfold argsOk; kernel_rfl) ?_
  show wpAny _ A.in1 (Builtin.Builtins.bindParams "max" ["key", "default"] 0 ⟨[], [(Str.ofString "default", dv)]⟩ >>= _) _ _ s
  refine wpAny_bind (wpAny_of_eq (show Builtin.Builtins.bindParams "max" ["key", "default"] 0 ⟨[], [(Str.ofString "default", dv)]⟩ = pure [none, some dv] from by kernel_rfl) ?_)
  refine wpAny_bind (wpAny_pure ?_)
  refine wpAny_bind (wpAny_mono h (fun it s2 h2 => ?_) fun _ _ e => e)
  obtain ⟨I, fp, wr, G, n, P, St, val, rfl, W, st, hfp, hval, fin⟩ := h2
  refine wpAny_bind (wpAny_newObj_type ?_)
  have hSf : s2.heap.objs.size ∉ fp := fun z => Nat.lt_irrefl _ (hfp _ z)
  rw [hN]
  refine wpAny_pure ⟨plainId_quiet F.plain_max_loop _, mx_loop W val hval s2.heap.objs.size hSf dv n 0 _ 0 none (Nat.sub_zero n) (Nat.zero_le _) (W.frame 0 s2 _ s2.toks st (Nat.le_refl _) fun b _ o e => Heap.get?_push_of_some _ e) rfl (Heap.get?_push_size _ rfl) fun v s' mv hv => ?_⟩
  exact fin v s' (Moved.drop_new (tk := s2.toks) mv (Nat.le_refl _)) hv
end

section
open PySem.Spec PyProof.Rows
variable {prog : Program} {w : World} {A : Around} {R : Result → Shared → Prop} {I : Addr} {fp wr : List Addr} {G : Array GenState → Array GenState → Prop} {n : Nat} {P : Nat → Value → Prop} {St : Nat → Shared → Prop}
def mnTo (val : Nat → Int) : Nat → Option Int
  | 0 => none
  | i + 1 => some (match mnTo val i with | none => val i | some m => if val i < m then val i else m)
theorem mn_loop (W : WalksS prog w A.in1 I fp wr G n P St) (val : Nat → Int) (hv : ∀ i v, P i v → ∃ t, v = Value.int (val i) t) (S : Addr) (hSf : S ∉ fp) (dv : Value) :
    ∀ (k i : Nat) (s : Shared) (c : Nat) (b : Option (Int × Tok)), n - i = k → i ≤ n → St i s → b.map Prod.fst = mnTo val i → s.heap.get? S = some (bestO b c) →
      (∀ v s', Moved (S :: wr) G s s' → endsIn (mnTo val n) dv v → R (.ok (.ret v)) s') → codeAny (model prog w) A (.builtin "min.loop" ⟨[.ref I, .none, .ref S], [(Str.ofString "default", dv)]⟩) R s := by
  have nw : S ∉ wr := fun z => hSf (W.sub _ z)
  have up : ∀ b ∈ wr, b ∈ S :: wr := fun b z => .tail _ z
  have hN : (toString "min" ++ toString ".loop" : String) = "min.loop" := by decide
  have hne : ∀ {b : Addr}, b ∉ S :: wr → S ≠ b := fun z e => z (e ▸ .head _)
  intro k
  induction k with
  | zero =>
    intro i s c b hk hi st hb hS fin
    have en : i = n := by omega
    subst en
    refine codeAny_builtin F.entry_min_loop ?_
    rw [Around.under_plainId F.plain_min_loop _]
    show wpAny _ A.in1 (seqItems? (.ref S) >>= _) _ _ s
    refine wpAny_bind (wpAny_seqItems hS (show (bestO b c).data = .seq (bestA b) c from rfl) ?_)
    show wpAny _ A.in1 (tryCatch (pyNext (.ref I)) _ >>= _) _ _ s
    refine wpAny_bind (wpAny_tryCatch (W.done s _ _ st fun s' mv => ?_))
    have hS2 := mv.heap S _ nw hS
    cases b with
    | none =>
      refine wpAny_bind (m := rule _) (wpAny_rule (wpAny_pure (fin _ _ (mv.mono up) ?_)))
      rw [← hb]
      rfl
    | some p =>
      obtain ⟨m, t⟩ := p
      show wpAny _ A.in1 (updateSeq S (fun _ => #[]) >>= _) _ _ _
      refine wpAny_bind ?_
      refine wpAny_updateSeq (hz := by show 2 ≤ sizeLine; rw [sizeLine_eq]; decide) hS2 rfl (wpAny_bind (wpAny_letGo (wpAny_pure ?_)))
      refine fin (.int m t) _ ((mv.mono up).then_heap (tk := s'.toks) (Nat.le_refl _) fun b o z e => (Heap.get?_update_other _ _ (hne z)).trans e) ?_
      rw [← hb]
      exact ⟨t, rfl⟩
  | succ k ih =>
    intro i s c b hk hi st hb hS fin
    have hlt : i < n := by omega
    refine codeAny_builtin F.entry_min_loop ?_
    rw [Around.under_plainId F.plain_min_loop _]
    show wpAny _ A.in1 (seqItems? (.ref S) >>= _) _ _ s
    refine wpAny_bind (wpAny_seqItems hS (show (bestO b c).data = .seq (bestA b) c from rfl) ?_)
    show wpAny _ A.in1 (tryCatch (pyNext (.ref I)) _ >>= _) _ _ s
    refine wpAny_bind (wpAny_tryCatch (W.item i s _ _ hlt st fun v s' pv st' mv => ?_))
    obtain ⟨u, rfl⟩ := hv i v pv
    have hS2 := mv.heap S _ nw hS
    have stay : ∀ (h' : Heap) (tk : Nat), s'.toks ≤ tk → (∀ b, b ≠ S → h'.get? b = s'.heap.get? b) → St (i + 1) { s' with heap := h', toks := tk } := fun h' tk htk hh => W.frame _ s' _ _ st' htk fun b zb o e => (hh b fun z => hSf (z ▸ zb)).trans e
    cases b with
    | none =>
      show wpAny _ A.in1 (updateSeq S (fun _ => #[Value.int (val i) u, Value.int (val i) u]) >>= _) _ _ _
      refine wpAny_bind ?_
      refine wpAny_updateSeq hS2 rfl ?_
      rw [hN]
      refine wpAny_pure ⟨plainId_quiet F.plain_min_loop _, ih (i + 1) _ _ (some (val i, u)) (by omega) hlt (stay _ s'.toks (Nat.le_refl _) fun b z => Heap.get?_update_other _ _ (Ne.symm z)) ?_ (Heap.get?_update_self _ hS2 rfl) fun v' s'' mv' hv' => ?_⟩
      · show some (val i) = mnTo val (i + 1)
        unfold mnTo
        rw [← hb]
        rfl
      · exact fin v' s'' (Moved.trans W.gtrans ((mv.mono up).then_heap (tk := s'.toks) (Nat.le_refl _) fun b o z e => (Heap.get?_update_other _ _ (hne z)).trans e) mv') hv'
    | some p =>
      obtain ⟨m, t⟩ := p
      have eb : mnTo val (i + 1) = some (if val i < m then val i else m) := by
        have hb2 : some m = mnTo val i := hb
        show some (match mnTo val i with | none => val i | some m => if val i < m then val i else m) = _
        rw [← hb2]
      show wpAny _ A.in1 (tryCatch (holding [Value.int (val i) u, Value.int (val i) u] (richCompare .Lt (Value.int (val i) u) (Value.int m t) >>= _)) _ >>= _) _ _ _
      refine wpAny_bind (wpAny_tryCatch (wpAny_holding (wpAny_bind ((CmpOf.ints_lt (P := fun a v => ∃ t, v = Value.int (if a = 0 then val i else m) t) (fun j : Nat => if j = 0 then val i else m) fun _ _ z => z) 0 1 _ _ _ _ _ ⟨u, rfl⟩ ⟨t, rfl⟩ ?_))))
      refine wpAny_bind (wpAny_holding (wpAny_truthy_bool ?_))
      refine wpAny_bind (wpAny_letGo (wpAny_pure ?_))
      show wpAny _ _ (if decide (val i < m) = true then _ else _) _ _ _
      by_cases hc : val i < m
      · rw [decide_eq_true hc]
        simp only [if_true]
        refine wpAny_bind ?_
        refine wpAny_updateSeq (hz := by show 2 ≤ sizeLine; rw [sizeLine_eq]; decide) hS2 rfl (wpAny_bind (wpAny_letGo ?_))
        rw [hN]
        refine wpAny_pure ⟨plainId_quiet F.plain_min_loop _, ih (i + 1) _ _ (some (val i, u)) (by omega) hlt (stay _ s'.toks (Nat.le_refl _) fun b z => Heap.get?_update_other _ _ (Ne.symm z)) (by rw [eb, if_pos hc]; rfl) (Heap.get?_update_self _ hS2 rfl) fun v' s'' mv' hv' => ?_⟩
        exact fin v' s'' (Moved.trans W.gtrans ((mv.mono up).then_heap (tk := s'.toks) (Nat.le_refl _) fun b o z e => (Heap.get?_update_other _ _ (hne z)).trans e) mv') hv'
      · rw [decide_eq_false hc]
        simp only [Bool.false_eq_true, if_false]
        refine wpAny_bind (wpAny_letGo ?_)
        rw [hN]
        refine wpAny_pure ⟨plainId_quiet F.plain_min_loop _, ih (i + 1) _ _ (some (m, t)) (by omega) hlt st' (by rw [eb, if_neg hc]; rfl) hS2 fun v' s'' mv' hv' => ?_⟩
        exact fin v' s'' (Moved.trans W.gtrans (mv.mono up) mv') hv'
theorem mn_kw {A : Around} {E : Value → Shared → Prop} {s : Shared} {x dv : Value} {Q : Value → Shared → Prop}
    (h : wpAny (model prog w) A.in1 (pyIter x) (fun it s2 => ∃ I fp wr G n P St val, it = .ref I ∧ WalksS prog w A.in1 I fp wr G n P St ∧ St 0 s2 ∧ (∀ b ∈ fp, b < s2.heap.objs.size) ∧ (∀ i v, P i v → ∃ t, v = Value.int (val i) t) ∧
      ∀ v s', Moved wr G s2 s' → endsIn (mnTo val n) dv v → Q v s') E s) : wpAny (model prog w) A (call (.builtin "min") [x] [(Str.ofString "default", dv)]) Q E s := by
  have hN : (toString "min" ++ toString ".loop" : String) = "min.loop" := by decide
  refine kw_tree F.kind_min F.plain_min F.entry_min (by unfold argsOk; kernel_rfl) ?_
  show wpAny _ A.in1 (Builtin.Builtins.bindParams "min" ["key", "default"] 0 ⟨[], [(Str.ofString "default", dv)]⟩ >>= _) _ _ s
  refine wpAny_bind (wpAny_of_eq (show Builtin.Builtins.bindParams "min" ["key", "default"] 0 ⟨[], [(Str.ofString "default", dv)]⟩ = pure [none, some dv] from by kernel_rfl) ?_)
  refine wpAny_bind (wpAny_pure ?_)
  refine wpAny_bind (wpAny_mono h (fun it s2 h2 => ?_) fun _ _ e => e)
  obtain ⟨I, fp, wr, G, n, P, St, val, rfl, W, st, hfp, hval, fin⟩ := h2
  refine wpAny_bind (wpAny_newObj_type ?_)
  have hSf : s2.heap.objs.size ∉ fp := fun z => Nat.lt_irrefl _ (hfp _ z)
  rw [hN]
  refine wpAny_pure ⟨plainId_quiet F.plain_min_loop _, mn_loop W val hval s2.heap.objs.size hSf dv n 0 _ 0 none (Nat.sub_zero n) (Nat.zero_le _) (W.frame 0 s2 _ s2.toks st (Nat.le_refl _) fun b _ o e => Heap.get?_push_of_some _ e) rfl (Heap.get?_push_size _ rfl) fun v s' mv hv => ?_⟩
  exact fin v s' (Moved.drop_new (tk := s2.toks) mv (Nat.le_refl _)) hv
end
theorem ints_nth {its : List Value} {ns : List Int} (h : PyProof.Rows.IntsAre its ns) : ∀ {i : Nat} {v : Value}, its[i]? = some v → ∃ t, v = Value.int (ns.getD i 0) t := by
  induction h with
  | nil => intro i v e; cases i <;> cases e
  | cons x t h ih =>
    intro i v e
    cases i with
    | zero =>
      cases e
      exact ⟨_, rfl⟩
    | succ i =>
      obtain ⟨t2, e2⟩ := ih e
      exact ⟨t2, e2⟩
theorem snocG {α : Type} {P : List α → Prop} (h0 : P []) (hs : ∀ l x, P l → P (l ++ [x])) (l : List α) : P l := by
  have key : ∀ m : List α, P m.reverse := by
    intro m
    induction m with
    | nil => exact h0
    | cons x r ih =>
      rw [List.reverse_cons]
      exact hs _ _ ih
  have := key l.reverse
  rwa [List.reverse_reverse] at this
section
open PySem.Spec PyProof.Rows
def mxL (d : Int) (ns : List Int) : Int := (mxTo (fun i => ns.getD i 0) ns.length).getD d
def mnL (d : Int) (ns : List Int) : Int := (mnTo (fun i => ns.getD i 0) ns.length).getD d
/-- the whole numbers that a walk over it gives -/
def IntsAt (K : PySem.W.Frag) (H : Hp) (a : Addr) (ns : List Int) : Prop := SqL K H a (ns.map V.int) ∨ ∃ kvs : List (Key × V), H a = some (.dK kvs) ∧ kvs.map Prod.fst = ns.map Sum.inl
@[irreducible] def mMaxD (K : PySem.W.Frag) : List V → List V → Hp → VK → Prop := fun vs zs H Q => ∃ (a : Addr) (ns : List Int) (d : Int), vs = [.ref a] ∧ zs = [.int d] ∧ IntsAt K H a ns ∧ Q (.int (mxL d ns)) H
@[irreducible] def mMinD (K : PySem.W.Frag) : List V → List V → Hp → VK → Prop := fun vs zs H Q => ∃ (a : Addr) (ns : List Int) (d : Int), vs = [.ref a] ∧ zs = [.int d] ∧ IntsAt K H a ns ∧ Q (.int (mnL d ns)) H
section
variable {K : PySem.W.Frag} {H : Hp} {Q : VK} {a : Addr} {ns : List Int} {d : Int}
theorem rd_maxD (h : IntsAt K H a ns) (q : Q (.int (mxL d ns)) H) : mMaxD K [.ref a] [.int d] H Q := by
  unfold mMaxD
  exact ⟨a, ns, d, rfl, rfl, h, q⟩
theorem rd_minD (h : IntsAt K H a ns) (q : Q (.int (mnL d ns)) H) : mMinD K [.ref a] [.int d] H Q := by
  unfold mMinD
  exact ⟨a, ns, d, rfl, rfl, h, q⟩
end
/-- such a walk, laid -/
theorem ints_walk {X : Cx} {pins : List (Addr × Obj)} {σ : L2.St} {H : Hp} {s : Shared} {a : Addr} {ns : List Int} {R : Value → Shared → Prop} {Er : Value → Shared → Prop} (hc : X.calm = true) (I : Inv X pins σ H s) (h : IntsAt X.K H a ns)
    (k : ∀ (J : Addr) (fp wr : List Addr) (n : Nat) (P : Nat → Value → Prop) (St : Nat → Shared → Prop) (s2 : Shared), n = ns.length → WalksS X.prog X.w X.A.in1 J fp wr (fun x y => y = x) n P St → St 0 s2 → (∀ b ∈ fp, b < s2.heap.objs.size) → (∀ i v, P i v → ∃ t, v = Value.int (ns.getD i 0) t) →
      (∀ s', Moved wr (fun x y => y = x) s2 s' → Inv X pins σ H s') → R (.ref J) s2) : wpAny (model X.prog X.w) X.A.in1 (pyIter (.ref a)) R Er s := by
  have hh : X.A.in1.handled = none := I.ok.hd hc
  -- the walk's own new object is all that moves
  have old : ∀ (o : Obj) (s' : Shared), Moved [s.heap.objs.size] (fun x y => y = x) { s with heap := s.heap.push o } s' → Inv X pins σ H s' := fun o s' mv => by
    obtain ⟨hp, gs, dr, tk, os⟩ := s'
    obtain ⟨h1, h2, h3, h4, h5⟩ := mv
    dsimp only at h1 h2 h3 h4 h5
    subst h2 h3 h4
    exact I.kept (t' := tk) fun b ob e => h1 b ob (fun z => by
      have := Heap.lt_size e
      rw [List.mem_singleton.mp z] at this
      exact Nat.lt_irrefl _ this) (Heap.get?_push_of_some _ e)
  rcases h with h | ⟨kvs, h, hk⟩
  · obtain ⟨its, rv, hl, _⟩ := I.list h
    have hI := rv.ints
    have ha : a < s.heap.objs.size := by
      obtain ⟨_, _, e, _⟩ := hl
      exact Heap.lt_size e
    have hlen : its.length = ns.length := hI.length
    refine wpAny_pyIter_list hl.isList ?_
    have W := (Walks.list (prog := X.prog) (w := X.w) (A := X.A.in1) hh s.heap.objs.size a (Nat.ne_of_lt ha) its.toArray).toS
    have en : its.toArray.size = ns.length := by
      rw [List.size_toArray]
      exact hlen
    refine k s.heap.objs.size _ _ _ _ _ _ en W ⟨⟨_, Heap.get?_push_size _ rfl, rfl, rfl⟩, hl.isList.push _⟩ (fun b hb => ?_) (fun i v e => ?_) (old _)
    · show b < (s.heap.push _).objs.size
      rw [Heap.size_push]
      rcases List.mem_cons.mp hb with z | z
      · exact z ▸ Nat.lt_succ_self _
      · exact List.mem_singleton.mp z ▸ Nat.lt_succ_of_lt ha
    · rw [List.getElem?_toArray] at e
      have hi : i < its.length := (List.getElem?_eq_some_iff.mp e).1
      obtain ⟨t, e2⟩ := ints_nth hI e
      exact ⟨t, e2⟩
  · obtain ⟨hz, hd, vs, rel, dd⟩ := dk_of I.hok h
    obtain ⟨es, ep, hr, hsz, hen⟩ := Heap.DictOf.raw dd
    have hkeys : vs.map Prod.fst = ns.map Sum.inl := rel.keys.symm.trans hk
    have hl : vs.length = ns.length := by
      have e := congrArg List.length hkeys
      rw [List.length_map, List.length_map] at e
      exact e
    have ha : a < s.heap.objs.size := by
      obtain ⟨o, e, _⟩ := id hr
      exact Heap.lt_size e
    refine wpAny_pyIter_dict_raw hd hr ?_
    have W := (Walks.rawKeys (prog := X.prog) (w := X.w) (A := X.A.in1) hh s.heap.objs.size a (Nat.ne_of_lt ha) es ep).toS
    refine k s.heap.objs.size _ _ _ _ _ _ (hsz.trans hl) W ⟨?_, ?_⟩ (fun b hb => ?_) (fun i v e => ?_) (old _)
    · exact ⟨_, Heap.get?_push_size _ rfl, rfl, rfl⟩
    · exact hr.at fun o e => Heap.get?_push_of_some _ e
    · show b < (s.heap.push _).objs.size
      rw [Heap.size_push]
      rcases List.mem_cons.mp hb with z | z
      · exact z ▸ Nat.lt_succ_self _
      · exact List.mem_singleton.mp z ▸ Nat.lt_succ_of_lt ha
    · obtain ⟨hi, rfl⟩ := e
      have hi2 : i < vs.length := by omega
      have hi3 : i < ns.length := by omega
      have h1 : (mixKind X.prog X.w).is vs[i].1 es[i].key = true := (hen i hi _ _ (List.getElem?_eq_getElem hi2)).1
      have e3 : vs[i].1 = Sum.inl ns[i] := by
        have z : (vs.map Prod.fst)[i]? = (ns.map (Sum.inl (β := Str)))[i]? := by rw [hkeys]
        rw [List.getElem?_map, List.getElem?_map, List.getElem?_eq_getElem hi2, List.getElem?_eq_getElem hi3] at z
        exact Option.some.inj z
      rw [e3] at h1
      obtain ⟨t, e4⟩ := relV_key (k := .inl ns[i]) h1
      refine ⟨t, ?_⟩
      rw [e4, List.getD_eq_getElem?_getD, List.getElem?_eq_getElem hi3]
      rfl
section
variable {X : Cx}
theorem cr_maxDf (hc : X.calm = true) : CallRK X (.builtin "max") [Str.ofString "default"] (mMaxD X.K) := by
  intro pins s σ H vs zs us ws Q I r rz h
  unfold mMaxD at h
  obtain ⟨a, ns, d, rfl, rfl, hn, q⟩ := h
  obtain rfl := Vals.ref1 r
  obtain ⟨w1, rfl, t1, e1⟩ := vals1 rz
  subst e1
  refine mx_kw (dv := .int d t1) (ints_walk hc I hn fun J fp wr n P St s2 en W st hfp hv hI => ⟨J, fp, wr, _, n, P, St, fun i => ns.getD i 0, rfl, W, st, hfp, hv, fun v s' mv hv' => ?_⟩)
  refine ⟨.int (mxL d ns), H, hI _ mv, ?_, q⟩
  unfold mxL
  unfold endsIn at hv'
  rw [en] at hv'
  split at hv'
  · rename_i e
    rw [e]
    exact ⟨t1, hv'⟩
  · rename_i m e
    rw [e]
    exact hv'
theorem cr_minDf (hc : X.calm = true) : CallRK X (.builtin "min") [Str.ofString "default"] (mMinD X.K) := by
  intro pins s σ H vs zs us ws Q I r rz h
  unfold mMinD at h
  obtain ⟨a, ns, d, rfl, rfl, hn, q⟩ := h
  obtain rfl := Vals.ref1 r
  obtain ⟨w1, rfl, t1, e1⟩ := vals1 rz
  subst e1
  refine mn_kw (dv := .int d t1) (ints_walk hc I hn fun J fp wr n P St s2 en W st hfp hv hI => ⟨J, fp, wr, _, n, P, St, fun i => ns.getD i 0, rfl, W, st, hfp, hv, fun v s' mv hv' => ?_⟩)
  refine ⟨.int (mnL d ns), H, hI _ mv, ?_, q⟩
  unfold mnL
  unfold endsIn at hv'
  rw [en] at hv'
  split at hv'
  · rename_i e
    rw [e]
    exact ⟨t1, hv'⟩
  · rename_i m e
    rw [e]
    exact hv'
end
theorem mxTo_ok (val : Nat → Int) : ∀ n : Nat, 0 < n → ∃ m, mxTo val n = some m ∧ (∃ i, i < n ∧ m = val i) ∧ ∀ i, i < n → val i ≤ m := by
  intro n
  induction n with
  | zero => exact fun h => absurd h (Nat.lt_irrefl _)
  | succ n ih =>
    intro _
    by_cases hn : 0 < n
    · obtain ⟨m, e, ⟨i, hi, ei⟩, hm⟩ := ih hn
      refine ⟨if val n > m then val n else m, ?_, ?_, fun j hj => ?_⟩
      · show some (match mxTo val n with | none => val n | some m => if val n > m then val n else m) = _
        rw [e]
      · split
        · exact ⟨n, by omega, rfl⟩
        · exact ⟨i, by omega, ei⟩
      · by_cases hjn : j < n
        · have := hm j hjn
          split <;> omega
        · have : j = n := by omega
          subst this
          split <;> omega
    · have : n = 0 := by omega
      subst this
      refine ⟨val 0, rfl, ⟨0, by omega, rfl⟩, fun j hj => ?_⟩
      obtain rfl : j = 0 := by omega
      exact Int.le_refl _
theorem mnTo_ok (val : Nat → Int) : ∀ n : Nat, 0 < n → ∃ m, mnTo val n = some m ∧ (∃ i, i < n ∧ m = val i) ∧ ∀ i, i < n → m ≤ val i := by
  intro n
  induction n with
  | zero => exact fun h => absurd h (Nat.lt_irrefl _)
  | succ n ih =>
    intro _
    by_cases hn : 0 < n
    · obtain ⟨m, e, ⟨i, hi, ei⟩, hm⟩ := ih hn
      refine ⟨if val n < m then val n else m, ?_, ?_, fun j hj => ?_⟩
      · show some (match mnTo val n with | none => val n | some m => if val n < m then val n else m) = _
        rw [e]
      · split
        · exact ⟨n, by omega, rfl⟩
        · exact ⟨i, by omega, ei⟩
      · by_cases hjn : j < n
        · have := hm j hjn
          split <;> omega
        · have : j = n := by omega
          subst this
          split <;> omega
    · have : n = 0 := by omega
      subst this
      refine ⟨val 0, rfl, ⟨0, by omega, rfl⟩, fun j hj => ?_⟩
      obtain rfl : j = 0 := by omega
      exact Int.le_refl _
theorem mxL_nil {d : Int} : mxL d [] = d := rfl
theorem mnL_nil {d : Int} : mnL d [] = d := rfl
theorem mxL_ok {d : Int} {ns : List Int} (h : ns ≠ []) : mxL d ns ∈ ns ∧ ∀ y ∈ ns, y ≤ mxL d ns := by
  obtain ⟨m, e, ⟨i, hi, ei⟩, hm⟩ := mxTo_ok (fun i => ns.getD i 0) ns.length (List.length_pos_iff.mpr h)
  unfold mxL
  rw [e]
  refine ⟨?_, fun y hy => ?_⟩
  · show m ∈ ns
    rw [ei]
    show ns.getD i 0 ∈ ns
    rw [List.getD_eq_getElem?_getD, List.getElem?_eq_getElem hi]
    exact List.getElem_mem hi
  · obtain ⟨j, hj, ej⟩ := List.mem_iff_getElem.mp hy
    have := hm j hj
    rw [List.getD_eq_getElem?_getD, List.getElem?_eq_getElem hj, Option.getD_some, ej] at this
    exact this
theorem mnL_ok {d : Int} {ns : List Int} (h : ns ≠ []) : mnL d ns ∈ ns ∧ ∀ y ∈ ns, mnL d ns ≤ y := by
  obtain ⟨m, e, ⟨i, hi, ei⟩, hm⟩ := mnTo_ok (fun i => ns.getD i 0) ns.length (List.length_pos_iff.mpr h)
  unfold mnL
  rw [e]
  refine ⟨?_, fun y hy => ?_⟩
  · show m ∈ ns
    rw [ei]
    show ns.getD i 0 ∈ ns
    rw [List.getD_eq_getElem?_getD, List.getElem?_eq_getElem hi]
    exact List.getElem_mem hi
  · obtain ⟨j, hj, ej⟩ := List.mem_iff_getElem.mp hy
    have := hm j hj
    rw [List.getD_eq_getElem?_getD, List.getElem?_eq_getElem hj, Option.getD_some, ej] at this
    exact this
end
/-! ### lists of a dict's keys; sorted; get and setdefault -/
section
open PySem.Spec PyProof.Rows
variable {X : Cx} {K : PySem.W.Frag} {H : Hp} {Q : VK} {a : Addr} {kvs : List (Key × V)} {ns : List Int} {n : Int} {z v : V}
@[irreducible] def mListD : List V → Hp → VK → Prop := fun xs H Q => ∃ (a : Addr) (kvs : List (Key × V)) (ns : List Int), xs = [.ref a] ∧ H a = some (.dK kvs) ∧ kvs.map Prod.fst = ns.map Sum.inl ∧ NewO (.lst (ns.map V.int)) H Q
theorem rd_listD (h : H a = some (.dK kvs)) (hk : kvs.map Prod.fst = ns.map Sum.inl) (q : NewO (.lst (ns.map V.int)) H Q) : mListD [.ref a] H Q := by
  unfold mListD
  exact ⟨a, kvs, ns, rfl, h, hk, q⟩
theorem keys_vals : ∀ {kvs : List (Key × V)} {ns : List Int}, kvs.map Prod.fst = ns.map Sum.inl → (kvs.map fun kv => kV kv.1) = ns.map V.int
  | [], [], _ => rfl
  | [], _ :: _, h => nomatch h
  | _ :: _, [], h => nomatch h
  | x :: r, n :: ns, h => by
    injection h with h1 h2
    rw [List.map_cons, List.map_cons, keys_vals h2, h1]
    rfl
theorem call_listDM (hc : X.calm = true) : CallR X (.type "list") mListD := fun pins s σ H xs us Q I r q => call_listD hc pins s σ H xs us Q I r (by
  unfold mListD at q
  obtain ⟨a, kvs, ns, e, h, hk, q⟩ := q
  refine ⟨a, kvs, e, .inl h, ?_⟩
  rw [keys_vals hk]
  exact q.go)
@[irreducible] def mSortD : List V → Hp → VK → Prop := fun xs H Q => ∃ (a : Addr) (kvs : List (Key × V)) (ns : List Int), xs = [.ref a] ∧ H a = some (.dK kvs) ∧ kvs.map Prod.fst = ns.map Sum.inl ∧ ns.length < 64 ∧ ∀ ys : List Int, ys.Perm ns → ys.Pairwise (· ≤ ·) → NewO (.lst (ys.map V.int)) H Q
theorem rd_sortD (h : H a = some (.dK kvs)) (hk : kvs.map Prod.fst = ns.map Sum.inl) (hl : ns.length < 64) (q : ∀ ys : List Int, ys.Perm ns → ys.Pairwise (· ≤ ·) → NewO (.lst (ys.map V.int)) H Q) : mSortD [.ref a] H Q := by
  unfold mSortD
  exact ⟨a, kvs, ns, rfl, h, hk, hl, q⟩
theorem call_sortDM (hc : X.calm = true) : CallR X (.builtin "sorted") mSortD := fun pins s σ H xs us Q I r q => call_sortedDI hc pins s σ H xs us Q I r (by
  unfold mSortD at q
  obtain ⟨a, kvs, ns, e, h, hk, hl, q⟩ := q
  exact ⟨a, kvs, ns, e, .inl h, hk, hl, fun ys p hp ho => (q ys hp ho).go p⟩)
@[irreducible] def mSortL (K : PySem.W.Frag) : List V → Hp → VK → Prop := fun xs H Q => ∃ (a : Addr) (ns : List Int), xs = [.ref a] ∧ SqL K H a (ns.map V.int) ∧ ns.length < 64 ∧ ∀ ys : List Int, ys.Perm ns → ys.Pairwise (· ≤ ·) → NewO (.lst (ys.map V.int)) H Q
theorem rd_sortL (h : SqL K H a (ns.map V.int)) (hl : ns.length < 64) (q : ∀ ys : List Int, ys.Perm ns → ys.Pairwise (· ≤ ·) → NewO (.lst (ys.map V.int)) H Q) : mSortL K [.ref a] H Q := by
  unfold mSortL
  exact ⟨a, ns, rfl, h, hl, q⟩
theorem call_sortLM : CallR X (.builtin "sorted") (mSortL X.K) := fun pins s σ H xs us Q I r q => cr_sorted pins s σ H xs us Q I r (by
  unfold mSortL at q
  obtain ⟨a, ns, e, h, hl, q⟩ := q
  exact ⟨a, ns, e, h, hl, fun ys p hp ho => (q ys hp ho).go p⟩)
@[irreducible] def mDGet2 (x y z : V) (H : Hp) (Q : VK) : Prop := ∃ a kvs k, x = .ref a ∧ y = kV k ∧ H a = some (.dK kvs) ∧ Q ((valV kvs k).getD z) H
theorem rd_dget2 (h : H a = some (.dK kvs)) (q : Q ((valV kvs (.inl n)).getD z) H) : mDGet2 (.ref a) (.int n) z H Q := by
  unfold mDGet2
  exact ⟨a, kvs, .inl n, rfl, rfl, h, q⟩
def mDGet2E (td ty tz : TE) : TE := fun σ H Q => td σ H fun x H1 => ∃ a kvs, x = .ref a ∧ H1 a = some (.dK kvs) ∧ ty σ H1 fun y H2 => tz σ H2 fun z H3 => mDGet2 x y z H3 Q
@[irreducible] def mDSetd (x y z : V) (H : Hp) (Q : VK) : Prop := ∃ a kvs k, x = .ref a ∧ y = kV k ∧ H a = some (.dK kvs) ∧ kvs.length < 1000000 ∧ (∀ v, valV kvs k = some v → Q v H) ∧ (valV kvs k = none → Q z (upd H a (.dK (putK kvs k z))))
theorem rd_dsetd (h : H a = some (.dK kvs)) (hl : kvs.length < 1000000) (q1 : ∀ v, valV kvs (.inl n) = some v → Q v H) (q2 : valV kvs (.inl n) = none → Q z (upd H a (.dK (putK kvs (.inl n) z)))) : mDSetd (.ref a) (.int n) z H Q := by
  unfold mDSetd
  exact ⟨a, kvs, .inl n, rfl, rfl, h, hl, q1, q2⟩
def mDSetdE (td ty tz : TE) : TE := fun σ H Q => td σ H fun x H1 => ∃ a kvs, x = .ref a ∧ H1 a = some (.dK kvs) ∧ ty σ H1 fun y H2 => tz σ H2 fun z H3 => mDSetd x y z H3 Q
theorem pe_dget2M {o e f : Expr} {td ty tz : TE} {apos cpos : Pos} (hu : X.A.units + 1 < cLine) (ho : PE X o td) (he : PE X e ty) (hf : PE X f tz) (hbase : attributeBase o "get" X.env (eval o X.env) = eval o X.env := by rfl)
    (hfew : ((backTo cpos (starEach [e, f] X.env)).all (fun x => !x.1) && (backToKw cpos (keywordEach [] X.env)).all (fun x => x.1.isSome) && decide (([e, f] : List Expr).length + ([] : List Keyword).length + (if ([] : List Keyword).isEmpty then 0 else 1) < 30)) = true := by rfl)
    (hline : (apos.endLine == cpos.line) = true := by rfl) (htr : backTo cpos (starEach [e, f] X.env) = [(false, eval e X.env), (false, eval f X.env)] := by rfl) : PE X (.Call (.Attribute o "get" apos) [e, f] [] cpos) (mDGet2E td ty tz) :=
  pe_weak (pe_dget2 hu (pe_c ho) (pe_c he) (pe_c hf) ⟨hbase, hfew, hline, htr⟩) fun σ H Q q => ⟨_, q, fun x H1 r => by
    obtain ⟨a, kvs, rfl, h, r⟩ := r
    refine ⟨a, rfl, .inl ⟨kvs, .inl h⟩, _, r, fun y H2 r => ⟨_, r, fun z H3 r => ?_⟩⟩
    unfold mDGet2 at r
    obtain ⟨a2, kvs2, k, e1, e2, h2, r⟩ := r
    cases e1
    exact ⟨_, e2 ▸ DGet.k h2, r⟩⟩
theorem pe_dsetdM {o e f : Expr} {td ty tz : TE} {apos cpos : Pos} (ho : PE X o td) (he : PE X e ty) (hf : PE X f tz) (hbase : attributeBase o "setdefault" X.env (eval o X.env) = eval o X.env := by rfl)
    (hfew : ((backTo cpos (starEach [e, f] X.env)).all (fun x => !x.1) && (backToKw cpos (keywordEach [] X.env)).all (fun x => x.1.isSome) && decide (([e, f] : List Expr).length + ([] : List Keyword).length + (if ([] : List Keyword).isEmpty then 0 else 1) < 30)) = true := by rfl)
    (hline : (apos.endLine == cpos.line) = true := by rfl) (htr : backTo cpos (starEach [e, f] X.env) = [(false, eval e X.env), (false, eval f X.env)] := by rfl) : PE X (.Call (.Attribute o "setdefault" apos) [e, f] [] cpos) (mDSetdE td ty tz) :=
  pe_weak (pe_dsetd (pe_c ho) (pe_c he) (pe_c hf) ⟨hbase, hfew, hline, htr⟩) fun σ H Q q => ⟨_, q, fun x H1 r => by
    obtain ⟨a, kvs, rfl, h, r⟩ := r
    refine ⟨a, rfl, .inl ⟨kvs, .inl h⟩, _, r, fun y H2 r => ⟨_, r, fun z H3 r => ?_⟩⟩
    unfold mDSetd at r
    obtain ⟨a2, kvs2, k, e1, e2, h2, hl, q1, q2⟩ := r
    cases e1
    exact ⟨kvs2, k, h2, e2, szl hl, q1, q2⟩⟩
/-! ### in, not in: lists of data -/
@[irreducible] def mInD (K : PySem.W.Frag) : R2 := rInD K
@[irreducible] def mNotInD (K : PySem.W.Frag) : R2 := rNotInD K
theorem hu65 {A : Around} {k : Nat} (r : Room k A) : A.units + 65 < cLine := by
  have := r.un
  omega
theorem op_inDM (hu : X.A.units + 65 < cLine) : OpR X (compareOp .In) (mInD X.K) := fun pins s σ H x y v u Q I rx ry q => op_inD hu pins s σ H x y v u Q I rx ry (by
  unfold mInD at q
  exact q)
theorem op_notInDM (hu : X.A.units + 65 < cLine) : OpR X (compareOp .NotIn) (mNotInD X.K) := fun pins s σ H x y v u Q I rx ry q => op_notInD hu pins s σ H x y v u Q I rx ry (by
  unfold mNotInD at q
  exact q)
theorem op_inDK (h : X.K = K) (hu : X.A.units + 65 < cLine) : OpR X (compareOp .In) (mInD K) := h ▸ op_inDM hu
theorem op_notInDK (h : X.K = K) (hu : X.A.units + 65 < cLine) : OpR X (compareOp .NotIn) (mNotInD K) := h ▸ op_notInDM hu
theorem rd_inD {x y : V} {m k : Nat} (d : PyData) (ds : List PyData) (h1 : Dp K H x d) (h2 : Dp K H y (.list ds)) (s1 : Sh m d) (s2 : ShA k ds) (q : Q (.bl (ds.any fun z => PyData.eqv z d)) H) (hm : m ≤ 64 := by decide) (hk : k + 1 ≤ 64 := by decide) : mInD K x y H Q := by
  unfold mInD
  exact ⟨d, ds, h1, h2, s1.shaped hm, (sh_lst s2).shaped hk, q⟩
theorem rd_notInD {x y : V} {m k : Nat} (d : PyData) (ds : List PyData) (h1 : Dp K H x d) (h2 : Dp K H y (.list ds)) (s1 : Sh m d) (s2 : ShA k ds) (q : Q (.bl (!ds.any fun z => PyData.eqv z d)) H) (hm : m ≤ 64 := by decide) (hk : k + 1 ≤ 64 := by decide) : mNotInD K x y H Q := by
  unfold mNotInD
  exact ⟨d, ds, h1, h2, s1.shaped hm, (sh_lst s2).shaped hk, q⟩
theorem any_ints (n : Int) : ∀ ns : List Int, ((ns.map PyData.int).any fun z => PyData.eqv z (.int n)) = decide (n ∈ ns)
  | [] => by simp
  | m :: r => by
    rw [List.map_cons, List.any_cons, any_ints n r, PyData.eqv]
    by_cases h : m = n
    · subst h
      simp
    · have h2 : ¬ n = m := fun e => h e.symm
      simp [h, h2]
theorem rd_inI (h : SqL K H a (ns.map V.int)) (q : Q (.bl (decide (n ∈ ns))) H) : mInD K (.int n) (.ref a) H Q :=
  rd_inD (m := 0) (k := 0) (.int n) (ns.map PyData.int) (.int n) (dp_ints h) sh_int (sh_ints ns) (by rw [any_ints]; exact q)
theorem rd_notInI (h : SqL K H a (ns.map V.int)) (q : Q (.bl (!decide (n ∈ ns))) H) : mNotInD K (.int n) (.ref a) H Q :=
  rd_notInD (m := 0) (k := 0) (.int n) (ns.map PyData.int) (.int n) (dp_ints h) sh_int (sh_ints ns) (by rw [any_ints]; exact q)
end
/-! ### for i, x in enumerate(xs) -/
@[irreducible] def mForE (K : PySem.W.Frag) (ta : TA) (i1 i2 : Nat) (tb : TS) : TS := fun D σ H => ta σ H fun ws H1 => ∃ (a : Addr) (xs : List V) (Pv : Nat → L2.St → Hp → Prop), ws = [.ref a] ∧ SqL K H1 a xs ∧ Pv 0 σ H1 ∧ (∀ i σ' H', i ≤ xs.length → Pv i σ' H' → SqL K H' a xs) ∧
  (∀ i x σ' H' H'', xs[i]? = some x → Pv i σ' H' → Same H' H'' → tb { D with nx := Pv (i + 1), ct := Pv (i + 1), bk := D.nx } ((σ'.set i1 (some (.int (i : Nat)))).set i2 (some x)) H'') ∧ ∀ σ' H', Pv xs.length σ' H' → D.nx σ' H'
theorem rd_forE {K : PySem.W.Frag} {ta : TA} {i1 i2 : Nat} {tb : TS} {D : Ends} {σ : L2.St} {H : Hp} (h : ta σ H fun ws H1 => ∃ (a : Addr) (xs : List V) (Pv : Nat → L2.St → Hp → Prop), ws = [.ref a] ∧ SqL K H1 a xs ∧ Pv 0 σ H1 ∧ (∀ i σ' H', i ≤ xs.length → Pv i σ' H' → SqL K H' a xs) ∧
  (∀ i x σ' H' H'', xs[i]? = some x → Pv i σ' H' → Same H' H'' → tb { D with nx := Pv (i + 1), ct := Pv (i + 1), bk := D.nx } ((σ'.set i1 (some (.int (i : Nat)))).set i2 (some x)) H'') ∧ ∀ σ' H', Pv xs.length σ' H' → D.nx σ' H') : mForE K ta i1 i2 tb D σ H := by
  unfold mForE
  exact h
theorem ps_forE {X : Cx} {ta : TA} {pos : Pos} {e : Expr} {kk : Nat} {p p2 tpos : Pos} {i1 i2 : Nat} {body : List Stmt} {tb : TS} {t1 t2 : Expr} (hp : PassesOwn (model X.prog X.w) X.A X.env X.xe) (hc : X.calm = true) (hg : Gl X "enumerate") (hm : X.mg "enumerate" = none) (ha : PA X [e] ta)
    (hgt : PG X (.Tuple [t1, t2] kk tpos) (gTup X.K 2 (gCons (gName i1) (gCons (gName i2) gNil)))) (hb : PSs X body tb)
    (hs : starEach [e] X.env = [(false, eval e X.env)] := by rfl) (hs2 : ∀ y, foldedSetIterable (.Call (.Name "enumerate" p) [e] [] p2) X.env y = pure y := by intro _; rfl) :
    PS X (.For (.Tuple [t1, t2] kk tpos) (.Call (.Name "enumerate" p) [e] [] p2) body [] pos) (mForE X.K ta i1 i2 tb) :=
  ps_weak (ps_for hp hc (pi_enum hg hm (pa_c ha) hs) hgt hb hs2) fun D σ H q => by
    unfold mForE at q
    refine ⟨_, q, fun ws H1 r => ?_⟩
    obtain ⟨a, xs, Pv, rfl, hx, h0, hq, hs, hd⟩ := r
    refine ⟨a, xs, rfl, hx, ?_⟩
    refine for_it (walk_enum (K := X.K) (a := a) (xs := xs)) Pv h0 hq (fun i x σ' H' H'' hi p y => ?_) hd
    obtain ⟨T, u, v, rfl, hT, rfl, e1, e2⟩ := y
    cases e1
    exact ⟨T, [.int (i : Nat), v], rfl, st_of upd_same, rfl, .int (i : Nat), [v], rfl, v, [], rfl, rfl, hs i v σ' H' _ e2 p (same_upd hT)⟩
/-! ### [e for k in d if t], d a local's dict -/
section
variable {X : Cx} {K : PySem.W.Frag}
theorem im_keys {td : TE} : IMono (iKeys td) (iKeys (cTE td)) := fun σ H R R' h q => ⟨_, q, fun v H' r => by
  obtain ⟨d, o, e, r⟩ := r
  refine ⟨d, o, e, ?_⟩
  rcases r with ⟨kvs, h1, r⟩ | ⟨kvs, h1, r⟩
  · exact .inl ⟨kvs, h1, h _ _ r⟩
  · exact .inr ⟨kvs, h1, h _ _ r⟩⟩
@[irreducible] def mLcK (i j : Nat) (tt : TT) (te : TE) : TE := fun σ H Q => ∃ (d : Addr) (kvs : List (Key × V)) (ns : List Int) (keep : Int → Bool) (f : Int → V), σ[i]? = some (some (.ref d)) ∧ H d = some (.dK kvs) ∧ kvs.map Prod.fst = ns.map Sum.inl ∧ ns.length ≤ 100000 ∧
  (∀ n, n ∈ ns → ∀ H', (∀ b o, b ≠ d → H b = some o → H' b = some o) → tt ((wipe σ [j]).set j (some (.int n))) H' fun b H2 => Same H' H2 ∧ b = keep n ∧ (b = true → te ((wipe σ [j]).set j (some (.int n))) H2 fun v H3 => Same H2 H3 ∧ v = f n)) ∧ NewO (.lst ((ns.filter keep).map f)) H Q
theorem rd_lcK {i j : Nat} {tt : TT} {te : TE} {σ : L2.St} {H : Hp} {Q : VK} (d : Addr) (kvs : List (Key × V)) (ns : List Int) (keep : Int → Bool) (f : Int → V) (h1 : σ[i]? = some (some (.ref d))) (h2 : H d = some (.dK kvs)) (h3 : kvs.map Prod.fst = ns.map Sum.inl) (h4 : ns.length ≤ 100000)
    (h5 : ∀ n, n ∈ ns → ∀ H', (∀ b o, b ≠ d → H b = some o → H' b = some o) → tt ((wipe σ [j]).set j (some (.int n))) H' fun b H2 => Same H' H2 ∧ b = keep n ∧ (b = true → te ((wipe σ [j]).set j (some (.int n))) H2 fun v H3 => Same H2 H3 ∧ v = f n))
    (q : NewO (.lst ((ns.filter keep).map f)) H Q) : mLcK i j tt te σ H Q := by
  unfold mLcK
  exact ⟨d, kvs, ns, keep, f, h1, h2, h3, h4, h5, q⟩
theorem filter_idx {α β : Type} (keep : α → Bool) (f : α → β) (d : α) : ∀ l : List α, ((List.range l.length).filter fun i => keep (l.getD i d)).map (fun i => f (l.getD i d)) = (l.filter keep).map f := by
  refine snocG ?_ ?_
  · rfl
  · intro l x ih
    rw [List.length_append, List.length_singleton, List.range_succ, List.filter_append, List.map_append, List.filter_append, List.map_append, ← ih]
    have hx : (l ++ [x]).getD l.length d = x := by
      rw [List.getD_eq_getElem?_getD, List.getElem?_append_right (Nat.le_refl _), Nat.sub_self]
      rfl
    have hl : ∀ i, i ∈ List.range l.length → (l ++ [x]).getD i d = l.getD i d := fun i hi => by
      rw [List.getD_eq_getElem?_getD, List.getD_eq_getElem?_getD, List.getElem?_append_left (List.mem_range.mp hi)]
    congr 1
    · have e1 : (List.range l.length).filter (fun i => keep ((l ++ [x]).getD i d)) = (List.range l.length).filter (fun i => keep (l.getD i d)) := List.filter_congr fun i hi => by rw [hl i hi]
      rw [e1]
      exact List.map_congr_left fun i hi => by rw [hl i (List.mem_filter.mp hi).1]
    · rw [List.filter_cons, List.filter_cons, hx]
      cases keep x with
      | true => simp only [if_true, List.filter_nil, List.map_cons, List.map_nil, hx]
      | false => rfl
theorem pe_lcK {elt it : Expr} {scope : Scope} {i j : Nat} {x : Str} {xpos pos : Pos} {ifs : List Expr} {tt : TT} {te : TE} (hc : X.calm = true) (hN : X.N.Nodup) (ha : PE X it (fun σ H Q => ∃ v, σ[i]? = some (some v) ∧ Q v H)) (ok : BlkOk X.N X.env.scope scope [(x, j)])
    (hgt : ∀ (s : Shared) (H : Hp) (C : Addr) (cl : List (Str × Addr)) (fp : List Addr), PG (X.blk s H scope (compEnvC scope cl C X.env) fp) (.Name x xpos) (gName j))
    (ht : ∀ (s : Shared) (H : Hp) (C : Addr) (cl : List (Str × Addr)) (fp : List Addr), PTs (X.blk s H scope (compEnvC scope cl C X.env) fp) ifs tt)
    (he : ∀ (s : Shared) (H : Hp) (C : Addr) (cl : List (Str × Addr)) (fp : List Addr), PE (X.blk s H scope (compEnvC scope cl C X.env) fp) elt te) (hs2 : ∀ y, foldedSetIterable it X.env y = pure y := by intro _; rfl) :
    PE X (.ListComp elt [⟨.Name x xpos, it, ifs, 0⟩] scope pos) (mLcK i j tt te) :=
  pe_weak (pe_lock (pe_lcP (wi' := iKeys fun σ H Q => ∃ v, σ[i]? = some (some v) ∧ Q v H) [j] im_keys hc hN (pi_keys (pe_c ha)) ok hgt (fun s H C cl fp => pts_c (ht s H C cl fp)) (fun s H C cl fp => pe_c (he s H C cl fp)) rfl hs2)) fun σ H Q q => by
    unfold mLcK at q
    obtain ⟨d, kvs, ns, keep, f, h1, h2, h3, h4, h5, q⟩ := q
    have hkl : kvs.length = ns.length := by
      have e := congrArg List.length h3
      rw [List.length_map, List.length_map] at e
      exact e
    refine ⟨d, .dK kvs, h2, trivial, fun od => ?_⟩
    unfold mLcP
    refine ⟨.ref d, h1, d, od, rfl, .inl ⟨kvs, upd_same, ?_⟩⟩
    have nd : ∀ {p : Addr}, (upd H d (.frz od (.dK kvs))) p = none → p ≠ d := fun z e => by
      rw [e, upd_same] at z
      cases z
    refine ⟨kvs.length, _, _, fun k => keep (ns.getD k 0), fun k => f (ns.getD k 0), walk_keys (d := d) (o := od) (kvs := kvs), by omega, fun H' s => s _ _ upd_same, fun D hD k y H' H'' hk p w => ?_, fun p H' np s e => ?_⟩
    · obtain ⟨rfl, ky, vy, hkv, rfl⟩ := w
      have hk2 : k < ns.length := by omega
      have ek : ky = Sum.inl (ns.getD k 0) := by
        have z : (kvs.map Prod.fst)[k]? = (ns.map (Sum.inl (β := Str)))[k]? := by rw [h3]
        rw [List.getElem?_map, List.getElem?_map, hkv, List.getElem?_eq_getElem hk2] at z
        rw [List.getD_eq_getElem?_getD, List.getElem?_eq_getElem hk2]
        exact Option.some.inj z
      subst ek
      have hin : ns.getD k 0 ∈ ns := by
        rw [List.getD_eq_getElem?_getD, List.getElem?_eq_getElem hk2]
        exact List.getElem_mem hk2
      have base : ∀ b o, b ≠ d → H b = some o → H'' b = some o := fun b o hb e => p.sm _ _ (by rw [upd_ne hb]; exact e)
      have hh := h5 _ hin H'' base
      refine ⟨wipe_set rfl, _, hh, fun b H2 r => ?_⟩
      obtain ⟨s1, rfl, r⟩ := r
      cases hb : keep (ns.getD k 0) with
      | true =>
        refine br_T ⟨_, r hb, fun v H3 r2 => ?_⟩
        obtain ⟨s2, rfl⟩ := r2
        exact p.put hD (by omega) (s1.trans s2) hb rfl
      | false => exact br_F (p.skip s1 hb)
    · have hpd : p ≠ d := nd np
      rw [hkl, filter_idx keep f 0 ns] at e
      refine ⟨s _ _ upd_same, q p (upd H' d (.dK kvs)) (by rw [upd_ne hpd] at np; exact np) (fun b o hb => ?_) (by rw [upd_ne hpd]; exact e)⟩
      by_cases hbd : b = d
      · subst hbd
        rw [upd_same]
        rw [h2] at hb
        exact hb
      · rw [upd_ne hbd]
        exact s _ _ (by rw [upd_ne hbd]; exact hb)
end
/-! ### new tuples, told to be new -/
def EltF (te : TE) (σ : L2.St) (H : Hp) (xs : List V) : Prop := ∀ H', Same H H' → te σ H' fun v H'' => Same H' H'' ∧ ∃ p, v = .ref p ∧ H' p = none ∧ H'' p = some (.tup xs)
def NewTF (n : Nat) (f : Nat → List V) (H : Hp) (Q : VK) : Prop := ∀ (D : Addr) (H' : Hp) (ps : List Addr), H D = none → Same H H' → H' D = some (.lst (ps.map V.ref)) → ps.length = n → (∀ i p, ps[i]? = some p → H p = none ∧ H' p = some (.tup (f i))) → Q (.ref D) H'
def TsF (H1 : Hp) (D : Addr) (f : Nat → List V) (i : Nat) (H' : Hp) : Prop := Same H1 H' ∧ ∃ ps : List Addr, H' D = some (.lst (ps.map V.ref)) ∧ ps.length = i ∧ ∀ k p, ps[k]? = some p → H1 p = none ∧ H' p = some (.tup (f k))
theorem TsF.next {H1 H' H'' : Hp} {D p : Addr} {f : Nat → List V} {i : Nat} (hD : H1 D = none) (w : TsF H1 D f i H') (s : Same H' H'') (hn : H' p = none) (hp : H'' p = some (.tup (f i))) : ∃ acc, H'' D = some (.lst acc) ∧ acc.length = i ∧ TsF H1 D f (i + 1) (upd H'' D (.lst (acc ++ [.ref p]))) := by
  obtain ⟨sm, ps, hd, hl, ht⟩ := w
  have hd2 := s _ _ hd
  have ne : ∀ {q : Addr} {xs : List V}, H'' q = some (.tup xs) → q ≠ D := fun {q xs} h e => by
    rw [e, hd2] at h
    cases h
  refine ⟨_, hd2, by rw [List.length_map, hl], same_mut (sm.trans s) hD, ps ++ [p], ?_, by rw [List.length_append, List.length_singleton, hl], fun k q hk => ?_⟩
  · rw [upd_same, List.map_append]
    rfl
  · by_cases h : k < ps.length
    · rw [List.getElem?_append_left h] at hk
      have h2 := ht k q hk
      have h3 := s _ _ h2.2
      refine ⟨h2.1, ?_⟩
      rw [upd_ne (ne h3)]
      exact h3
    · rw [List.getElem?_append_right (by omega)] at hk
      have h0 : k - ps.length = 0 := by
        cases e : k - ps.length with
        | zero => rfl
        | succ m => rw [e] at hk; simp at hk
      rw [h0] at hk
      have e : p = q := Option.some.inj hk
      have ek : k = i := by omega
      subst e
      rw [ek, upd_ne (ne hp)]
      exact ⟨same_none sm hn, hp⟩
/-! ### [(..) for x in range(a, b)] -/
@[irreducible] def mLcTR2 (ta : TA) (j : Nat) (te : TE) (vs : List Nat) : TE := fun σ H Q => ta σ H fun ws H1 => ∃ (lo hi : Int) (f : Nat → List V), ws = [.int lo, .int hi] ∧ (-100000 ≤ lo ∧ lo ≤ 100000 ∧ -100000 ≤ hi ∧ hi ≤ 100000) ∧ (∀ i, i < (hi - lo).toNat → EltF te ((wipe σ vs).set j (some (.int (lo + (i : Int))))) H1 (f i)) ∧ NewTF (hi - lo).toNat f H1 Q
theorem rd_lcTR2 {ta : TA} {j : Nat} {te : TE} {vs : List Nat} {σ : L2.St} {H : Hp} {Q : VK} (h : ta σ H fun ws H1 => ∃ (lo hi : Int) (f : Nat → List V), ws = [.int lo, .int hi] ∧ (-100000 ≤ lo ∧ lo ≤ 100000 ∧ -100000 ≤ hi ∧ hi ≤ 100000) ∧ (∀ i, i < (hi - lo).toNat → EltF te ((wipe σ vs).set j (some (.int (lo + (i : Int))))) H1 (f i)) ∧ NewTF (hi - lo).toNat f H1 Q) : mLcTR2 ta j te vs σ H Q := by
  unfold mLcTR2
  exact h
theorem lcTR2_of {ta : TA} {j : Nat} {te : TE} {vs : List Nat} {σ : L2.St} {H : Hp} {Q : VK} (hj : vs = [j]) (q : mLcTR2 ta j te vs σ H Q) : tLc (iRng2 (cTA ta)) (gName j) tYes (cTE te) vs σ H Q := by
  unfold mLcTR2 at q
  refine ⟨_, q, fun ws H1 r => ?_⟩
  obtain ⟨lo, hi, f, rfl, ⟨h1, h2, h3, h4⟩, he, hq⟩ := r
  have big : (2 : Int) ^ 62 = 4611686018427387904 := by decide
  refine ⟨lo, hi, rfl, ⟨by omega, by omega, by omega, by omega⟩, fun D hD => ?_⟩
  refine lc_range (lo := lo) (n := (hi - lo).toNat) (fun i H' => TsF H1 D f i H') ⟨same_upd hD, [], upd_same, rfl, fun k p h => by cases h⟩ (fun i H' hi w => ⟨wipe_set hj, _, he i hi H' w.1, fun v H'' r => ?_⟩) fun H' w => ?_
  · obtain ⟨s, p, rfl, hn, hp⟩ := r
    obtain ⟨acc, k1, k2, k3⟩ := w.next hD s hn hp
    exact ⟨acc, k1, szl (by omega), k3⟩
  · obtain ⟨sm, ps, hd, hl, ht⟩ := w
    exact hq D H' ps hD sm hd hl ht
section
variable {X : Cx} {te : TE} {ta : TA} {pos : Pos}
theorem pe_lcTR2 {elt : Expr} {scope : Scope} {j : Nat} {x : Str} {a b : Expr} {p p2 xpos : Pos} (hc : X.calm = true) (hN : X.N.Nodup) (hg : Gl X "range") (hm : X.mg "range" = none) (ha : PA X [a, b] ta) (ok : BlkOk X.N X.env.scope scope [(x, j)])
    (hgt : ∀ (s : Shared) (H : Hp) (C : Addr) (cl : List (Str × Addr)) (fp : List Addr), PG (X.blk s H scope (compEnvC scope cl C X.env) fp) (.Name x xpos) (gName j))
    (he : ∀ (s : Shared) (H : Hp) (C : Addr) (cl : List (Str × Addr)) (fp : List Addr), PE (X.blk s H scope (compEnvC scope cl C X.env) fp) elt te)
    (hs : starEach [a, b] X.env = [(false, eval a X.env), (false, eval b X.env)] := by rfl) (hs3 : starEach [b] X.env = [(false, eval b X.env)] := by rfl) (hs2 : ∀ y, foldedSetIterable (.Call (.Name "range" p) [a, b] [] p2) X.env y = pure y := by intro _; rfl) :
    PE X (.ListComp elt [⟨.Name x xpos, .Call (.Name "range" p) [a, b] [] p2, [], 0⟩] scope pos) (mLcTR2 ta j te [j]) :=
  pe_weak (pe_lc hc hN (pi_range2 hg hm (pa_c ha) hs hs3) ok hgt (fun _ _ _ _ _ => pts_nil) (fun s H C cl fp => pe_c (he s H C cl fp)) hs2) fun _ _ _ q => lcTR2_of rfl q
end
/-- new objects join what stays -/
theorem Own.adopt {S B0 B H H' : Hp} {as : List Addr} {l : List (Addr × HO)} (w : Own S B0 as B l H) (s : Same H H') (ps : List Addr) (hp : ∀ p ∈ ps, H p = none ∧ H' p ≠ none) : ∃ B', Same B B' ∧ (∀ p ∈ ps, B' p = H' p) ∧ Own S B0 as B' l H' := by
  have hB : ∀ p ∈ ps, B p = none := fun p h => w.frB (hp p h).1
  have sb : Same B (fun b => if b ∈ ps then H' b else B b) := fun b o h => by
    show (if b ∈ ps then H' b else B b) = some o
    rw [if_neg (fun z => by rw [hB b z] at h; cases h)]
    exact h
  refine ⟨fun b => if b ∈ ps then H' b else B b, sb, fun p h => if_pos h, ⟨fun a u h => s _ _ (w.c.cell a u h), w.c.nd, fun b u h => ?_, fun a u h => ?_⟩, fun b u hb h => s _ _ (w.kept b u hb h), w.own, w.grow.trans sb, fun b h k => ?_, fun a h e => w.there a h (same_none s e)⟩
  · have h2 : (if b ∈ ps then H' b else B b) = some u := h
    split at h2
    · exact h2
    · exact s _ _ (w.c.imm _ _ h2)
  · show (if a ∈ ps then H' a else B a) = none
    rw [if_neg (fun z => w.notin (hp a z).1 h)]
    exact w.c.dis a u h
  · by_cases hb : b ∈ ps
    · exact (w.frS (hp b hb).1).1
    · have k2 : (if b ∈ ps then H' b else B b) ≠ none := k
      rw [if_neg hb] at k2
      exact w.new b h k2
theorem br_or {c d : Bool} {Q : VK} {H : Hp} {B : Prop} (hB : Q (.bl d) H → B) (q : Q (.bl (c || d)) H) : Br c (Q (.bl true) H) B := by
  cases c with
  | true => exact br_T q
  | false => exact br_F (hB q)
theorem rd_dget2P {a : Addr} {kvs : List (Key × V)} {n : Int} {z : V} {H : Hp} {Q : VK} (P : V → Hp → Prop) (h : H a = some (.dK kvs)) (p : P ((valV kvs (.inl n)).getD z) H) (k : ∀ v H', P v H' → Q v H') : mDGet2 (.ref a) (.int n) z H Q := rd_dget2 h (k _ _ p)
theorem Own.perm {S B0 B H : Hp} {as : List Addr} {l l' : List (Addr × HO)} (w : Own S B0 as B l H) (h : l'.Perm l) : Own S B0 as B l' H := w.sub (fun _ hc => h.mem_iff.mp hc) ((h.map _).nodup_iff.mpr w.c.nd)
/-! ### [(..) for target in xs]: new tuples -/
@[irreducible] def mLcTG (K : PySem.W.Frag) (tl : TE) (g : TG) (te : TE) (vs : List Nat) : TE := fun σ H Q => tl σ H fun x H1 => ∃ (a : Addr) (xs : List V) (f : Nat → List V), x = .ref a ∧ SqL K H1 a xs ∧ xs.length ≤ 1000 ∧
  (∀ i y, xs[i]? = some y → ∀ H', Same H1 H' → g y (wipe σ vs) H' fun σ2 H2 => wipe σ2 vs = wipe σ vs ∧ te σ2 H2 fun v H3 => Same H' H3 ∧ ∃ p, v = .ref p ∧ H3 p = some (.tup (f i))) ∧ NewTs xs.length f H1 Q
theorem rd_lcTG {K : PySem.W.Frag} {tl : TE} {g : TG} {te : TE} {vs : List Nat} {σ : L2.St} {H : Hp} {Q : VK} (h : tl σ H fun x H1 => ∃ (a : Addr) (xs : List V) (f : Nat → List V), x = .ref a ∧ SqL K H1 a xs ∧ xs.length ≤ 1000 ∧
  (∀ i y, xs[i]? = some y → ∀ H', Same H1 H' → g y (wipe σ vs) H' fun σ2 H2 => wipe σ2 vs = wipe σ vs ∧ te σ2 H2 fun v H3 => Same H' H3 ∧ ∃ p, v = .ref p ∧ H3 p = some (.tup (f i))) ∧ NewTs xs.length f H1 Q) : mLcTG K tl g te vs σ H Q := by
  unfold mLcTG
  exact h
theorem lcTG_of {K : PySem.W.Frag} {tl : TE} {g : TG} {te : TE} {vs : List Nat} {σ : L2.St} {H : Hp} {Q : VK} (q : mLcTG K tl g te vs σ H Q) : tLc (iList K (cTE tl)) (cTG g) tYes (cTE te) vs σ H Q := by
  unfold mLcTG at q
  refine ⟨_, q, fun x H1 r => ?_⟩
  obtain ⟨a, xs, f, rfl, hx, hn, he, hq⟩ := r
  refine ⟨a, rfl, ⟨xs, hx⟩, fun D hD => ?_⟩
  refine lc_list (xs := xs) (fun i H' => TsW H1 D f i H') ⟨same_upd hD, [], upd_same, rfl, fun k p h => by cases h⟩ (fun i H' _ w => w.1.seq hx) (fun i y H' hi w => ⟨_, he i y hi H' w.1, fun σ2 H2 r => ⟨r.1, _, r.2, fun v H3 r2 => ?_⟩⟩) fun H' w => ?_
  · obtain ⟨s, p, rfl, hp⟩ := r2
    obtain ⟨acc, h1, h2, h3⟩ := w.next hD s hp
    have hl : i < xs.length := (List.getElem?_eq_some_iff.mp hi).1
    exact ⟨acc, h1, szl (by omega), h3⟩
  · obtain ⟨sm, ps, hd, hl, ht⟩ := w
    exact hq D H' ps hD sm hd hl ht
theorem pe_lcTG {X : Cx} {tg elt it : Expr} {scope : Scope} {own : List (Str × Nat)} {g : TG} {te tl : TE} {pos : Pos} (vs : List Nat) (hc : X.calm = true) (hN : X.N.Nodup) (ha : PE X it tl) (ok : BlkOk X.N X.env.scope scope own)
    (hgt : ∀ (s : Shared) (H : Hp) (C : Addr) (cl : List (Str × Addr)) (fp : List Addr), PG (X.blk s H scope (compEnvC scope cl C X.env) fp) tg g)
    (he : ∀ (s : Shared) (H : Hp) (C : Addr) (cl : List (Str × Addr)) (fp : List Addr), PE (X.blk s H scope (compEnvC scope cl C X.env) fp) elt te) (hvs : own.map (·.2) = vs := by rfl) (hs2 : ∀ y, foldedSetIterable it X.env y = pure y := by intro _; rfl) :
    PE X (.ListComp elt [⟨tg, it, [], 0⟩] scope pos) (mLcTG X.K tl g te vs) :=
  pe_weak (pe_lc hc hN (pi_list (pe_c ha)) ok (fun s H C cl fp => pg_c (hgt s H C cl fp)) (fun _ _ _ _ _ => pts_nil) (fun s H C cl fp => pe_c (he s H C cl fp)) hs2) fun _ _ _ q => by
    rw [hvs]
    exact lcTG_of q
/-! ### x or y as a value, y a name -/
@[irreducible] def OrB (x : V) (σ : L2.St) (j : Nat) (H : Hp) (Q : VK) : Prop := ∃ c d, x = .bl c ∧ σ[j]? = some (some (.bl d)) ∧ Q (.bl (c || d)) H
def mOrB (ta : TE) (j : Nat) : TE := fun σ H Q => ta σ H fun x H1 => OrB x σ j H1 Q
theorem pe_orB {X : Cx} {a b : Expr} {ta : TE} {j : Nat} {pos : Pos} (ha : PE X a ta) (hb : PE X b (fun σ H Q => ∃ v, σ[j]? = some (some v) ∧ Q v H)) : PE X (.BoolOp .Or [a, b] pos) (mOrB ta j) :=
  pe_weak (pe_orM (pe_c ha) (pe_one hb)) fun σ H Q q => ⟨_, q, fun x H1 r => by
    unfold OrB at r
    obtain ⟨c, d, e, hd, r⟩ := r
    cases c with
    | true => exact ⟨true, e, br_T r⟩
    | false => exact ⟨false, e, br_F ⟨.bl d, hd, r⟩⟩⟩
theorem rd_orB {c d : Bool} {σ : L2.St} {j : Nat} {H : Hp} {Q : VK} (hd : σ[j]? = some (some (.bl d))) (q : Q (.bl (c || d)) H) : OrB (.bl c) σ j H Q := by
  unfold OrB
  exact ⟨c, d, rfl, hd, q⟩
/-- a and b as a test, told as one truth value -/
@[irreducible] def AndP (c : Bool) (u : TT) (σ : L2.St) (H : Hp) (Q : Bool → Hp → Prop) : Prop := ∃ d : Bool, (c = true → u σ H fun d' H2 => d' = d ∧ H2 = H) ∧ Q (c && d) H
def mAndP (t u : TT) : TT := fun σ H Q => t σ H fun c H1 => AndP c u σ H1 Q
theorem pw_andP {X : Cx} {a b : Expr} {tA tB : TT} {pos : Pos} (ha : PT X a tA) (hb : PT X b tB) : PW X (.BoolOp .And [a, b] pos) (mAndP tA tB) :=
  pw_weak (pw_andM (pt_c ha) (pw_and1 (pt_c hb))) fun σ H Q q => ⟨_, q, fun c H1 r => by
    unfold AndP at r
    obtain ⟨d, h1, h2⟩ := r
    cases c with
    | true => exact br_T ⟨_, h1 rfl, fun d' H2 z => by
        obtain ⟨rfl, rfl⟩ := z
        exact h2⟩
    | false => exact br_F h2⟩
theorem rd_andP {c : Bool} {u : TT} {σ : L2.St} {H : Hp} {Q : Bool → Hp → Prop} (d : Bool) (h : c = true → u σ H fun d' H2 => d' = d ∧ H2 = H) (q : Q (c && d) H) : AndP c u σ H Q := by
  unfold AndP
  exact ⟨d, h, q⟩
end My
namespace My
open PySem L2
/-! ### a comprehension told by what holds between its turns -/
theorem im_rng3 {ta : TA} : IMono (iRng3 ta) (iRng3 (cTA ta)) := fun σ H R R' h q => ⟨_, q, fun v H' r => by
  obtain ⟨i, j, c, n, e, h1, r⟩ := r
  exact ⟨i, j, c, n, e, h1, h _ _ r⟩⟩
/-- acc: what the new list holds so far; the turn may change the heap, the new list aside -/
def LcWT (D : Addr) (acc : List V) (P : List V → Hp → Prop) (y : V) (H4 : Hp) : Prop := H4 D = some (.lst acc) ∧ P (acc ++ [y]) (upd H4 D (.lst (acc ++ [y])))
def LcWS (D : Addr) (acc : List V) (P : List V → Hp → Prop) (H4 : Hp) : Prop := H4 D = some (.lst acc) ∧ P acc H4
@[irreducible] def LcWP (J : It) (g : TG) (tt : TT) (te : TE) (vs : List Nat) (σ : L2.St) (Q : VK) (H1 : Hp) : Prop := ∃ (n : Nat) (G : Hp → Prop) (Y : Nat → Hp → V → Hp → Prop), Walk J n G Y ∧ n ≤ 100000 ∧ ∀ D, H1 D = none → ∃ Pv : Nat → List V → Hp → Prop, Pv 0 [] (upd H1 D (.lst [])) ∧
  (∀ i acc H', i ≤ n → acc.length ≤ i → H' D = some (.lst acc) → Pv i acc H' → G H') ∧
  (∀ i acc x H' H'', i < n → acc.length ≤ i → H' D = some (.lst acc) → Pv i acc H' → Y i H' x H'' → g x (wipe σ vs) H'' fun σ2 H2 => wipe σ2 vs = wipe σ vs ∧ tt σ2 H2 fun b H3 => Br b (te σ2 H3 fun y H4 => LcWT D acc (Pv (i + 1)) y H4) (LcWS D acc (Pv (i + 1)) H3)) ∧
  ∀ acc H', acc.length ≤ n → H' D = some (.lst acc) → Pv n acc H' → Q (.ref D) H'
@[irreducible] def mLcW (wi : TI) (g : TG) (tt : TT) (te : TE) (vs : List Nat) : TE := fun σ H Q => wi σ H fun J H1 => LcWP J g tt te vs σ Q H1
theorem lcW_of {g : TG} {tt : TT} {te : TE} {wi wi' : TI} {vs : List Nat} {σ : L2.St} {H : Hp} {Q : VK} (hw : IMono wi' wi) (q : mLcW wi' g tt te vs σ H Q) : tLc wi (cTG g) (cTT tt) (cTE te) vs σ H Q := by
  unfold mLcW at q
  refine hw _ _ _ _ (fun J H1 r => ?_) q
  unfold LcWP at r
  obtain ⟨n, G, Y, w, hn, r⟩ := r
  intro D hD
  obtain ⟨Pv, h0, hG, ht, hq⟩ := r D hD
  refine lc_it w (fun i H' => ∃ acc : List V, acc.length ≤ i ∧ H' D = some (.lst acc) ∧ Pv i acc H') ⟨[], Nat.le_refl _, upd_same, h0⟩ (fun i H' hi p => ?_) (fun i x H' H'' hi p y => ?_) fun H' p => ?_
  · obtain ⟨acc, h1, h2, h3⟩ := p
    exact hG i acc H' hi h1 h2 h3
  · obtain ⟨acc, h1, h2, h3⟩ := p
    refine ⟨_, ht i acc x H' H'' hi h1 h2 h3 y, fun σ2 H2 r => ⟨r.1, _, r.2, fun b H3 r => ?_⟩⟩
    cases b with
    | true =>
      refine iteT ⟨_, (r.un : if true = true then _ else _), fun y2 H4 z => ⟨acc, z.1, szl (by omega), acc ++ [y2], ?_, upd_same, z.2⟩⟩
      rw [List.length_append, List.length_singleton]
      omega
    | false => exact iteF (by
        have z : LcWS D acc (Pv (i + 1)) H3 := (r.un : if false = true then _ else _)
        exact ⟨acc, by omega, z.1, z.2⟩)
  · obtain ⟨acc, h1, h2, h3⟩ := p
    exact hq acc H' h1 h2 h3
section
variable {X : Cx} {e tg : Expr} {ifs : List Expr} {g : TG} {tt : TT} {te : TE}
theorem pe_lcW {iter elt : Expr} {scope : Scope} {own : List (Str × Nat)} {pos : Pos} {wi wi' : TI} (vs : List Nat) (hw : IMono wi' wi) (hc : X.calm = true) (hN : X.N.Nodup) (hi : PI X tg iter wi) (ok : BlkOk X.N X.env.scope scope own)
    (hg : ∀ (s : Shared) (H : Hp) (C : Addr) (cl : List (Str × Addr)) (fp : List Addr), PG (X.blk s H scope (compEnvC scope cl C X.env) fp) tg g) (ht : ∀ (s : Shared) (H : Hp) (C : Addr) (cl : List (Str × Addr)) (fp : List Addr), PTs (X.blk s H scope (compEnvC scope cl C X.env) fp) ifs tt)
    (he : ∀ (s : Shared) (H : Hp) (C : Addr) (cl : List (Str × Addr)) (fp : List Addr), PE (X.blk s H scope (compEnvC scope cl C X.env) fp) elt te) (hvs : own.map (·.2) = vs := by rfl) (hs : ∀ x, foldedSetIterable iter X.env x = pure x := by intro _; rfl) :
    PE X (.ListComp elt [⟨tg, iter, ifs, 0⟩] scope pos) (mLcW wi' g tt te vs) :=
  pe_weak (pe_lc hc hN hi ok (fun s H C cl fp => pg_c (hg s H C cl fp)) (fun s H C cl fp => pts_c (ht s H C cl fp)) (fun s H C cl fp => pe_c (he s H C cl fp)) hs) fun _ _ _ q => by
    rw [hvs]
    exact lcW_of hw q
theorem ps_setLcW {i : Nat} {y : Str} {py : Pos} {iter elt : Expr} {scope : Scope} {own : List (Str × Nat)} {pos spos : Pos} {wi wi' : TI} (vs : List Nat) (hw : IMono wi' wi) (hc : X.calm = true) (hN : X.N.Nodup) (hy : X.N[i]? = some y) (hyl : X.env.scope.names.lookup y = some .local)
    (hsw : swapsWith (.ListComp elt [⟨tg, iter, ifs, 0⟩] scope pos) (some (.Name y py)) spos.line X.env = pure true) (hi : PI X tg iter wi) (ok : BlkOk X.N X.env.scope scope own)
    (hg : ∀ (s : Shared) (H : Hp) (C : Addr) (cl : List (Str × Addr)) (fp : List Addr), PG (X.blk s H scope (compEnvC scope cl C X.env) fp) tg g) (ht : ∀ (s : Shared) (H : Hp) (C : Addr) (cl : List (Str × Addr)) (fp : List Addr), PTs (X.blk s H scope (compEnvC scope cl C X.env) fp) ifs tt)
    (he : ∀ (s : Shared) (H : Hp) (C : Addr) (cl : List (Str × Addr)) (fp : List Addr), PE (X.blk s H scope (compEnvC scope cl C X.env) fp) elt te) (hvs : own.map (·.2) = vs := by rfl) (hs : ∀ x, foldedSetIterable iter X.env x = pure x := by intro _; rfl) :
    PS X (.Assign [.Name y py] (.ListComp elt [⟨tg, iter, ifs, 0⟩] scope pos) spos) (tAsg (mLcW wi' g tt te vs) (gName i)) :=
  ps_weak (ps_setLc hc hN hy hyl hsw hi ok (fun s H C cl fp => pg_c (hg s H C cl fp)) (fun s H C cl fp => pts_c (ht s H C cl fp)) (fun s H C cl fp => pe_c (he s H C cl fp)) hs) fun _ _ _ q => by
    rw [hvs]
    exact lcW_of hw q
end
/-! ### its walks: a list, a range -/
theorem rd_lcW {wi : TI} {g : TG} {tt : TT} {te : TE} {vs : List Nat} {σ : L2.St} {H : Hp} {Q : VK} (h : wi σ H fun J H1 => LcWP J g tt te vs σ Q H1) : mLcW wi g tt te vs σ H Q := by
  unfold mLcW
  exact h
section
variable {K : PySem.W.Frag} {g : TG} {tt : TT} {te : TE} {vs : List Nat} {σ : L2.St} {H1 : Hp} {Q : VK}
theorem wl_list {a : Addr} (xs : List V) (hn : xs.length ≤ 100000) (r : ∀ D, H1 D = none → ∃ Pv : Nat → List V → Hp → Prop, Pv 0 [] (upd H1 D (.lst [])) ∧
    (∀ i acc H', i ≤ xs.length → acc.length ≤ i → H' D = some (.lst acc) → Pv i acc H' → SqL K H' a xs) ∧
    (∀ i acc x H', xs[i]? = some x → acc.length ≤ i → H' D = some (.lst acc) → Pv i acc H' → g x (wipe σ vs) H' fun σ2 H2 => wipe σ2 vs = wipe σ vs ∧ tt σ2 H2 fun b H3 => Br b (te σ2 H3 fun y H4 => LcWT D acc (Pv (i + 1)) y H4) (LcWS D acc (Pv (i + 1)) H3)) ∧
    ∀ acc H', acc.length ≤ xs.length → H' D = some (.lst acc) → Pv xs.length acc H' → Q (.ref D) H') :
    LcWP (Itl K a) g tt te vs σ Q H1 := by
  unfold LcWP
  refine ⟨xs.length, _, _, walk_list (K := K) (a := a) (xs := xs), hn, fun D hD => ?_⟩
  obtain ⟨Pv, h0, hG, ht, hq⟩ := r D hD
  refine ⟨Pv, h0, hG, fun i acc x H' H'' hi h1 h2 h3 y => ?_, hq⟩
  obtain ⟨rfl, hx2⟩ := y
  exact ht i acc x _ hx2 h1 h2 h3
/-- for x in range(lo, ..), n turns -/
theorem wl_rng {lo : Int} {n : Nat} (hn : n ≤ 100000) (r : ∀ D, H1 D = none → ∃ Pv : Nat → List V → Hp → Prop, Pv 0 [] (upd H1 D (.lst [])) ∧
    (∀ (i : Nat) acc H', i < n → acc.length ≤ i → H' D = some (.lst acc) → Pv i acc H' → g (.int (lo + (i : Nat))) (wipe σ vs) H' fun σ2 H2 => wipe σ2 vs = wipe σ vs ∧ tt σ2 H2 fun b H3 => Br b (te σ2 H3 fun y H4 => LcWT D acc (Pv (i + 1)) y H4) (LcWS D acc (Pv (i + 1)) H3)) ∧
    ∀ acc H', acc.length ≤ n → H' D = some (.lst acc) → Pv n acc H' → Q (.ref D) H') :
    LcWP (Itr lo n) g tt te vs σ Q H1 := by
  unfold LcWP
  refine ⟨n, _, _, walk_range (lo := lo) (n := n), hn, fun D hD => ?_⟩
  obtain ⟨Pv, h0, ht, hq⟩ := r D hD
  refine ⟨Pv, h0, fun _ _ _ _ _ _ _ => trivial, fun i acc x H' H'' hi h1 h2 h3 y => ?_, hq⟩
  obtain ⟨rfl, rfl⟩ := y
  exact ht i acc _ hi h1 h2 h3
end
/-! ### lists of lists of whole numbers -/
inductive LLs (H : Hp) : List Addr → List (List Int) → Prop
  | nil : LLs H [] []
  | cons {p : Addr} {ps : List Addr} {x : List Int} {r : List (List Int)} (h : H p = some (.lst (x.map V.int))) (t : LLs H ps r) : LLs H (p :: ps) (x :: r)
section
variable {H H' : Hp} {ps : List Addr} {xss : List (List Int)} {p : Addr} {x : List Int}
theorem LLs.mono (h : LLs H ps xss) (s : Same H H') : LLs H' ps xss := by
  induction h with
  | nil => exact .nil
  | cons h _ ih => exact .cons (s _ _ h) ih
/-- where only the addresses told stay as they were -/
theorem LLs.stay (h : LLs H ps xss) (s : ∀ p ∈ ps, H' p = H p) : LLs H' ps xss := by
  induction h with
  | nil => exact .nil
  | cons h _ ih => exact .cons ((s _ List.mem_cons_self).trans h) (ih fun p hp => s p (List.mem_cons_of_mem _ hp))
theorem LLs.snoc (h : LLs H ps xss) (e : H p = some (.lst (x.map V.int))) : LLs H (ps ++ [p]) (xss ++ [x]) := by
  induction h with
  | nil => exact .cons e .nil
  | cons h _ ih => exact .cons h ih
theorem LLs.len (h : LLs H ps xss) : ps.length = xss.length := by
  induction h with
  | nil => rfl
  | cons _ _ ih => rw [List.length_cons, List.length_cons, ih]
theorem LLs.at (h : LLs H ps xss) {i : Nat} (hp : ps[i]? = some p) : ∃ x, xss[i]? = some x ∧ H p = some (.lst (x.map V.int)) := by
  induction h generalizing i with
  | nil => cases hp
  | cons h _ ih =>
    cases i with
    | zero => exact ⟨_, rfl, (Option.some.inj hp) ▸ h⟩
    | succ i => exact ih hp
theorem LLs.mem (h : LLs H ps xss) (hp : p ∈ ps) : ∃ x ∈ xss, H p = some (.lst (x.map V.int)) := by
  obtain ⟨i, hi⟩ := List.getElem?_of_mem hp
  obtain ⟨x, h1, h2⟩ := h.at hi
  exact ⟨x, List.mem_of_getElem? h1, h2⟩
theorem LLs.take (h : LLs H ps xss) (n : Nat) : LLs H (ps.take n) (xss.take n) := by
  induction h generalizing n with
  | nil => rw [List.take_nil, List.take_nil]; exact .nil
  | cons h _ ih =>
    cases n with
    | zero => exact .nil
    | succ n => exact .cons h (ih n)
theorem LLs.drop (h : LLs H ps xss) (n : Nat) : LLs H (ps.drop n) (xss.drop n) := by
  induction h generalizing n with
  | nil => rw [List.drop_nil, List.drop_nil]; exact .nil
  | cons h t ih =>
    cases n with
    | zero => exact .cons h t
    | succ n => exact ih n
theorem LLs.app {qs : List Addr} {yss : List (List Int)} (h : LLs H ps xss) (k : LLs H qs yss) : LLs H (ps ++ qs) (xss ++ yss) := by
  induction h with
  | nil => exact k
  | cons h _ ih => exact .cons h ih
theorem LLs.dps {K : PySem.W.Frag} (h : LLs H ps xss) : DpAll K H (ps.map V.ref) (xss.map fun l => PyData.list (l.map PyData.int)) := by
  induction h with
  | nil => exact .nil
  | cons h _ ih => exact .cons (dp_ints (sq_of h)) ih
theorem dp_lls {K : PySem.W.Frag} {a : Addr} (ha : SqL K H a (ps.map V.ref)) (h : LLs H ps xss) : Dp K H (.ref a) (.list (xss.map fun l => PyData.list (l.map PyData.int))) := .lst ha h.dps
end
def llD (xss : List (List Int)) : PyData := .list (xss.map fun l => PyData.list (l.map PyData.int))
theorem sh_lls {n : Nat} (xss : List (List Int)) : Sh (n + 2) (llD xss) := sh_lst (sh_map (fun l => sh_lst (sh_ints l)) xss)
theorem eqvLL : ∀ xss yss : List (List Int), PyData.eqvAll (xss.map fun l => PyData.list (l.map PyData.int)) (yss.map fun l => PyData.list (l.map PyData.int)) = decide (xss = yss)
  | [], [] => rfl
  | [], _ :: _ => rfl
  | _ :: _, [] => rfl
  | x :: xs, y :: ys => by
    show ((PyData.eqv (.list (x.map PyData.int)) (.list (y.map PyData.int))) && PyData.eqvAll (xs.map fun l => PyData.list (l.map PyData.int)) (ys.map fun l => PyData.list (l.map PyData.int))) = _
    rw [eqvLL xs ys]
    have e : PyData.eqv (.list (x.map PyData.int)) (.list (y.map PyData.int)) = decide (x = y) := eqvAll_ints x y
    rw [e]
    by_cases h1 : x = y
    · by_cases h2 : xs = ys
      · rw [decide_eq_true h1, decide_eq_true h2, h1, h2]
        exact (decide_eq_true rfl).symm
      · rw [decide_eq_false h2, Bool.and_false]
        exact (decide_eq_false fun z => h2 (List.cons.inj z).2).symm
    · rw [decide_eq_false h1, Bool.false_and]
      exact (decide_eq_false fun z => h1 (List.cons.inj z).1).symm
theorem eqv_llD (xss yss : List (List Int)) : PyData.eqv (llD xss) (llD yss) = decide (xss = yss) := eqvLL xss yss
section
variable {K : PySem.W.Frag} {H : Hp} {Q : VK} {a b : Addr} {ps qs : List Addr} {xss yss : List (List Int)}
theorem rd_eqLL (h1 : SqL K H a (ps.map V.ref)) (l1 : LLs H ps xss) (h2 : SqL K H b (qs.map V.ref)) (l2 : LLs H qs yss) (h : Q (.bl (decide (xss = yss))) H) : mEqD K (.ref a) (.ref b) H Q :=
  rd_eqA (n := 2) (m := 2) (llD xss) (llD yss) (dp_lls h1 l1) (dp_lls h2 l2) (sh_lls _) (sh_lls _) (by rw [eqv_llD]; exact h)
theorem rd_neLL (h1 : SqL K H a (ps.map V.ref)) (l1 : LLs H ps xss) (h2 : SqL K H b (qs.map V.ref)) (l2 : LLs H qs yss) (h : Q (.bl (!decide (xss = yss))) H) : mNeD K (.ref a) (.ref b) H Q :=
  rd_neA (n := 2) (m := 2) (llD xss) (llD yss) (dp_lls h1 l1) (dp_lls h2 l2) (sh_lls _) (sh_lls _) (by rw [eqv_llD]; exact h)
end
/-! ### [list(x) for x in xs], each a copy of its own -/
/-- the new list at D, the copies at qs -/
structure Cpy (H1 : Hp) (D : Addr) (qs : List Addr) (xss : List (List Int)) (H' : Hp) : Prop where
  sm : Same H1 H'
  at' : H' D = some (.lst (qs.map V.ref))
  ls : LLs H' qs xss
  fr : ∀ q ∈ qs, H1 q = none ∧ q ≠ D
  nd : qs.Nodup
theorem Cpy.next {H1 H' H'' : Hp} {D p : Addr} {qs : List Addr} {xss : List (List Int)} {x : List Int} (w : Cpy H1 D qs xss H') (hD : H1 D = none) (np : H' p = none) (s : Same H' H'') (e : H'' p = some (.lst (x.map V.int))) :
    Cpy H1 D (qs ++ [p]) (xss ++ [x]) (upd H'' D (.lst (qs.map V.ref ++ [.ref p]))) := by
  have hpD : p ≠ D := fun z => by
    rw [z, w.at'] at np
    cases np
  have hin : ∀ q ∈ qs, q ≠ p := fun q hq z => by
    obtain ⟨y, _, hy⟩ := w.ls.mem hq
    rw [z, np] at hy
    cases hy
  refine ⟨same_mut (w.sm.trans s) hD, ?_, ?_, fun q hq => ?_, ?_⟩
  · rw [upd_same, List.map_append]
    rfl
  · refine LLs.snoc ((w.ls.mono s).stay fun q hq => upd_ne (w.fr q hq).2) ?_
    rw [upd_ne hpD]
    exact e
  · rcases List.mem_append.mp hq with h | h
    · exact w.fr q h
    · rw [List.mem_singleton.mp h]
      exact ⟨same_none w.sm np, hpD⟩
  · refine List.nodup_append.mpr ⟨w.nd, List.nodup_cons.mpr ⟨fun h => (nomatch h), List.nodup_nil⟩, fun q hq r hr => ?_⟩
    rw [List.mem_singleton.mp hr]
    exact hin q hq
def cpOf (te : TE) (σ : L2.St) (H : Hp) (x : List Int) : Prop := ∀ (H' : Hp) (R : VK), Same H H' → NewO (.lst (x.map V.int)) H' R → te σ H' R
theorem wl_copy {K : PySem.W.Frag} {j : Nat} {te : TE} {σ : L2.St} {H1 : Hp} {Q : VK} {a : Addr} (xs : List V) (xss : List (List Int)) (hx : SqL K H1 a xs) (hl : xs.length = xss.length) (hn : xs.length ≤ 100000)
    (ht : ∀ (i : Nat) (y : V) (x : List Int), xs[i]? = some y → xss[i]? = some x → cpOf te ((wipe σ [j]).set j (some y)) H1 x) (hq : ∀ D qs H', H1 D = none → Cpy H1 D qs xss H' → Q (.ref D) H') :
    LcWP (Itl K a) (gName j) tYes te [j] σ Q H1 := by
  refine wl_list xs hn fun D hD => ⟨fun i acc H' => ∃ qs, acc = qs.map V.ref ∧ Cpy H1 D qs (xss.take i) H', ⟨[], rfl, same_upd hD, upd_same, .nil, fun q hq => (nomatch hq), List.nodup_nil⟩, fun i acc H' _ _ _ p => ?_, fun i acc y H' hi ha h2 p => ?_, fun acc H' ha h2 p => ?_⟩
  · obtain ⟨qs, rfl, p⟩ := p
    exact p.sm.seq hx
  · obtain ⟨qs, rfl, p⟩ := p
    have hi2 : i < xss.length := by
      have := (List.getElem?_eq_some_iff.mp hi).1
      omega
    have hi3 : xss[i]? = some xss[i] := List.getElem?_eq_getElem hi2
    show _ ∧ _
    refine ⟨wipe_set rfl, ?_⟩
    show Br true _ _
    refine br_T (ht i y _ hi hi3 H' _ p.sm fun q H'' nq s eq => ?_)
    refine ⟨s _ _ h2, qs ++ [q], by rw [List.map_append]; rfl, ?_⟩
    rw [take_snoc hi3]
    exact p.next hD nq s eq
  · obtain ⟨qs, rfl, p⟩ := p
    rw [hl, List.take_length] at p
    exact hq D qs H' hD p
/-! ### xs[lo:hi] = ys, the bounds left out or whole numbers -/
section
open PySem.Spec PyProof.Rows
theorem spl_arr (u v : List Value) (a c : Nat) : u.toArray.extract 0 a ++ v.toArray ++ u.toArray.extract c u.toArray.size = (u.take a ++ v ++ u.drop c).toArray := by
  apply Array.toList_inj.mp
  simp [List.take_of_length_le]
theorem setSl_at {prog : Program} {w : World} {A : Around} {E : Value → Shared → Prop} {s : Shared} {l b g : Addr} {us vs : Array Value} {n n2 : Nat} {v1 v2 : Value} {lo hi : Option Int} {Q : Unit → Shared → Prop}
    (hus : s.heap.get? l = some { cls := .type "list", data := .seq us n }) (hvs : s.heap.get? b = some { cls := .type "list", data := .seq vs n2 }) (hlb : l ≠ b)
    (hg : s.heap.IsSliceOf g v1 v2 .none) (p1 : IsPart v1 lo) (p2 : IsPart v2 hi) (hz : us.size + vs.size ≤ sizeLine)
    (k : Q () { s with heap := s.heap.update l (Obj.mapSeq fun xs => xs.extract 0 (PySem.W.kms_lo lo us.size) ++ vs ++ xs.extract (max (PySem.W.kms_lo lo us.size) (PySem.W.kms_hi hi us.size)) xs.size) }) :
    wpAny (model prog w) A (setItem (.ref l) (.ref g) (.ref b)) Q E s := by
  have tl : s.heap.IsList l us := PySem.IsL.isList hus
  have tb : s.heap.IsList b vs := PySem.IsL.isList hvs
  obtain ⟨og, hog, hgc, hgd⟩ := id hg
  have tg : s.TypeIs (.ref g) "slice" := ⟨og, hog, hgc⟩
  have hne : Builtin.List.listSameRef (.ref l) (.ref b) = false := by
    unfold Builtin.List.listSameRef
    exact beq_eq_false_iff_ne.mpr hlb
  have mx : ∀ a c : Nat, (max (a : Int) (c : Int)).toNat = max a c := fun a c => by omega
  generalize ha : PySem.W.kms_lo lo us.size = a at k
  generalize hc : PySem.W.kms_hi hi us.size = c at k
  have hb : sliceBounds lo hi none us.size = ((a : Int), (c : Int), 1) := by
    rw [← ha, ← hc]
    exact PySem.W.kms_bounds lo hi us.size
  have ham : a ≤ us.size := by
    rw [← ha]
    unfold PySem.W.kms_lo
    cases lo with
    | none => exact Nat.zero_le _
    | some x =>
      show (if x < 0 then us.size - (-x).toNat else min x.toNat us.size) ≤ us.size
      split <;> omega
  have hz2 : ((fun xs : Array Value => xs.extract 0 a ++ vs ++ xs.extract (max a c) xs.size) us).size ≤ sizeLine + 1 := by
    show (us.extract 0 a ++ vs ++ us.extract (max a c) us.size).size ≤ _
    rw [Array.size_append, Array.size_append, Array.size_extract, Array.size_extract]
    omega
  unfold setItem
  (try with_reducible refine wpAny_holding ?_)
  refine wpAny_bind (wpAny_sequenceKey tl.typeIs (by decide) ?_)
  refine wpAny_bind (wpAny_callSpecial?_slot (name := Str.ofString "__setitem__") tl.typeIs slot_list_setitem (wpAny_call_entry slot_list_setitem tl.typeIs entry_list_setitem ?_ (args_list_setitem _ _ _)))
  show wpAny _ _ (Builtin.List.listSubscript? (.ref g) >>= _) _ _ s
  refine wpAny_bind ?_
  unfold Builtin.List.listSubscript?
  refine wpAny_bind (wpAny_specialOf tg slice_no_index ?_)
  rw [if_pos (show (none : Option Value).isNone = true from rfl)]
  refine wpAny_pure ?_
  show wpAny _ _ (typeOf (.ref g) >>= _) _ _ s
  refine wpAny_bind (wpAny_typeOf tg ?_)
  rw [if_neg (by decide), listSliceParts_eq]
  refine wpAny_bind (wpAny_bind (wpAny_field hog hgd (x := .none) rfl (wpAny_bind (wpAny_listPart .none ?_))))
  rw [if_neg (show ¬ (rawPart none == rawInt 0) = true from Bool.false_ne_true)]
  refine wpAny_bind (wpAny_field hog hgd (x := v1) rfl (wpAny_bind (wpAny_listPart p1 ?_)))
  refine wpAny_bind (wpAny_field hog hgd (x := v2) rfl (wpAny_bind (wpAny_listPart p2 (wpAny_pure ?_))))
  refine PySem.W.KFB.if_not hne ?_
  refine wpAny_bind (m := Builtin.List.listAllItems (.ref b) "must assign iterable to extended slice") ?_
  unfold Builtin.List.listAllItems
  refine wpAny_bind (wpAny_typeOf tb.typeIs ?_)
  refine PySem.W.KFB.if_so (by decide) ?_
  unfold Builtin.List.listItems
  refine wpAny_bind (wpAny_seqItems hvs rfl (wpAny_pure ?_))
  refine wpAny_bind (wpAny_bind (wpAny_seqItems hus rfl (wpAny_pure ?_)))
  refine wpAny_bind (wpAny_of_eq ((sliceIndices_raw lo hi none us.size (by simp)).trans (congrArg (pure : Int × Int × Int → Sem (Int × Int × Int)) hb)) ?_)
  show wpAny _ _ (if ((1 : Int) == 1) = true then _ else _) _ _ s
  rw [if_pos (by decide)]
  refine wpAny_bind (wpAny_rule ?_)
  refine PySem.W.KFB.if_not (notLongL hz) ?_
  try refine wpAny_bind (wpAny_pure ?_)
  show wpAny _ _ (updateSeq l (fun xs => xs.extract 0 ((a : Int)).toNat ++ vs ++ xs.extract (max (a : Int) (c : Int)).toNat xs.size) >>= _) _ _ s
  rw [mx, Int.toNat_natCast]
  refine wpAny_bind (wpAny_updateSeq (hz := Nat.le_trans (Nat.le_add_right _ _) hz) (_hz' := hz2) hus rfl ?_)
  refine wpAny_bind (wpAny_letGo ?_)
  first
    | exact wpAny_pure ⟨.none, rfl, wpAny_pure k⟩
    | exact wpAny_bind (wpAny_pure (wpAny_pure ⟨.none, rfl, wpAny_pure k⟩))
/-- what becomes of a list -/
def splV (xs ys : List V) (lo hi : Option Int) : List V := xs.take (PySem.W.kms_lo lo xs.length) ++ ys ++ xs.drop (max (PySem.W.kms_lo lo xs.length) (PySem.W.kms_hi hi xs.length))
@[irreducible] def mSetSl (o : V) (lo hi : Option Int) (v : V) (H : Hp) (Q : Hp → Prop) : Prop := ∃ l b xs ys, o = .ref l ∧ v = .ref b ∧ H l = some (.lst xs) ∧ H b = some (.lst ys) ∧ l ≠ b ∧ xs.length + ys.length ≤ 1000000 ∧ Q (upd H l (.lst (splV xs ys lo hi)))
theorem rd_setSl {l b : Addr} {xs ys : List V} {lo hi : Option Int} {H : Hp} {Q : Hp → Prop} (h1 : H l = some (.lst xs)) (h2 : H b = some (.lst ys)) (h3 : l ≠ b) (hz : xs.length + ys.length ≤ 1000000) (q : Q (upd H l (.lst (splV xs ys lo hi)))) : mSetSl (.ref l) lo hi (.ref b) H Q := by
  unfold mSetSl
  exact ⟨l, b, xs, ys, rfl, rfl, h1, h2, h3, hz, q⟩
def gSl (to : TE) (tl th : TO) : TG := fun v σ H Q => to σ H fun o H1 => tl σ H1 fun lo H2 => th σ H2 fun hi H3 => mSetSl o lo hi v H3 fun H4 => Q σ H4
theorem pg_sl {X : Cx} {o : Expr} {lo hi : Option Expr} {to : TE} {tl th : TO} {pos p2 : Pos} (ho : PE X o to) (hl : PO X lo tl) (hu : PO X hi th)
    (ha : ∀ v, assign (.Subscript o (.Slice lo hi none p2) pos) X.env v = (do
      let a ← holding [v] (eval o X.env)
      let b ← holding [v, a] (eval (.Slice lo hi none p2) X.env)
      standAt pos
      holding [v, a, b] (setItem a b v)
      release [b, v, a] []) := by intro _; rfl) : PG X (.Subscript o (.Slice lo hi none p2) pos) (gSl to tl th) := by
  refine ⟨fun pins s σ H v u Q I r h => ?_⟩
  rw [ha]
  refine wpAny_bind (wpAny_holding (thn (ho.run pins s σ H _ I h) fun ov s1 ⟨x, H1, I1, r1, q1⟩ => ?_))
  refine wpAny_bind (wpAny_holding (wpAny_Slice (thn (hl.run pins s1 σ H1 _ I1 q1) fun vl s2 ⟨lo', H2, I2, pl, q2⟩ => thn (hu.run pins s2 σ H2 _ I2 q2) fun vu s3 ⟨hi', H3, I3, pu, q3⟩ => ?_)))
  rw [evalPart_none]
  refine wpAny_pure ?_
  unfold mSetSl at q3
  obtain ⟨l, b, xs, ys, rfl, rfl, h1, h2, h3, hz, q⟩ := q3
  have I4 : Inv X pins σ H3 { s3 with heap := s3.heap.push { cls := .type "slice", data := .fields #[vl, vu, .none] } } := I3.kept (t' := s3.toks) fun b ob q => Heap.get?_push_of_some _ q
  cases r1
  cases r
  obtain ⟨z, its, n, rv, hl1, e1⟩ := I4.lstM h1
  obtain ⟨z2, its2, n2, rv2, hl2, e2⟩ := I4.lstM h2
  have hn1 : its.toArray.size = xs.length := by rw [List.size_toArray]; exact rv.length.symm
  have hn2 : its2.toArray.size = ys.length := by rw [List.size_toArray]; exact rv2.length.symm
  refine wpAny_bind (wpAny_standAt (wpAny_bind (wpAny_holding ?_)))
  refine setSl_at e1 e2 h3 (Heap.IsSliceOf.new ..) pl pu (by rw [hn1, hn2]; exact sz hz) ?_
  rw [hn1]
  refine wpAny_release ⟨σ, _, I4.lset (its' := its.take (PySem.W.kms_lo lo' xs.length) ++ its2 ++ its.drop (max (PySem.W.kms_lo lo' xs.length) (PySem.W.kms_hi hi' xs.length))) (t' := s3.toks) h1 e1 ?_ (Vals.append (Vals.append (rv.take _) rv2) (rv.drop _)) ?_, q⟩
  · exact spl_arr its its2 _ _
  · have e3 := List.length_take_le (PySem.W.kms_lo lo' xs.length) xs
    refine sz ?_
    rw [List.length_append, List.length_append, List.length_take, List.length_drop]
    omega
end
theorem splV_all (xs ys : List V) : splV xs ys none none = ys := by
  show xs.take 0 ++ ys ++ xs.drop (max 0 xs.length) = ys
  rw [Nat.zero_max, List.drop_length, List.take_zero, List.append_nil, List.nil_append]
theorem splV_to (xs ys : List V) {k : Int} (h : 0 ≤ k) : splV xs ys none (some k) = ys ++ xs.drop k.toNat := by
  have e : PySem.W.kms_hi (some k) xs.length = min k.toNat xs.length := by
    show (if k < 0 then _ else _) = _
    rw [if_neg (by omega)]
  show xs.take 0 ++ ys ++ xs.drop (max 0 (PySem.W.kms_hi (some k) xs.length)) = _
  rw [e, Nat.zero_max, List.take_zero, List.nil_append]
  by_cases h2 : k.toNat ≤ xs.length
  · rw [Nat.min_eq_left h2]
  · rw [Nat.min_eq_right (by omega), List.drop_length, List.drop_of_length_le (by omega)]
/-- objects that came with the last step join what stays -/
theorem Own.adopt2 {S B0 B H : Hp} {as : List Addr} {l : List (Addr × HO)} (w : Own S B0 as B l H) (ps : List Addr) (hp : ∀ p ∈ ps, S p = none ∧ H p ≠ none ∧ p ∉ l.map Prod.fst) : ∃ B', Same B B' ∧ (∀ p ∈ ps, B' p = H p) ∧ Own S B0 as B' l H := by
  have sb : Same B (fun b => if b ∈ ps then H b else B b) := fun b o h => by
    show (if b ∈ ps then H b else B b) = some o
    split
    · exact w.c.imm _ _ h
    · exact h
  refine ⟨fun b => if b ∈ ps then H b else B b, sb, fun p h => if_pos h, ⟨w.c.cell, w.c.nd, fun b u h => ?_, fun a u h => ?_⟩, w.kept, w.own, w.grow.trans sb, fun b h k => ?_, w.there⟩
  · have h2 : (if b ∈ ps then H b else B b) = some u := h
    split at h2
    · exact h2
    · exact w.c.imm _ _ h2
  · show (if a ∈ ps then H a else B a) = none
    rw [if_neg (fun z => (hp a z).2.2 (mem_fst h))]
    exact w.c.dis a u h
  · by_cases hb : b ∈ ps
    · exact (hp b hb).1
    · have k2 : (if b ∈ ps then H b else B b) ≠ none := k
      rw [if_neg hb] at k2
      exact w.new b h k2
/-- a list of copies: it is a cell, the copies stay -/
theorem Own.cpy {S B0 B H H' : Hp} {as : List Addr} {l : List (Addr × HO)} {D : Addr} {qs : List Addr} {xss : List (List Int)} (w : Own S B0 as B l H) (hD : H D = none) (c : Cpy H D qs xss H') :
    ∃ B', Same B B' ∧ LLs B' qs xss ∧ Own S B0 as B' ((D, .lst (qs.map V.ref)) :: l) H' := by
  have w1 := w.add hD c.sm c.at'
  obtain ⟨B', s, e, w2⟩ := w1.adopt2 qs fun p hp => by
    refine ⟨(w.frS (c.fr p hp).1).1, ?_, fun h => ?_⟩
    · obtain ⟨x, _, hx⟩ := c.ls.mem hp
      rw [hx]
      exact fun z => (nomatch z)
    · rcases List.mem_cons.mp h with h | h
      · exact (c.fr p hp).2 h
      · obtain ⟨o, h⟩ := fst_mem h
        exact w.notin (c.fr p hp).1 h
  exact ⟨B', s, c.ls.stay e, w2⟩
/-- a list of copies, all of it stays -/
theorem Own.cpyR {S B0 B H H' : Hp} {as : List Addr} {l : List (Addr × HO)} {D : Addr} {qs : List Addr} {xss : List (List Int)} (w : Own S B0 as B l H) (hD : H D = none) (c : Cpy H D qs xss H') :
    ∃ B', Same B B' ∧ LLs B' qs xss ∧ B' D = some (.lst (qs.map V.ref)) ∧ Own S B0 as B' l H' := by
  obtain ⟨B', s, h, w2⟩ := w.cpy hD c
  obtain ⟨B2, s2, e2, w3⟩ := w2.ice (w.frS hD).1
  exact ⟨B2, s.trans s2, h.mono s2, e2, w3⟩
/-- [e for x in xs], each element a value, the heap grown at most -/
theorem wl_vals {K : PySem.W.Frag} {j : Nat} {te : TE} {σ : L2.St} {H1 : Hp} {Q : VK} {a : Addr} (xs : List V) (f : Nat → V) (hx : SqL K H1 a xs) (hn : xs.length ≤ 100000)
    (ht : ∀ (i : Nat) (y : V), xs[i]? = some y → ∀ (H' : Hp) (R : VK), Same H1 H' → (∀ H'', Same H' H'' → R (f i) H'') → te ((wipe σ [j]).set j (some y)) H' R) (hq : NewO (.lst ((List.range xs.length).map f)) H1 Q) :
    LcWP (Itl K a) (gName j) tYes te [j] σ Q H1 := by
  refine wl_list xs hn fun D hD => ⟨fun i acc H' => acc = (List.range i).map f ∧ Same H1 H', ⟨rfl, same_upd hD⟩, fun i acc H' _ _ _ p => p.2.seq hx, fun i acc y H' hi ha h2 p => ?_, fun acc H' ha h2 p => ?_⟩
  · obtain ⟨rfl, p⟩ := p
    show _ ∧ _
    refine ⟨wipe_set rfl, ?_⟩
    show Br true _ _
    refine br_T (ht i y hi H' _ p fun H'' s => ⟨s _ _ h2, ?_, same_mut (p.trans s) hD⟩)
    rw [List.range_succ, List.map_append]
    rfl
  · obtain ⟨rfl, p⟩ := p
    exact hq D H' hD p h2
section
variable {X : Cx} {K : PySem.W.Frag}
theorem call_listK (h : X.K = K) : CallR X (.type "list") (mListOf K) := h ▸ call_listM
theorem sl_listK (h : X.K = K) : SlR X (mSlL K) := h ▸ sl_listM
theorem call_tupOfK (h : X.K = K) : CallR X (.type "tuple") (mTupOf K) := h ▸ call_tupOfM
end
theorem snocI (ns : List Int) (n : Int) : ns.map V.int ++ [V.int n] = (ns ++ [n]).map V.int := by
  rw [List.map_append]
  rfl
theorem snocR (ns : List Addr) (n : Addr) : ns.map V.ref ++ [V.ref n] = (ns ++ [n]).map V.ref := by
  rw [List.map_append]
  rfl
/-- a name is set: the frame as it stands then -/
theorem frG {i : Nat} {v : V} {σ σ' : L2.St} {H : Hp} {D : L2.St → Hp → Prop} (e : σ.set i (some v) = σ') (h : D σ' H) : gName i v σ H D := by
  subst e
  exact h
end My

namespace My
open PySem L2
/-! ### the text by places -/
def topS (i : Nat) : Stmt := PySem.Challenge.pw_bearerwise_k35_airs_keep_their_order.main.body.getD i (.Pass ⟨0, 0, 0, 0⟩)
abbrev S_Air___init__ : Stmt := inClass (topS 1) 0
abbrev S_Air_send : Stmt := inClass (topS 1) 1
abbrev S_Air_arrive : Stmt := inClass (topS 1) 2
abbrev S_Air_lose : Stmt := inClass (topS 1) 3
abbrev S_Air_double : Stmt := inClass (topS 1) 4
abbrev S_Air_pieces : Stmt := inClass (topS 1) 5
abbrev S_Air_stop : Stmt := inClass (topS 1) 6
abbrev S_u_law_cell : Stmt := topS 3
abbrev S_u_law_digits : Stmt := topS 4
abbrev S_u_law_many : Stmt := topS 5
abbrev S_u_law_act : Stmt := topS 6
abbrev S_law : Stmt := topS 7
theorem sc_Air___init__ : FnScope ["self"] ["self"] (defScope S_Air___init__) := ⟨rfl, rfl, rfl, by decide +kernel, rfl, by decide +kernel, by decide +kernel⟩
theorem sc_Air_send : FnScope ["self", "piece"] ["self", "piece"] (defScope S_Air_send) := ⟨rfl, rfl, rfl, by decide +kernel, rfl, by decide +kernel, by decide +kernel⟩
theorem sc_Air_arrive : FnScope ["self"] ["self"] (defScope S_Air_arrive) := ⟨rfl, rfl, rfl, by decide +kernel, rfl, by decide +kernel, by decide +kernel⟩
theorem sc_Air_lose : FnScope ["self"] ["self"] (defScope S_Air_lose) := ⟨rfl, rfl, rfl, by decide +kernel, rfl, by decide +kernel, by decide +kernel⟩
theorem sc_Air_double : FnScope ["self"] ["self"] (defScope S_Air_double) := ⟨rfl, rfl, rfl, by decide +kernel, rfl, by decide +kernel, by decide +kernel⟩
theorem sc_Air_pieces : FnScope ["self", "piece"] ["self"] (defScope S_Air_pieces) := ⟨rfl, rfl, rfl, by decide +kernel, rfl, by decide +kernel, by decide +kernel⟩
theorem sc_Air_stop : FnScope ["self"] ["self"] (defScope S_Air_stop) := ⟨rfl, rfl, rfl, by decide +kernel, rfl, by decide +kernel, by decide +kernel⟩
theorem sc_u_law_cell : FnScope ["script", "k"] ["script", "k"] (defScope S_u_law_cell) := ⟨rfl, rfl, rfl, by decide +kernel, rfl, by decide +kernel, by decide +kernel⟩
theorem sc_u_law_digits : FnScope ["cell", "bases", "digits", "rest", "base", "mixed"] ["cell", "bases"] (defScope S_u_law_digits) := ⟨rfl, rfl, rfl, by decide +kernel, rfl, by decide +kernel, by decide +kernel⟩
theorem sc_u_law_many : FnScope ["script", "few", "many"] ["script", "few", "many"] (defScope S_u_law_many) := ⟨rfl, rfl, rfl, by decide +kernel, rfl, by decide +kernel, by decide +kernel⟩
theorem sc_u_law_act : FnScope ["air", "model", "digits", "piece", "told", "first", "due", "k"] ["air", "model", "digits"] (defScope S_u_law_act) := ⟨rfl, rfl, rfl, by decide +kernel, rfl, by decide +kernel, by decide +kernel⟩
theorem sc_law : FnScope ["script", "air", "model", "k", "digits", "told", "piece"] ["script"] (defScope S_law) := ⟨rfl, rfl, rfl, by decide +kernel, rfl, by decide +kernel, by decide +kernel⟩
/-! ### what the top has written -/
structure Tx (P : Program) (w : World) (K : PySem.W.Frag) (mg : Str → Option Value) (base : Heap) where
  n_len : mg "len" = none
  n_range : mg "range" = none
  n_int : mg "int" = none
  n_min : mg "min" = none
  n_isinstance : mg "isinstance" = none
  n_list : mg "list" = none
  n_bool : mg "bool" = none
  C_Air : Addr
  g_Air : mg "Air" = some (.ref C_Air)
  a_Air___init__ : Addr
  d_Air___init__ : FuncData
  p_Air___init__ : MethAt K C_Air "__init__" "Air.__init__" S_Air___init__ ["self"] a_Air___init__ d_Air___init__
  a_Air_send : Addr
  d_Air_send : FuncData
  p_Air_send : MethAt K C_Air "send" "Air.send" S_Air_send ["self", "piece"] a_Air_send d_Air_send
  a_Air_arrive : Addr
  d_Air_arrive : FuncData
  p_Air_arrive : MethAt K C_Air "arrive" "Air.arrive" S_Air_arrive ["self"] a_Air_arrive d_Air_arrive
  a_Air_lose : Addr
  d_Air_lose : FuncData
  p_Air_lose : MethAt K C_Air "lose" "Air.lose" S_Air_lose ["self"] a_Air_lose d_Air_lose
  a_Air_double : Addr
  d_Air_double : FuncData
  p_Air_double : MethAt K C_Air "double" "Air.double" S_Air_double ["self"] a_Air_double d_Air_double
  a_Air_pieces : Addr
  d_Air_pieces : FuncData
  p_Air_pieces : MethAt K C_Air "pieces" "Air.pieces" S_Air_pieces ["self"] a_Air_pieces d_Air_pieces
  a_Air_stop : Addr
  d_Air_stop : FuncData
  p_Air_stop : MethAt K C_Air "stop" "Air.stop" S_Air_stop ["self"] a_Air_stop d_Air_stop
  a_u_law_cell : Addr
  d_u_law_cell : FuncData
  p_u_law_cell : DefAt K mg "_law_cell" "_law_cell" S_u_law_cell ["script", "k"] a_u_law_cell d_u_law_cell
  a_u_law_digits : Addr
  d_u_law_digits : FuncData
  p_u_law_digits : DefAt K mg "_law_digits" "_law_digits" S_u_law_digits ["cell", "bases"] a_u_law_digits d_u_law_digits
  a_u_law_many : Addr
  d_u_law_many : FuncData
  p_u_law_many : DefAt K mg "_law_many" "_law_many" S_u_law_many ["script", "few", "many"] a_u_law_many d_u_law_many
  a_u_law_act : Addr
  d_u_law_act : FuncData
  p_u_law_act : DefAt K mg "_law_act" "_law_act" S_u_law_act ["air", "model", "digits"] a_u_law_act d_u_law_act
  a_law : Addr
  d_law : FuncData
  p_law : DefAt K mg "law" "law" S_law ["script"] a_law d_law
  k_Air : ClsAt K C_Air a_Air___init__
  f_Air__pieces : NoAttr K C_Air "_pieces"
/-! ### the walk's own steps -/
local macro_rules | `(tactic| walk_at "side") => `(tactic| first
  | exact rfl
  | assumption
  | omega
  | decide
  | exact Nat.le_of_ble_eq_true rfl
  | exact ⟨by omega, by omega⟩
  | exact ⟨by omega, by omega, by omega⟩
  | exact Or.inl ⟨by omega, by omega⟩
  | exact Or.inr ⟨by omega, by omega⟩)
local macro_rules | `(tactic| walk_at "sm") => `(tactic| first
  | assumption
  | exact Same.refl _
  | (apply Own.imm; assumption)
  | (apply Own.same; assumption)
  | (refine Same.trans ?_ (by assumption); walk_at "sm")
  | (apply Same.trans; rotate_left; (apply Own.imm; assumption); walk_at "sm")
  | (apply Same.trans; rotate_left; (apply Own.same; assumption); walk_at "sm"))
local macro_rules | `(tactic| walk_at "mem") => `(tactic| first
  | exact List.Mem.head _
  | (apply List.Mem.tail; walk_at "mem"))
local macro_rules | `(tactic| walk_at "nn") => `(tactic| first
  | assumption
  | (refine same_none (?_ : Same _ _) (by assumption); walk_at "sm"))
local macro_rules | `(tactic| walk_at "hp") => `(tactic| first
  | assumption
  | (apply Own.mem; assumption; walk_at "mem")
  | (apply hp_step; assumption; walk_at "sm"))
local macro_rules | `(tactic| walk_at "sq") => `(tactic| first
  | assumption
  | (apply sq_of; assumption)
  | (apply st_of; assumption)
  | (apply sq_step; assumption; walk_at "sm")
  | (apply sqt_step; assumption; walk_at "sm")
  | (apply sq_of; walk_at "hp")
  | (apply st_of; walk_at "hp"))
local macro_rules | `(tactic| walk_at "rd") => `(tactic| first
  | refine ⟨_, rfl, ?_⟩
  | refine ⟨_, _, rfl, rfl, ?_⟩
  | refine Or.inl ⟨_, rfl, ?_⟩
  | refine Or.inr ⟨_, rfl, ?_⟩
  | refine ⟨_, _, _, rfl, ?_⟩
  | with_reducible refine br_nonI ?_
  | with_reducible refine br_nonR ?_
  | with_reducible refine br_nonN ?_
  | with_reducible refine br_xnonI ?_
  | with_reducible refine br_xnonR ?_
  | with_reducible refine br_xnonN ?_
  | refine And.intro (by walk_at "side") ?_
  | refine rd_tup ?_
  | refine rd_lst ?_
  | with_reducible refine br_F ?_
  | with_reducible refine br_T ?_
  | with_reducible refine br_nF ?_
  | with_reducible refine br_nT ?_
  | refine ⟨_, rfl, rfl, ?_⟩
  | with_reducible refine rd_yes ?_
  | refine rd_isiIB ?_
  | refine rd_isiII ?_
  | refine rd_getF (by walk_at "hp") rfl ?_
  | refine rd_ins (by walk_at "hp") rfl ?_
  | refine rd_din (by walk_at "hp") ?_
  | refine rd_dnotin (by walk_at "hp") ?_
  | refine rd_truB ?_
  | refine rd_truL (by walk_at "sq") ?_
  | refine rd_sum (by walk_at "sq") ?_
  | refine rd_lenI (by walk_at "sq") ?_
  | refine rd_len (by walk_at "sq") ?_
  | refine ⟨_, _, rfl, (show _ = some _ from by walk_at "hp"), ?_⟩)

section
variable {P : Program} {w : World} {K : PySem.W.Frag} {mg : Str → Option Value} {base : Heap}
def sp_u_law_cell (K : PySem.W.Frag) : Sp := fun vs H Q _ => ∃ (a : Addr) (ns : List Int) (k : Int), vs = [.ref a, .int k] ∧ SqL K H a (ns.map V.int) ∧ 0 ≤ k ∧ Q (.int (ns.getD k.toNat 0)) H
@[irreducible] def ip_u_law_cell (K : PySem.W.Frag) : Sp := sp_u_law_cell K
theorem op_u_law_cell {K : PySem.W.Frag} {vs : List V} {H : Hp} {Q : VK} {E : XK} (h : sp_u_law_cell K vs H Q E) : ip_u_law_cell K vs H Q E := by
  unfold ip_u_law_cell
  exact h
theorem un_u_law_cell {K : PySem.W.Frag} {vs : List V} {H : Hp} {Q : VK} {E : XK} (h : ip_u_law_cell K vs H Q E) : sp_u_law_cell K vs H Q E := by
  unfold ip_u_law_cell at h
  exact h
theorem ok_u_law_cell (T : Tx P w K mg base) : FnOk P w K mg base CX0 1 T.a_u_law_cell T.d_u_law_cell ["script", "k"] (ip_u_law_cell K) := by
  refine T.p_u_law_cell.F.ok sc_u_law_cell (fun vs H Q E h => ?_) (fun cdv A outer s H vs Q E hr h => ?_)
  · obtain ⟨a, ns, k, rfl, hS, hk, q⟩ := un_u_law_cell h
    rfl
  · obtain ⟨a, ns, k, rfl, hS, hk, q⟩ := un_u_law_cell h
    refine ⟨_, (pss_cons (ps_ifM (pt_cmpR op_ltM (pv 1) (pe_callB call_lenM (by rfl) T.n_len PySem.boot_len (pa_cons (pv 0) pa_nil)) (nomark _)) (pss_one (ps_ret (pe_callTy call_int1 (by rfl) T.n_int (by decide +kernel) (pa_cons (pe_ix ix_listM (pv 0) (pv 1) (fun _ _ => rfl)) pa_nil)))) pss_nil) (pss_one (ps_ret pe_int))), ?_⟩
    (repeat walk_at "rd")
    refine br_by (fun h => ?_) (fun h => ?_)
    · (repeat walk_at "rd")
      refine rd_ixI hS hk h ?_
      (repeat walk_at "rd")
      exact q
    · have e : ns.getD k.toNat 0 = 0 := by
        rw [List.getD_eq_getElem?_getD, List.getElem?_eq_none (by omega)]
        rfl
      rw [e] at q
      exact q
end
/-! digits within their bases -/
inductive DigOk : List Int → List Int → Prop where
  | nil : DigOk [] []
  | cons {b d : Int} {bs ds : List Int} (h0 : 0 ≤ d) (h1 : d < b) (h : DigOk bs ds) : DigOk (b :: bs) (d :: ds)
theorem DigOk.snoc {b d : Int} {bs ds : List Int} (h : DigOk bs ds) (h0 : 0 ≤ d) (h1 : d < b) : DigOk (bs ++ [b]) (ds ++ [d]) := by
  induction h with
  | nil => exact .cons h0 h1 .nil
  | cons a0 a1 _ ih => exact .cons a0 a1 ih
theorem DigOk.len {bs ds : List Int} (h : DigOk bs ds) : ds.length = bs.length := by
  induction h with
  | nil => rfl
  | cons _ _ _ ih => rw [List.length_cons, List.length_cons, ih]
theorem DigOk.un {b : Int} {bs ds : List Int} (h : DigOk (b :: bs) ds) : ∃ d r, ds = d :: r ∧ (0 ≤ d ∧ d < b) ∧ DigOk bs r := by
  cases h with
  | cons h0 h1 h => exact ⟨_, _, rfl, ⟨h0, h1⟩, h⟩
theorem DigOk.end {ds : List Int} (h : DigOk [] ds) : ds = [] := by
  cases h
  rfl
theorem dig4 {a b c d : Int} {ds : List Int} (h : DigOk [a, b, c, d] ds) : ∃ p q r s, ds = [p, q, r, s] ∧ (0 ≤ p ∧ p < a) ∧ (0 ≤ q ∧ q < b) ∧ (0 ≤ r ∧ r < c) ∧ (0 ≤ s ∧ s < d) := by
  obtain ⟨p, _, rfl, h1, h⟩ := h.un
  obtain ⟨q, _, rfl, h2, h⟩ := h.un
  obtain ⟨r, _, rfl, h3, h⟩ := h.un
  obtain ⟨s, _, rfl, h4, h⟩ := h.un
  have e := h.end
  subst e
  exact ⟨p, q, r, s, rfl, h1, h2, h3, h4⟩
theorem dig_take {bs : List Int} {i : Nat} {b : Int} (h : bs[i]? = some b) : bs.take (i + 1) = bs.take i ++ [b] := by
  rw [List.take_add_one, h]
  rfl
section
variable {P : Program} {w : World} {K : PySem.W.Frag} {mg : Str → Option Value} {base : Heap}
def sp_u_law_digits (K : PySem.W.Frag) : Sp := fun vs H Q _ => ∃ (c : Int) (b : Addr) (bs : List Int), vs = [.int c, .ref b] ∧ SqL K H b (bs.map V.int) ∧ (∀ x ∈ bs, 1 ≤ x ∧ x ≤ 1000000000000) ∧ bs.length ≤ 100 ∧ ∀ ds, DigOk bs ds → NewO (.lst (ds.map V.int)) H Q
structure DigW (H : Hp) (c : Int) (b p : Addr) (bs : List Int) (i : Nat) (σ : L2.St) (H' : Hp) : Prop where
  sm : Same H H'
  dg : ∃ ds, H' p = some (.lst (ds.map V.int)) ∧ DigOk (bs.take i) ds
  fr : ∃ r x y, σ = [some (.int c), some (.ref b), some (.ref p), some (.int r), x, y]
@[irreducible] def ip_u_law_digits (K : PySem.W.Frag) : Sp := sp_u_law_digits K
theorem op_u_law_digits {K : PySem.W.Frag} {vs : List V} {H : Hp} {Q : VK} {E : XK} (h : sp_u_law_digits K vs H Q E) : ip_u_law_digits K vs H Q E := by
  unfold ip_u_law_digits
  exact h
theorem un_u_law_digits {K : PySem.W.Frag} {vs : List V} {H : Hp} {Q : VK} {E : XK} (h : ip_u_law_digits K vs H Q E) : sp_u_law_digits K vs H Q E := by
  unfold ip_u_law_digits at h
  exact h
theorem ok_u_law_digits (T : Tx P w K mg base) : FnOk P w K mg base CX0 1 T.a_u_law_digits T.d_u_law_digits ["cell", "bases"] (ip_u_law_digits K) := by
  refine T.p_u_law_digits.F.ok sc_u_law_digits (fun vs H Q E h => ?_) (fun cdv A outer s H vs Q E hr h => ?_)
  · obtain ⟨c, b, bs, rfl, hS, hb, hl, q⟩ := un_u_law_digits h
    rfl
  · obtain ⟨c, b, bs, rfl, hS, hb, hl, q⟩ := un_u_law_digits h
    refine ⟨_, (pss_cons (ps_set (i := 2) sc_u_law_digits.nd rfl (Or.inl rfl) (pe_lstM pa_nil)) (pss_cons (ps_set (i := 3) sc_u_law_digits.nd rfl (Or.inl rfl) (pe_callTy call_int1 (by rfl) T.n_int (by decide +kernel) (pa_cons (pv 0) pa_nil))) (pss_cons (ps_forL PassesOwn.never rfl (pv 1) (pg_name (i := 4) sc_u_law_digits.nd rfl (Or.inl rfl)) (pss_one (ps_ifM (pt_cmpR op_geM (pv 0) (pe_op op_powM pe_int pe_int) (nomark _)) (pss_cons (ps_expr (pe_app (pv 2) (pe_op op_modM (pe_callTy call_int1 (by rfl) T.n_int (by decide +kernel) (pa_cons (pv 3) pa_nil)) (pv 4)))) (pss_one (ps_set (i := 3) sc_u_law_digits.nd rfl (Or.inl rfl) (pe_op op_fdivWM (pv 3) (pv 4))))) (pss_cons (ps_set (i := 3) sc_u_law_digits.nd rfl (Or.inl rfl) (pe_op op_modM (pe_op op_addM (pe_op op_addM (pe_op op_mulM (pe_callTy call_int1 (by rfl) T.n_int (by decide +kernel) (pa_cons (pv 3) pa_nil)) pe_int) (pe_op op_mulM pe_int (pe_callB call_lenM (by rfl) T.n_len PySem.boot_len (pa_cons (pv 2) pa_nil)))) pe_int) pe_int)) (pss_cons (ps_set (i := 5) sc_u_law_digits.nd rfl (Or.inl rfl) (pe_op op_modM (pe_op op_mulM (pe_callTy call_int1 (by rfl) T.n_int (by decide +kernel) (pa_cons (pv 3) pa_nil)) (pe_callTy call_int1 (by rfl) T.n_int (by decide +kernel) (pa_cons (pv 3) pa_nil))) pe_int)) (pss_one (ps_expr (pe_app (pv 2) (pe_op op_modM (pe_op op_fdivM (pe_callTy call_int1 (by rfl) T.n_int (by decide +kernel) (pa_cons (pv 5) pa_nil)) pe_int) (pv 4)))))))))) (pss_one (ps_ret (pv 2)))))), ?_⟩
    refine rd_lst ?_
    (repeat walk_at "rd")
    intro p H1 np s1 e1
    (repeat walk_at "rd")
    refine rd_forL ?_
    (repeat walk_at "rd")
    refine ⟨b, bs.map V.int, fun i σ H' => Stop (DigW H c b p bs i σ H'), rfl, (by walk_at "sq"), .a ⟨s1, ⟨[], e1, .nil⟩, _, _, _, rfl⟩, fun i σ' H' _ w => w.un.sm.seq hS, fun i y σ' H' hi w => ?_, fun σ' H' w => ?_⟩
    · obtain ⟨sm, ⟨ds, ed, hd⟩, r, x, z, rfl⟩ := w.un
      rw [List.getElem?_map] at hi
      obtain ⟨ba, hba, rfl⟩ := Option.map_eq_some_iff.mp hi
      have hb1 := hb ba (List.mem_of_getElem? hba)
      have hi2 : i < bs.length := (List.getElem?_eq_some_iff.mp hba).1
      have hdl : ds.length ≤ 100 := by
        rw [hd.len, List.length_take]
        omega
      (repeat walk_at "rd")
      refine br_by (fun h => ?_) (fun h => ?_)
      · (repeat walk_at "rd")
        refine rd_app ed (by rw [List.length_map]; omega) ?_
        (repeat walk_at "rd")
        refine ⟨wide_div (b := 64) (by omega) (by omega) (by decide) (by decide), ?_⟩
        refine .a ⟨same_mut sm np, ⟨ds ++ [r % ba], ?_, ?_⟩, _, _, _, rfl⟩
        · rw [upd_same, List.map_append]
          rfl
        · rw [dig_take hba]
          exact hd.snoc (Int.emod_nonneg _ (by omega)) (Int.emod_lt_of_pos _ (by omega))
      · (repeat walk_at "rd")
        refine rd_app ed (by rw [List.length_map]; omega) ?_
        refine .a ⟨same_mut sm np, ⟨ds ++ [?w], ?h1, ?h2⟩, ?r, ?x, ?y, ?h3⟩
        case h3 => rfl
        case h1 =>
          rw [upd_same, List.map_append]
          rfl
        case h2 =>
          rw [dig_take hba]
          exact hd.snoc (Int.emod_nonneg _ (by omega)) (Int.emod_lt_of_pos _ (by omega))
    · obtain ⟨sm, ⟨ds, ed, hd⟩, r, x, z, rfl⟩ := w.un
      (repeat walk_at "rd")
      rw [List.length_map, List.take_length] at hd
      exact q ds hd p H' np sm ed
end
/-! an air: its object, the list of its pieces -/
abbrev aircells (C p dx l : Addr) (qs : List Addr) : List (Addr × HO) := [(p, .ins C dx [("_pieces", .ref l)]), (l, .lst (qs.map V.ref))]
theorem Own.addR {S B0 B H H' : Hp} {as : List Addr} {l : List (Addr × HO)} {p : Addr} {o : HO} (w : Own S B0 as B l H) (n : H p = none) (s : Same H H') (e : H' p = some o) : Own S B0 as B (l ++ [(p, o)]) H' :=
  (w.add n s e).perm List.perm_append_comm
theorem Own.loose {S B0 B H H2 H3 : Hp} {as : List Addr} {l : List (Addr × HO)} (w : Own S B0 as B l H) (s : Same H H2) (ps : List Addr) (hp : ∀ p ∈ ps, H p = none) (k : ∀ b o, b ∉ ps → H2 b = some o → H3 b = some o) : Own S B0 as B l H3 := by
  have old : ∀ {b o}, H b = some o → H3 b = some o := fun {b o} h => k b o (fun z => by rw [hp b z] at h; cases h) (s _ _ h)
  refine ⟨⟨fun a u h => old (w.c.cell a u h), w.c.nd, fun b u h => old (w.c.imm b u h), w.c.dis⟩, fun b u hb h => old (w.kept b u hb h), w.own, w.grow, w.new, fun a h e => ?_⟩
  have h2 := w.there a h
  cases e2 : H a with
  | none => exact h2 e2
  | some u =>
    rw [old e2] at e
    cases e
section
variable {P : Program} {w : World} {K : PySem.W.Frag} {mg : Str → Option Value} {base : Heap}
def sp_Air___init__ (K : PySem.W.Frag) (C : Addr) : Sp := fun vs H Q _ => ∃ (p dx : Addr) (B : Hp), vs = [.ref p] ∧ Cells H B [(p, .ins C dx [])] ∧ ∀ (l : Addr) (H' : Hp), Own H B [p] B (aircells C p dx l []) H' → Q .non H'
@[irreducible] def ip_Air___init__ (K : PySem.W.Frag) (C : Addr) : Sp := sp_Air___init__ K C
theorem op_Air___init__ {K : PySem.W.Frag} {C : Addr} {vs : List V} {H : Hp} {Q : VK} {E : XK} (h : sp_Air___init__ K C vs H Q E) : ip_Air___init__ K C vs H Q E := by
  unfold ip_Air___init__
  exact h
theorem un_Air___init__ {K : PySem.W.Frag} {C : Addr} {vs : List V} {H : Hp} {Q : VK} {E : XK} (h : ip_Air___init__ K C vs H Q E) : sp_Air___init__ K C vs H Q E := by
  unfold ip_Air___init__ at h
  exact h
theorem ok_Air___init__ (T : Tx P w K mg base) : FnOk P w K mg base CX0 1 T.a_Air___init__ T.d_Air___init__ ["self"] (ip_Air___init__ K T.C_Air) := by
  refine T.p_Air___init__.F.ok sc_Air___init__ (fun vs H Q E h => ?_) (fun cdv A outer s H vs Q E hr h => ?_)
  · obtain ⟨p, dx, B, rfl, c, q⟩ := un_Air___init__ h
    rfl
  · obtain ⟨p, dx, B, rfl, c, q⟩ := un_Air___init__ h
    refine ⟨_, (pss_one (ps_fldM (pv 0) (pe_lstM pa_nil) T.k_Air.cl T.f_Air__pieces)), ?_⟩
    have w0 : Own H B [p] B [(p, .ins T.C_Air dx [])] H := c.start
    (repeat walk_at "rd")
    intro l H1 n1 s1 e1
    have w1 : Own H B [p] B [(p, .ins T.C_Air dx []), (l, .lst (([] : List Addr).map V.ref))] H1 := w0.addR n1 s1 e1
    (repeat walk_at "rd")
    refine rd_putF (w1.mem (.head _)) (by exact Nat.le_of_ble_eq_true rfl) rfl ?_
    have w2 : Own H B [p] B (aircells T.C_Air p dx l []) _ := w1.set 0 rfl (.ins T.C_Air dx [("_pieces", .ref l)])
    exact q l _ w2
def sp_Air_send (K : PySem.W.Frag) (C : Addr) : Sp := fun vs H Q _ => ∃ (p dx l : Addr) (qs : List Addr) (B : Hp) (a : Addr) (xs : List Int), vs = [.ref p, .ref a] ∧ Cells H B (aircells C p dx l qs) ∧ SqL K H a (xs.map V.int) ∧ qs.length ≤ 100000 ∧
  ∀ (B' H' : Hp) (c : Addr), Own H B [p, l] B' (aircells C p dx l (qs ++ [c])) H' → B' c = some (.lst (xs.map V.int)) → Q .non H'
@[irreducible] def ip_Air_send (K : PySem.W.Frag) (C : Addr) : Sp := sp_Air_send K C
theorem op_Air_send {K : PySem.W.Frag} {C : Addr} {vs : List V} {H : Hp} {Q : VK} {E : XK} (h : sp_Air_send K C vs H Q E) : ip_Air_send K C vs H Q E := by
  unfold ip_Air_send
  exact h
theorem un_Air_send {K : PySem.W.Frag} {C : Addr} {vs : List V} {H : Hp} {Q : VK} {E : XK} (h : ip_Air_send K C vs H Q E) : sp_Air_send K C vs H Q E := by
  unfold ip_Air_send at h
  exact h
theorem ok_Air_send (T : Tx P w K mg base) : FnOk P w K mg base CX0 1 T.a_Air_send T.d_Air_send ["self", "piece"] (ip_Air_send K T.C_Air) := by
  refine T.p_Air_send.F.ok sc_Air_send (fun vs H Q E h => ?_) (fun cdv A outer s H vs Q E hr h => ?_)
  · obtain ⟨p, dx, l, qs, B, a, xs, rfl, c, hx, hn, q⟩ := un_Air_send h
    rfl
  · obtain ⟨p, dx, l, qs, B, a, xs, rfl, c, hx, hn, q⟩ := un_Air_send h
    refine ⟨_, (pss_one (ps_expr (pe_app (pe_fldM (pv 0) T.k_Air.cl T.f_Air__pieces) (pe_callTy call_listM (by rfl) T.n_list (by decide +kernel) (pa_cons (pv 1) pa_nil))))), ?_⟩
    have w0 : Own H B [p, l] B (aircells T.C_Air p dx l qs) H := c.start
    have hp := w0.mem (.head _)
    have hl := w0.mem (p := l) (.tail _ (.head _))
    (repeat walk_at "rd")
    refine rd_list (by walk_at "sq") ?_
    intro b H1 n1 s1 e1
    obtain ⟨B1, sB1, hB1, _, w1⟩ := w0.ro n1 s1 e1
    refine rd_app (w1.mem (.tail _ (.head _))) (by rw [List.length_map]; omega) ?_
    have w2 : Own H B [p, l] B1 (aircells T.C_Air p dx l (qs ++ [b])) _ := w1.set 1 rfl (.lst ((qs ++ [b]).map V.ref))
    rw [snocR]
    exact q B1 _ b w2 hB1
def sp_Air_arrive (K : PySem.W.Frag) (C : Addr) : Sp := fun vs H Q _ => ∃ (p dx l : Addr) (qs : List Addr) (B : Hp), vs = [.ref p] ∧ Cells H B (aircells C p dx l qs) ∧ (qs = [] → Q .non H) ∧
  ∀ (c : Addr) (r : List Addr), qs = c :: r → ∀ H', Own H B [p, l] B (aircells C p dx l r) H' → Q (.ref c) H'
@[irreducible] def ip_Air_arrive (K : PySem.W.Frag) (C : Addr) : Sp := sp_Air_arrive K C
theorem op_Air_arrive {K : PySem.W.Frag} {C : Addr} {vs : List V} {H : Hp} {Q : VK} {E : XK} (h : sp_Air_arrive K C vs H Q E) : ip_Air_arrive K C vs H Q E := by
  unfold ip_Air_arrive
  exact h
theorem un_Air_arrive {K : PySem.W.Frag} {C : Addr} {vs : List V} {H : Hp} {Q : VK} {E : XK} (h : ip_Air_arrive K C vs H Q E) : sp_Air_arrive K C vs H Q E := by
  unfold ip_Air_arrive at h
  exact h
theorem ok_Air_arrive (T : Tx P w K mg base) : FnOk P w K mg base CX0 1 T.a_Air_arrive T.d_Air_arrive ["self"] (ip_Air_arrive K T.C_Air) := by
  refine T.p_Air_arrive.F.ok sc_Air_arrive (fun vs H Q E h => ?_) (fun cdv A outer s H vs Q E hr h => ?_)
  · obtain ⟨p, dx, l, qs, B, rfl, c, q1, q2⟩ := un_Air_arrive h
    rfl
  · obtain ⟨p, dx, l, qs, B, rfl, c, q1, q2⟩ := un_Air_arrive h
    refine ⟨_, (pss_one (ps_ret (pe_ifM (pt_truthM (pe_fldM (pv 0) T.k_Air.cl T.f_Air__pieces) (by intro _; rfl)) (pe_pop (pe_fldM (pv 0) T.k_Air.cl T.f_Air__pieces) pe_int) pe_non))), ?_⟩
    have w0 : Own H B [p, l] B (aircells T.C_Air p dx l qs) H := c.start
    have hp := w0.mem (.head _)
    have hl := w0.mem (p := l) (.tail _ (.head _))
    (repeat walk_at "rd")
    cases qs with
    | nil =>
      refine br_F ?_
      exact q1 rfl
    | cons x r =>
      refine br_T ?_
      (repeat walk_at "rd")
      refine rd_pop0 hl ?_
      exact q2 x r rfl _ (w0.set 1 rfl (.lst (r.map V.ref)))
def sp_Air_lose (K : PySem.W.Frag) (C : Addr) : Sp := fun vs H Q _ => ∃ (p dx l : Addr) (qs : List Addr) (B : Hp), vs = [.ref p] ∧ Cells H B (aircells C p dx l qs) ∧ (qs = [] → Q (.bl false) H) ∧
  ∀ (c : Addr) (r : List Addr), qs = c :: r → ∀ H', Own H B [p, l] B (aircells C p dx l r) H' → Q (.bl true) H'
@[irreducible] def ip_Air_lose (K : PySem.W.Frag) (C : Addr) : Sp := sp_Air_lose K C
theorem op_Air_lose {K : PySem.W.Frag} {C : Addr} {vs : List V} {H : Hp} {Q : VK} {E : XK} (h : sp_Air_lose K C vs H Q E) : ip_Air_lose K C vs H Q E := by
  unfold ip_Air_lose
  exact h
theorem un_Air_lose {K : PySem.W.Frag} {C : Addr} {vs : List V} {H : Hp} {Q : VK} {E : XK} (h : ip_Air_lose K C vs H Q E) : sp_Air_lose K C vs H Q E := by
  unfold ip_Air_lose at h
  exact h
theorem ok_Air_lose (T : Tx P w K mg base) : FnOk P w K mg base CX0 2 T.a_Air_lose T.d_Air_lose ["self"] (ip_Air_lose K T.C_Air) := by
  have G_Air_arrive := ok_Air_arrive T
  refine T.p_Air_lose.F.ok sc_Air_lose (fun vs H Q E h => ?_) (fun cdv A outer s H vs Q E hr h => ?_)
  · obtain ⟨p, dx, l, qs, B, rfl, c, q1, q2⟩ := un_Air_lose h
    rfl
  · obtain ⟨p, dx, l, qs, B, rfl, c, q1, q2⟩ := un_Air_lose h
    refine ⟨_, (pss_one (ps_ret (pe_cmpR op_notN (meth_weak (pe_meth0 (pe_c (pv 0)) T.k_Air.cl T.p_Air_arrive.me G_Air_arrive (hr.mono (by decide)) T.p_Air_arrive.b .nil pass0)) pe_non (nomark _)))), ?_⟩
    have w0 : Own H B [p, l] B (aircells T.C_Air p dx l qs) H := c.start
    have hp := w0.mem (.head _)
    (repeat walk_at "rd")
    refine op_Air_arrive ⟨p, dx, l, qs, B, rfl, c, fun e => ?_, fun x r e H' w => ?_⟩
    · refine ⟨rfl, ?_⟩
      exact q1 e
    · refine ⟨rfl, ?_⟩
      exact q2 x r e H' w
def sp_Air_double (K : PySem.W.Frag) (C : Addr) : Sp := fun vs H Q _ => ∃ (p dx l : Addr) (qs : List Addr) (xss : List (List Int)) (B : Hp), vs = [.ref p] ∧ Cells H B (aircells C p dx l qs) ∧ LLs B qs xss ∧ qs.length ≤ 100000 ∧ (qs = [] → Q (.bl false) H) ∧
  ∀ (c : Addr) (r : List Addr) (x : List Int) (xr : List (List Int)), qs = c :: r → xss = x :: xr → ∀ (B' H' : Hp) (c2 : Addr), Own H B [p, l] B' (aircells C p dx l (c :: c2 :: r)) H' → B' c2 = some (.lst (x.map V.int)) → Q (.bl true) H'
@[irreducible] def ip_Air_double (K : PySem.W.Frag) (C : Addr) : Sp := sp_Air_double K C
theorem op_Air_double {K : PySem.W.Frag} {C : Addr} {vs : List V} {H : Hp} {Q : VK} {E : XK} (h : sp_Air_double K C vs H Q E) : ip_Air_double K C vs H Q E := by
  unfold ip_Air_double
  exact h
theorem un_Air_double {K : PySem.W.Frag} {C : Addr} {vs : List V} {H : Hp} {Q : VK} {E : XK} (h : ip_Air_double K C vs H Q E) : sp_Air_double K C vs H Q E := by
  unfold ip_Air_double at h
  exact h
theorem ok_Air_double (T : Tx P w K mg base) : FnOk P w K mg base CX0 1 T.a_Air_double T.d_Air_double ["self"] (ip_Air_double K T.C_Air) := by
  refine T.p_Air_double.F.ok sc_Air_double (fun vs H Q E h => ?_) (fun cdv A outer s H vs Q E hr h => ?_)
  · obtain ⟨p, dx, l, qs, xss, B, rfl, c, hq, hn, q1, q2⟩ := un_Air_double h
    rfl
  · obtain ⟨p, dx, l, qs, xss, B, rfl, c, hq, hn, q1, q2⟩ := un_Air_double h
    refine ⟨_, (pss_cons (ps_ifM (pt_not (pt_truthM (pe_fldM (pv 0) T.k_Air.cl T.f_Air__pieces) (by intro _; rfl))) (pss_one (ps_ret pe_bl)) pss_nil) (pss_cons (ps_expr (pe_insert (pe_fldM (pv 0) T.k_Air.cl T.f_Air__pieces) pe_int (pe_callTy call_listM (by rfl) T.n_list (by decide +kernel) (pa_cons (pe_ix ix_listM (pe_fldM (pv 0) T.k_Air.cl T.f_Air__pieces) pe_int (fun _ _ => rfl)) pa_nil)))) (pss_one (ps_ret pe_bl)))), ?_⟩
    have w0 : Own H B [p, l] B (aircells T.C_Air p dx l qs) H := c.start
    have hp := w0.mem (.head _)
    have hl := w0.mem (p := l) (.tail _ (.head _))
    (repeat walk_at "rd")
    cases hq with
    | nil =>
      refine br_T ?_
      exact q1 rfl
    | @cons y r x xr h t =>
      refine br_F ?_
      (repeat walk_at "rd")
      refine rd_ixL (sq_of hl) (at_of (j := 0) (by decide) rfl) ?_
      (repeat walk_at "rd")
      refine rd_list (sq_of (w0.imm _ _ h)) ?_
      intro b H1 n1 s1 e1
      obtain ⟨B1, sB1, hB1, _, w1⟩ := w0.ro n1 s1 e1
      (repeat walk_at "rd")
      refine rd_insert (w1.mem (.tail _ (.head _))) (by rw [List.length_map]; have := hn; omega) (by decide) (by decide) ?_
      have w2 : Own H B [p, l] B1 (aircells T.C_Air p dx l (y :: b :: r)) _ := w1.set 1 rfl (.lst ((y :: b :: r).map V.ref))
      (repeat walk_at "rd")
      exact q2 y r x xr rfl rfl B1 _ b w2 hB1
def sp_Air_pieces (K : PySem.W.Frag) (C : Addr) : Sp := fun vs H Q _ => ∃ (p dx l : Addr) (qs : List Addr) (xss : List (List Int)), vs = [.ref p] ∧ H p = some (.ins C dx [("_pieces", .ref l)]) ∧ H l = some (.lst (qs.map V.ref)) ∧ LLs H qs xss ∧ qs.length ≤ 100000 ∧
  ∀ (D : Addr) (ms : List Addr) (H' : Hp), H D = none → Cpy H D ms xss H' → Q (.ref D) H'
@[irreducible] def ip_Air_pieces (K : PySem.W.Frag) (C : Addr) : Sp := sp_Air_pieces K C
theorem op_Air_pieces {K : PySem.W.Frag} {C : Addr} {vs : List V} {H : Hp} {Q : VK} {E : XK} (h : sp_Air_pieces K C vs H Q E) : ip_Air_pieces K C vs H Q E := by
  unfold ip_Air_pieces
  exact h
theorem un_Air_pieces {K : PySem.W.Frag} {C : Addr} {vs : List V} {H : Hp} {Q : VK} {E : XK} (h : ip_Air_pieces K C vs H Q E) : sp_Air_pieces K C vs H Q E := by
  unfold ip_Air_pieces at h
  exact h
theorem ok_Air_pieces (T : Tx P w K mg base) : FnOk P w K mg base CX0 1 T.a_Air_pieces T.d_Air_pieces ["self"] (ip_Air_pieces K T.C_Air) := by
  refine T.p_Air_pieces.F.ok sc_Air_pieces (fun vs H Q E h => ?_) (fun cdv A outer s H vs Q E hr h => ?_)
  · obtain ⟨p, dx, l, qs, xss, rfl, hp, hl, hq, hn, q⟩ := un_Air_pieces h
    rfl
  · obtain ⟨p, dx, l, qs, xss, rfl, hp, hl, hq, hn, q⟩ := un_Air_pieces h
    refine ⟨_, (pss_one (ps_ret (pe_lcW (own := [("piece", 1)]) (g := (gName 1)) [1] im_list rfl sc_Air_pieces.nd (pi_list (pe_c (pe_fldM (pv 0) T.k_Air.cl T.f_Air__pieces))) (blkOk_by (own := [("piece", 1)]) (N := ["self", "piece"]) (sc := defScope S_Air_pieces) (by decide +kernel)) (fun _ _ _ _ _ => (pg_name (i := 1) sc_Air_pieces.nd rfl (Or.inl rfl))) (fun _ _ _ _ _ => pts_nil) (fun _ _ _ _ _ => (pe_callTy (call_listK (K := K) rfl) (by rfl) T.n_list (by decide +kernel) (pa_cons (pv 1) pa_nil)))))), ?_⟩
    refine rd_lcW ?_
    (repeat walk_at "rd")
    refine ⟨⟨_, sq_of hl⟩, ?_⟩
    refine wl_copy _ xss (sq_of hl) (by rw [List.length_map]; exact hq.len) (by rw [List.length_map]; omega) (fun j y xl hy hx H' R s k => ?_) (fun D ms H7 hD cp => ?_)
    · rw [List.getElem?_map] at hy
      obtain ⟨c, hc, rfl⟩ := Option.map_eq_some_iff.mp hy
      obtain ⟨x', hx', hp2⟩ := hq.at hc
      obtain rfl := Option.some.inj (hx.symm.trans hx')
      (repeat walk_at "rd")
      refine rd_list (sq_of (s _ _ hp2)) ?_
      exact k
    exact q D ms H7 hD cp
def sp_Air_stop (K : PySem.W.Frag) (C : Addr) : Sp := fun vs H Q _ => ∃ (p dx l : Addr) (qs : List Addr) (B : Hp), vs = [.ref p] ∧ Cells H B (aircells C p dx l qs) ∧ ∀ (l' : Addr) (H' : Hp), Own H B [p, l] B (aircells C p dx l' []) H' → Q .non H'
@[irreducible] def ip_Air_stop (K : PySem.W.Frag) (C : Addr) : Sp := sp_Air_stop K C
theorem op_Air_stop {K : PySem.W.Frag} {C : Addr} {vs : List V} {H : Hp} {Q : VK} {E : XK} (h : sp_Air_stop K C vs H Q E) : ip_Air_stop K C vs H Q E := by
  unfold ip_Air_stop
  exact h
theorem un_Air_stop {K : PySem.W.Frag} {C : Addr} {vs : List V} {H : Hp} {Q : VK} {E : XK} (h : ip_Air_stop K C vs H Q E) : sp_Air_stop K C vs H Q E := by
  unfold ip_Air_stop at h
  exact h
theorem ok_Air_stop (T : Tx P w K mg base) : FnOk P w K mg base CX0 1 T.a_Air_stop T.d_Air_stop ["self"] (ip_Air_stop K T.C_Air) := by
  refine T.p_Air_stop.F.ok sc_Air_stop (fun vs H Q E h => ?_) (fun cdv A outer s H vs Q E hr h => ?_)
  · obtain ⟨p, dx, l, qs, B, rfl, c, q⟩ := un_Air_stop h
    rfl
  · obtain ⟨p, dx, l, qs, B, rfl, c, q⟩ := un_Air_stop h
    refine ⟨_, (pss_one (ps_fldM (pv 0) (pe_lstM pa_nil) T.k_Air.cl T.f_Air__pieces)), ?_⟩
    have w0 : Own H B [p, l] B (aircells T.C_Air p dx l qs) H := c.start
    (repeat walk_at "rd")
    intro b H1 n1 s1 e1
    have w1 : Own H B [p, l] B [(p, .ins T.C_Air dx [("_pieces", .ref l)]), (l, .lst (qs.map V.ref)), (b, .lst (([] : List Addr).map V.ref))] H1 := w0.addR n1 s1 e1
    (repeat walk_at "rd")
    refine rd_putF (w1.mem (.head _)) (by exact Nat.le_of_ble_eq_true rfl) rfl ?_
    have w2 : Own H B [p, l] B [(p, .ins T.C_Air dx [("_pieces", .ref b)]), (l, .lst (qs.map V.ref)), (b, .lst (([] : List Addr).map V.ref))] _ := w1.set 0 rfl (.ins T.C_Air dx [("_pieces", .ref b)])
    refine q b _ (w2.sub (fun c h => ?_) ?_)
    · rcases List.mem_cons.mp h with h | h
      · exact h ▸ .head _
      · exact List.mem_singleton.mp h ▸ .tail _ (.tail _ (.head _))
    · have nd := w2.c.nd
      have h1 := List.nodup_cons.mp nd
      exact List.nodup_cons.mpr ⟨fun z => h1.1 (.tail _ z), (List.nodup_cons.mp h1.2).2⟩
def sp_u_law_many (K : PySem.W.Frag) : Sp := fun vs H Q _ => ∃ (a : Addr) (ns : List Int) (x y : Int), vs = [.ref a, .int x, .int y] ∧ SqL K H a (ns.map V.int) ∧ ∀ z : Int, z = x ∨ z = y → Q (.int z) H
@[irreducible] def ip_u_law_many (K : PySem.W.Frag) : Sp := sp_u_law_many K
theorem op_u_law_many {K : PySem.W.Frag} {vs : List V} {H : Hp} {Q : VK} {E : XK} (h : sp_u_law_many K vs H Q E) : ip_u_law_many K vs H Q E := by
  unfold ip_u_law_many
  exact h
theorem un_u_law_many {K : PySem.W.Frag} {vs : List V} {H : Hp} {Q : VK} {E : XK} (h : ip_u_law_many K vs H Q E) : sp_u_law_many K vs H Q E := by
  unfold ip_u_law_many at h
  exact h
theorem ok_u_law_many (T : Tx P w K mg base) : FnOk P w K mg base CX0 1 T.a_u_law_many T.d_u_law_many ["script", "few", "many"] (ip_u_law_many K) := by
  refine T.p_u_law_many.F.ok sc_u_law_many (fun vs H Q E h => ?_) (fun cdv A outer s H vs Q E hr h => ?_)
  · obtain ⟨a, ns, x, y, rfl, hS, q⟩ := un_u_law_many h
    rfl
  · obtain ⟨a, ns, x, y, rfl, hS, q⟩ := un_u_law_many h
    refine ⟨_, (pss_cons (ps_ifM (PW.pt (pw_andM (pt_cmpR op_gtM (pe_callB call_lenM (by rfl) T.n_len PySem.boot_len (pa_cons (pv 0) pa_nil)) pe_int (nomark _)) (pw_and1 (pt_cmpR op_eq (pe_op op_modM (pe_op op_fdivM (pe_callTy call_int1 (by rfl) T.n_int (by decide +kernel) (pa_cons (pe_ix ix_listM (pv 0) pe_int (fun _ _ => rfl)) pa_nil)) pe_int) pe_int) pe_int (nomark _))))) (pss_one (ps_ret (pv 2))) pss_nil) (pss_one (ps_ret (pv 1)))), ?_⟩
    (repeat walk_at "rd")
    refine br_by (fun h => ?_) (fun h => ?_)
    · (repeat walk_at "rd")
      refine rd_ixI hS (by decide) (by omega) ?_
      (repeat walk_at "rd")
      refine br_eby (fun h => ?_) (fun h => ?_)
      · (repeat walk_at "rd")
        exact q _ (.inr rfl)
      · (repeat walk_at "rd")
        exact q _ (.inl rfl)
    · (repeat walk_at "rd")
      exact q _ (.inl rfl)
end
abbrev c35 (C p dx l m : Addr) (qs ms : List Addr) : List (Addr × HO) := aircells C p dx l qs ++ [(m, .lst (ms.map V.ref))]
theorem rd_isiL {K : PySem.W.Frag} {H : Hp} {Q : VK} {a : Addr} {xs : List V} (e : H a = some (.lst xs)) (h : Q (.bl true) H) : mIsi K [.ref a, .ty "list"] H Q := rd_isiLL e h
theorem own_of {H B : Hp} {l : List (Addr × HO)} {as : List Addr} (c : Cells H B l) (h : l.map Prod.fst = as) : Own H B as B l H := h ▸ c.start
theorem Own.dropR {S B0 B H : Hp} {as : List Addr} {l : List (Addr × HO)} {c : Addr × HO} (w : Own S B0 as B (l ++ [c]) H) : Own S B0 as B l H :=
  w.sub (fun _ h => List.mem_append_left _ h) (by
    have nd := w.c.nd
    rw [List.map_append] at nd
    exact (List.nodup_append.mp nd).1)
theorem LLs.nil_of {H : Hp} {xss : List (List Int)} (h : LLs H [] xss) : xss = [] := by
  cases h
  rfl
theorem LLs.nil_of' {H : Hp} {ps : List Addr} (h : LLs H ps []) : ps = [] := by
  cases h
  rfl
theorem LLs.un {H : Hp} {p : Addr} {ps : List Addr} {xss : List (List Int)} (h : LLs H (p :: ps) xss) : ∃ x r, xss = x :: r ∧ H p = some (.lst (x.map V.int)) ∧ LLs H ps r := by
  cases h with
  | cons h t => exact ⟨_, _, rfl, h, t⟩
theorem LLs.un' {H : Hp} {ps : List Addr} {x : List Int} {r : List (List Int)} (h : LLs H ps (x :: r)) : ∃ p ps', ps = p :: ps' ∧ H p = some (.lst (x.map V.int)) ∧ LLs H ps' r := by
  cases h with
  | cons h t => exact ⟨_, _, rfl, h, t⟩
section
variable {P : Program} {w : World} {K : PySem.W.Frag} {mg : Str → Option Value} {base : Heap}
def sp_u_law_act (K : PySem.W.Frag) (C : Addr) : Sp := fun vs H Q _ => ∃ (p dx l : Addr) (qs : List Addr) (m : Addr) (ms : List Addr) (xss : List (List Int)) (B : Hp) (d : Addr) (d0 d1 d2 d3 : Int), vs = [.ref p, .ref m, .ref d] ∧ Cells H B (c35 C p dx l m qs ms) ∧ LLs B qs xss ∧ LLs B ms xss ∧ B d = some (.lst ([d0, d1, d2, d3].map V.int)) ∧
  (0 ≤ d0 ∧ d0 < 9) ∧ (0 ≤ d1 ∧ d1 < 256) ∧ (0 ≤ d2 ∧ d2 < 6) ∧ (qs.length ≤ 1000 ∧ ∀ x ∈ xss, x.length ≤ 10) ∧
  ∀ (B' H' : Hp) (l' : Addr) (qs' ms' : List Addr) (xss' : List (List Int)), Own H B [p, l, m] B' (c35 C p dx l' m qs' ms') H' → LLs B' qs' xss' → LLs B' ms' xss' → qs'.length ≤ qs.length + 1 → (∀ x ∈ xss', x.length ≤ 10) → Q (.bl true) H'
@[irreducible] def ip_u_law_act (K : PySem.W.Frag) (C : Addr) : Sp := sp_u_law_act K C
theorem op_u_law_act {K : PySem.W.Frag} {C : Addr} {vs : List V} {H : Hp} {Q : VK} {E : XK} (h : sp_u_law_act K C vs H Q E) : ip_u_law_act K C vs H Q E := by
  unfold ip_u_law_act
  exact h
theorem un_u_law_act {K : PySem.W.Frag} {C : Addr} {vs : List V} {H : Hp} {Q : VK} {E : XK} (h : ip_u_law_act K C vs H Q E) : sp_u_law_act K C vs H Q E := by
  unfold ip_u_law_act at h
  exact h
theorem ok_u_law_act (T : Tx P w K mg base) : FnOk P w K mg base CX0 3 T.a_u_law_act T.d_u_law_act ["air", "model", "digits"] (ip_u_law_act K T.C_Air) := by
  have G_Air_send := ok_Air_send T
  have G_Air_arrive := ok_Air_arrive T
  have G_Air_lose := ok_Air_lose T
  have G_Air_double := ok_Air_double T
  have G_Air_stop := ok_Air_stop T
  refine T.p_u_law_act.F.ok sc_u_law_act (fun vs H Q E h => ?_) (fun cdv A outer s H vs Q E hr h => ?_)
  · obtain ⟨p, dx, l, qs, m, ms, xss, B, d, d0, d1, d2, d3, rfl, c, hq, hm, hD, hd0, hd1, hd2, hn, q⟩ := un_u_law_act h
    rfl
  · obtain ⟨p, dx, l, qs, m, ms, xss, B, d, d0, d1, d2, d3, rfl, c, hq, hm, hD, hd0, hd1, hd2, hn, q⟩ := un_u_law_act h
    refine ⟨_, (pss_cons (ps_ifM (pt_cmpR op_ltM (pe_ix ix_listM (pv 2) pe_int (fun _ _ => rfl)) pe_int (nomark _)) (pss_cons (ps_setLcR1 (i := 3) rfl sc_u_law_act.nd rfl rfl (sw_true rfl rfl rfl (by decide +kernel)) rfl T.n_range (pa_cons (pe_ix ix_listM (pv 2) pe_int (fun _ _ => rfl)) pa_nil) (blkOk_by (own := [("k", 7)]) (N := ["air", "model", "digits", "piece", "told", "first", "due", "k"]) (sc := defScope S_u_law_act) (by decide +kernel)) (fun _ _ _ _ _ => (pg_name (i := 7) sc_u_law_act.nd rfl (Or.inl rfl))) (fun _ _ _ _ _ => (pe_op op_modM (pe_op op_addM (pe_ix (ix_listK (K := K) rfl) (pv 2) pe_int (fun _ _ => rfl)) (pv 7)) pe_int))) (pss_cons (ps_expr (pe_app (pv 1) (pe_callTy call_listM (by rfl) T.n_list (by decide +kernel) (pa_cons (pv 3) pa_nil)))) (pss_cons (ps_expr (meth_weak (pe_meth (pe_c (pv 0)) T.k_Air.cl T.p_Air_send.me G_Air_send (hr.mono (by decide)) T.p_Air_send.b .nil pass0 (pa_cons (pv 3) pa_nil)))) (pss_cons (ps_expr (pe_app (pv 3) pe_int)) (pss_one (ps_ret pe_bl)))))) pss_nil) (pss_cons (ps_ifM (pt_cmpR op_ltM (pe_ix ix_listM (pv 2) pe_int (fun _ _ => rfl)) pe_int (nomark _)) (pss_cons (ps_set (i := 4) sc_u_law_act.nd rfl (Or.inl rfl) (meth_weak (pe_meth0 (pe_c (pv 0)) T.k_Air.cl T.p_Air_arrive.me G_Air_arrive (hr.mono (by decide)) T.p_Air_arrive.b .nil pass0))) (pss_cons (ps_ifM (pt_cmpR (op_eqDM hr.units) (pv 1) (pe_lstM pa_nil) (nomark _)) (pss_one (ps_ret (pe_cmpR op_isN (pv 4) pe_non (nomark _)))) pss_nil) (pss_cons (ps_set (i := 5) sc_u_law_act.nd rfl (Or.inl rfl) (pe_ix ix_listM (pv 1) pe_int (fun _ _ => rfl))) (pss_cons (ps_expr (pe_pop (pv 1) pe_int)) (pss_one (ps_ret (pe_andM (pe_callB call_isiM (by rfl) T.n_isinstance (by decide +kernel) (pa_cons (pv 4) (pa_cons (pe_bltn (v := .ty "list") rfl T.n_list (by decide +kernel) rfl) pa_nil))) (pe_one (pe_cmpR (op_eqDM hr.units) (pv 4) (pv 5) (nomark _)))))))))) pss_nil) (pss_cons (ps_ifM (pt_cmpR op_eq (pe_ix ix_listM (pv 2) pe_int (fun _ _ => rfl)) pe_int (nomark _)) (pss_cons (ps_set (i := 4) sc_u_law_act.nd rfl (Or.inl rfl) (meth_weak (pe_meth0 (pe_c (pv 0)) T.k_Air.cl T.p_Air_lose.me G_Air_lose (hr.mono (by decide)) T.p_Air_lose.b .nil pass0))) (pss_cons (ps_set (i := 6) sc_u_law_act.nd rfl (Or.inl rfl) (pe_cmpR (op_neDM hr.units) (pv 1) (pe_lstM pa_nil) (nomark _))) (pss_cons (ps_asg (pe_lstM pa_nil) (pg_sl (pv 1) po_none (po_some pe_int))) (pss_one (ps_ret (pe_andM (pe_callB call_isiM (by rfl) T.n_isinstance (by decide +kernel) (pa_cons (pv 4) (pa_cons (pe_bltn (v := .ty "bool") rfl T.n_bool (by decide +kernel) rfl) pa_nil))) (pe_one (pe_cmpR op_eq (pv 4) (pv 6) (nomark _))))))))) pss_nil) (pss_cons (ps_ifM (pt_cmpR op_eq (pe_ix ix_listM (pv 2) pe_int (fun _ _ => rfl)) pe_int (nomark _)) (pss_cons (ps_set (i := 4) sc_u_law_act.nd rfl (Or.inl rfl) (meth_weak (pe_meth0 (pe_c (pv 0)) T.k_Air.cl T.p_Air_double.me G_Air_double (hr.mono (by decide)) T.p_Air_double.b .nil pass0))) (pss_cons (ps_set (i := 6) sc_u_law_act.nd rfl (Or.inl rfl) (pe_cmpR (op_neDM hr.units) (pv 1) (pe_lstM pa_nil) (nomark _))) (pss_cons (ps_asg (pe_op op_catM (pe_slice sl_listM (pv 1) po_none (po_some pe_int)) (pe_lcW (own := [("piece", 3)]) (g := (gName 3)) [3] im_list rfl sc_u_law_act.nd (pi_list (pe_c (pe_slice sl_listM (pv 1) po_none (po_some pe_int)))) (blkOk_by (own := [("piece", 3)]) (N := ["air", "model", "digits", "piece", "told", "first", "due", "k"]) (sc := defScope S_u_law_act) (by decide +kernel)) (fun _ _ _ _ _ => (pg_name (i := 3) sc_u_law_act.nd rfl (Or.inl rfl))) (fun _ _ _ _ _ => pts_nil) (fun _ _ _ _ _ => (pe_callTy (call_listK (K := K) rfl) (by rfl) T.n_list (by decide +kernel) (pa_cons (pv 3) pa_nil))))) (pg_sl (pv 1) po_none (po_some pe_int))) (pss_one (ps_ret (pe_andM (pe_callB call_isiM (by rfl) T.n_isinstance (by decide +kernel) (pa_cons (pv 4) (pa_cons (pe_bltn (v := .ty "bool") rfl T.n_bool (by decide +kernel) rfl) pa_nil))) (pe_one (pe_cmpR op_eq (pv 4) (pv 6) (nomark _))))))))) pss_nil) (pss_cons (ps_ifM (pt_cmpR op_eq (pe_ix ix_listM (pv 2) pe_int (fun _ _ => rfl)) pe_int (nomark _)) (pss_cons (ps_expr (meth_weak (pe_meth0 (pe_c (pv 0)) T.k_Air.cl T.p_Air_stop.me G_Air_stop (hr.mono (by decide)) T.p_Air_stop.b .nil pass0))) (pss_one (ps_asg (pe_lstM pa_nil) (pg_sl (pv 1) po_none po_none)))) pss_nil) (pss_one (ps_ret pe_bl))))))), ?_⟩
    have w0 : Own H B [p, l, m] B (c35 T.C_Air p dx l m qs ms) H := own_of c rfl
    have hd : SqL K H d ([d0, d1, d2, d3].map V.int) := sq_of (w0.imm _ _ hD)
    (repeat walk_at "rd")
    refine rd_ixI (by walk_at "sq") (by decide) (by show _ < (4 : Int); decide) ?_
    (repeat walk_at "rd")
    refine br_by (fun h => ?_) (fun h => ?_)
    · refine rd_lcR1 ?_
      (repeat walk_at "rd")
      refine rd_ixI (by walk_at "sq") (by decide) (by show _ < (4 : Int); decide) ?_
      (repeat walk_at "rd")
      refine ⟨d2, fun i => .int ((d1 + (i : Int)) % 256), rfl, ⟨by omega, by omega⟩, fun i hi H1 s1 => ?_, fun a H1 n1 s1 e1 => ?_⟩
      · (repeat walk_at "rd")
        refine rd_ixI (s1.seq hd) (by decide) (by show _ < (4 : Int); decide) ?_
        (repeat walk_at "rd")
        exact Same.refl _
      have e1' : H1 a = some (.lst (((List.range d2.toNat).map fun i : Nat => (d1 + (i : Int)) % 256).map V.int)) := by
        rw [e1, List.map_map]
        rfl
      clear e1
      have hxl : ((List.range d2.toNat).map fun i : Nat => (d1 + (i : Int)) % 256).length ≤ 10 := by
        rw [List.length_map, List.length_range]
        omega
      generalize ((List.range d2.toNat).map fun i : Nat => (d1 + (i : Int)) % 256) = xs at e1' hxl
      have hml := hm.len
      have hql := hq.len
      have w1 : Own H B [p, l, m] B (c35 T.C_Air p dx l m qs ms ++ [(a, .lst (xs.map V.int))]) H1 := w0.addR n1 s1 e1'
      (repeat walk_at "rd")
      refine rd_list (sq_of e1') ?_
      intro c1 H2 n2 s2 e2
      obtain ⟨B2, sB2, hB2, _, w2⟩ := w1.ro n2 s2 e2
      refine rd_app (w2.mem (p := m) (.tail _ (.tail _ (.head _)))) (by rw [List.length_map]; omega) ?_
      have w3 : Own H B [p, l, m] B2 (aircells T.C_Air p dx l qs ++ [(m, .lst ((ms ++ [c1]).map V.ref)), (a, .lst (xs.map V.int))]) _ := w2.set 2 rfl (.lst ((ms ++ [c1]).map V.ref))
      rw [snocR]
      generalize hH3 : upd H2 m (.lst ((ms ++ [c1]).map V.ref)) = H3
      have w3 : Own H B [p, l, m] B2 (aircells T.C_Air p dx l qs ++ [(m, .lst ((ms ++ [c1]).map V.ref)), (a, .lst (xs.map V.int))]) H3 := hH3 ▸ w3
      clear hH3 w1 w2
      have hp3 := w3.mem (p := p) (.head _)
      (repeat walk_at "rd")
      refine op_Air_send ⟨p, dx, l, qs, B2, a, xs, rfl, w3.cellsL, sq_of (w3.mem (p := a) (.tail _ (.tail _ (.tail _ (.head _))))), by omega, fun B4 H4 c2 wsub hB4 => ?_⟩
      have w4 : Own H B [p, l, m] B4 (aircells T.C_Air p dx l (qs ++ [c2]) ++ [(m, .lst ((ms ++ [c1]).map V.ref)), (a, .lst (xs.map V.int))]) H4 := w3.call wsub
      have s24 := wsub.grow
      (repeat walk_at "rd")
      refine rd_app (w4.mem (p := a) (.tail _ (.tail _ (.tail _ (.head _))))) (by rw [List.length_map]; omega) ?_
      have w5 : Own H B [p, l, m] B4 (c35 T.C_Air p dx l m (qs ++ [c2]) (ms ++ [c1]) ++ [(a, .lst (xs.map V.int ++ [V.int 7]))]) _ := w4.set 3 rfl (.lst (xs.map V.int ++ [V.int 7]))
      (repeat walk_at "rd")
      refine q B4 _ l (qs ++ [c2]) (ms ++ [c1]) (xss ++ [xs]) w5.dropR ((hq.mono (sB2.trans s24)).snoc hB4) ((hm.mono (sB2.trans s24)).snoc (s24 _ _ hB2)) (by rw [List.length_append]; exact Nat.le_refl _) (fun x hx => ?_)
      rcases List.mem_append.mp hx with h | h
      · exact hn.2 x h
      · rw [List.mem_singleton.mp h]
        exact hxl
    (repeat walk_at "rd")
    refine rd_ixI (by walk_at "sq") (by decide) (by show _ < (4 : Int); decide) ?_
    (repeat walk_at "rd")
    have hp := w0.mem (p := p) (.head _)
    have hm0 := w0.mem (p := m) (.tail _ (.tail _ (.head _)))
    refine br_by (fun h2 => ?_) (fun h2 => ?_)
    · (repeat walk_at "rd")
      refine op_Air_arrive ⟨p, dx, l, qs, B, rfl, w0.cellsL (lc := aircells T.C_Air p dx l qs) (lr := [(m, .lst (ms.map V.ref))]), fun e => ?_, fun c0 r e H' wsub => ?_⟩
      · subst e
        have ex := hq.nil_of
        subst ex
        have em := hm.nil_of'
        subst em
        (repeat walk_at "rd")
        intro t H1 n1 s1 e1
        refine rd_eqLL (xss := []) (yss := []) (ps := []) (qs := []) (sq_of (s1 _ _ hm0)) .nil (sq_of e1) .nil ?_
        (repeat walk_at "rd")
        refine br_t rfl ?_
        (repeat walk_at "rd")
        exact q B H1 l [] [] [] (w0.more s1) .nil .nil (Nat.zero_le _) (fun x hx => (nomatch hx))
      · subst e
        obtain ⟨x, xr, rfl, hx, hqr⟩ := hq.un
        obtain ⟨m0, mr, rfl, hx2, hmr⟩ := hm.un'
        have w1 : Own H B [p, l, m] B (c35 T.C_Air p dx l m r (m0 :: mr)) H' := w0.call (lc := aircells T.C_Air p dx l (c0 :: r)) wsub
        (repeat walk_at "rd")
        intro t H1 n1 s1 e1
        have w2 := w1.more s1
        refine rd_eqLL (ps := m0 :: mr) (xss := x :: xr) (yss := []) (qs := []) (sq_of (w2.mem (p := m) (.tail _ (.tail _ (.head _))))) (hm.mono w2.imm) (sq_of e1) .nil ?_
        (repeat walk_at "rd")
        refine br_f (fun z => by cases z) ?_
        (repeat walk_at "rd")
        refine rd_ixL (sq_of (w2.mem (p := m) (.tail _ (.tail _ (.head _))))) (at_of (j := 0) (by decide) rfl) ?_
        (repeat walk_at "rd")
        refine rd_pop0 (w2.mem (p := m) (.tail _ (.tail _ (.head _)))) ?_
        have w3 : Own H B [p, l, m] B (c35 T.C_Air p dx l m r mr) _ := w2.set 2 rfl (.lst (mr.map V.ref))
        (repeat walk_at "rd")
        refine rd_isiLL (w3.imm _ _ hx) ?_
        (repeat walk_at "rd")
        refine rd_eqI (sq_of (w3.imm _ _ hx)) (sq_of (w3.imm _ _ hx2)) ?_
        refine q_bl (q B _ l r mr xr w3 hqr hmr (by rw [List.length_cons]; omega) (fun y hy => hn.2 y (.tail _ hy))) ?_
        exact (decide_eq_true rfl).symm
    (repeat walk_at "rd")
    refine rd_ixI (by walk_at "sq") (by decide) (by show _ < (4 : Int); decide) ?_
    (repeat walk_at "rd")
    have hml := hm.len
    have hql := hq.len
    refine br_eby (fun h3 => ?_) (fun h3 => ?_)
    · (repeat walk_at "rd")
      refine op_Air_lose ⟨p, dx, l, qs, B, rfl, w0.cellsL (lc := aircells T.C_Air p dx l qs) (lr := [(m, .lst (ms.map V.ref))]), fun e => ?_, fun c0 r e H' wsub => ?_⟩
      · subst e
        have ex := hq.nil_of
        subst ex
        have em := hm.nil_of'
        subst em
        (repeat walk_at "rd")
        intro t H1 n1 s1 e1
        have w1 := w0.more s1
        refine rd_neLL (xss := []) (yss := []) (ps := []) (qs := []) (sq_of (s1 _ _ hm0)) .nil (sq_of e1) .nil ?_
        (repeat walk_at "rd")
        intro t2 H2 n2 s2 e2
        have w2 := w1.more s2
        (repeat walk_at "rd")
        refine rd_setSl (w2.mem (p := m) (.tail _ (.tail _ (.head _)))) e2 (fun z => by rw [← z, w1.mem (p := m) (.tail _ (.tail _ (.head _)))] at n2; cases n2) (by decide) ?_
        rw [splV_to _ _ (by decide)]
        have w3 : Own H B [p, l, m] B (c35 T.C_Air p dx l m [] []) _ := w2.set 2 rfl (.lst (([] : List Addr).map V.ref))
        (repeat walk_at "rd")
        refine rd_isiBB ?_
        (repeat walk_at "rd")
        exact q B _ l [] [] [] w3 .nil .nil (Nat.zero_le _) (fun x hx => (nomatch hx))
      · subst e
        obtain ⟨x, xr, rfl, hx, hqr⟩ := hq.un
        obtain ⟨m0, mr, rfl, hx2, hmr⟩ := hm.un'
        have w1 : Own H B [p, l, m] B (c35 T.C_Air p dx l m r (m0 :: mr)) H' := w0.call (lc := aircells T.C_Air p dx l (c0 :: r)) wsub
        (repeat walk_at "rd")
        intro t H1 n1 s1 e1
        have w2 := w1.more s1
        refine rd_neLL (ps := m0 :: mr) (xss := x :: xr) (yss := []) (qs := []) (sq_of (w2.mem (p := m) (.tail _ (.tail _ (.head _))))) (hm.mono w2.imm) (sq_of e1) .nil ?_
        (repeat walk_at "rd")
        intro t2 H2 n2 s2 e2
        have w3 := w2.more s2
        (repeat walk_at "rd")
        refine rd_setSl (w3.mem (p := m) (.tail _ (.tail _ (.head _)))) e2 (fun z => by rw [← z, w2.mem (p := m) (.tail _ (.tail _ (.head _)))] at n2; cases n2) (by rw [List.length_map]; show _ + 0 ≤ _; omega) ?_
        rw [splV_to _ _ (by decide)]
        have w4 : Own H B [p, l, m] B (c35 T.C_Air p dx l m r mr) _ := w3.set 2 rfl (.lst (mr.map V.ref))
        (repeat walk_at "rd")
        refine rd_isiBB ?_
        (repeat walk_at "rd")
        refine q_bl (q B _ l r mr xr w4 hqr hmr (by rw [List.length_cons]; omega) (fun y hy => hn.2 y (.tail _ hy))) ?_
        rfl
    (repeat walk_at "rd")
    refine rd_ixI (by walk_at "sq") (by decide) (by show _ < (4 : Int); decide) ?_
    (repeat walk_at "rd")
    refine br_eby (fun h4 => ?_) (fun h4 => ?_)
    · (repeat walk_at "rd")
      refine op_Air_double ⟨p, dx, l, qs, xss, B, rfl, w0.cellsL (lc := aircells T.C_Air p dx l qs) (lr := [(m, .lst (ms.map V.ref))]), hq, by omega, fun e => ?_, fun c0 r x xr e1 e2 B1 H1 c2 wsub hB1 => ?_⟩
      · subst e
        have ex := hq.nil_of
        subst ex
        have em := hm.nil_of'
        subst em
        (repeat walk_at "rd")
        intro t H1 n1 s1 e1
        have w1 := w0.more s1
        refine rd_neLL (xss := []) (yss := []) (ps := []) (qs := []) (sq_of (s1 _ _ hm0)) .nil (sq_of e1) .nil ?_
        (repeat walk_at "rd")
        refine rd_sl (sq_of (w1.mem (p := m) (.tail _ (.tail _ (.head _))))) ?_
        intro t2 H2 n2 s2 e2
        have w2 := w1.more s2
        refine rd_lcW ?_
        (repeat walk_at "rd")
        refine rd_sl (sq_of (w2.mem (p := m) (.tail _ (.tail _ (.head _))))) ?_
        intro t3 H3 n3 s3 e3
        have w3 := w2.more s3
        refine ⟨t3, rfl, ⟨_, sq_of e3⟩, ?_⟩
        refine wl_copy _ [] (sq_of e3) rfl (by decide) (fun j y xl hy hx H' R s k => ?_) (fun D qs4 H4 hD cp => ?_)
        · cases hx
        have w4 := w3.more cp.sm
        have e4 := cp.at'
        have e5 : qs4 = [] := cp.ls.nil_of'
        subst e5
        refine rd_cat (cp.sm _ _ (s3 _ _ e2)) e4 (by decide) ?_
        intro t5 H5 n5 s5 e5
        have w5 := w4.more s5
        (repeat walk_at "rd")
        refine rd_setSl (w5.mem (p := m) (.tail _ (.tail _ (.head _)))) e5 (fun z => by rw [← z, w4.mem (p := m) (.tail _ (.tail _ (.head _)))] at n5; cases n5) (by decide) ?_
        rw [splV_to _ _ (by decide)]
        have w6 : Own H B [p, l, m] B (c35 T.C_Air p dx l m [] []) _ := w5.set 2 rfl (.lst (([] : List Addr).map V.ref))
        (repeat walk_at "rd")
        refine rd_isiBB ?_
        (repeat walk_at "rd")
        exact q B _ l [] [] [] w6 .nil .nil (Nat.zero_le _) (fun x hx => (nomatch hx))
      · subst e1
        subst e2
        have hx := hq
        obtain ⟨_, _, e0, hx, hqr⟩ := hx.un
        cases e0
        obtain ⟨m0, mr, rfl, hx2, hmr⟩ := hm.un'
        have w1 : Own H B [p, l, m] B1 (c35 T.C_Air p dx l m (c0 :: c2 :: r) (m0 :: mr)) H1 := w0.call (lc := aircells T.C_Air p dx l (c0 :: r)) wsub
        have sB := wsub.grow
        (repeat walk_at "rd")
        intro t H2 n2 s2 e2
        have w2 := w1.more s2
        refine rd_neLL (ps := m0 :: mr) (xss := x :: xr) (yss := []) (qs := []) (sq_of (w2.mem (p := m) (.tail _ (.tail _ (.head _))))) (hm.mono (sB.trans w2.imm)) (sq_of e2) .nil ?_
        (repeat walk_at "rd")
        refine rd_sl (sq_of (w2.mem (p := m) (.tail _ (.tail _ (.head _))))) ?_
        intro t3 H3 n3 s3 e3
        have w3 := w2.more s3
        rw [cutX_to (by decide)] at e3
        refine rd_lcW ?_
        (repeat walk_at "rd")
        refine rd_sl (sq_of (w3.mem (p := m) (.tail _ (.tail _ (.head _))))) ?_
        intro t4 H4 n4 s4 e4
        have w4 := w3.more s4
        rw [cutX_to (by decide)] at e4
        refine ⟨t4, rfl, ⟨_, sq_of e4⟩, ?_⟩
        refine wl_copy _ [x] (sq_of e4) rfl (by show 1 ≤ _; decide) (fun j y xl hy hxl H' R s k => ?_) (fun D qs5 H5 hD cp => ?_)
        · cases j with
          | succ j => cases hxl
          | zero =>
            cases hxl
            cases hy
            (repeat walk_at "rd")
            refine rd_list (sq_of (s _ _ (w4.imm _ _ (sB _ _ hx2)))) ?_
            exact k
        obtain ⟨B5, sB5, hls5, w5⟩ := w4.cpy hD cp
        obtain ⟨b0, br, rfl, hb0, hbr⟩ := hls5.un'
        have ebr := hbr.nil_of'
        subst ebr
        refine rd_cat (cp.sm _ _ (s4 _ _ e3)) cp.at' (by show 1 + 1 ≤ _; decide) ?_
        intro t6 H6 n6 s6 e6
        have w6 := w5.more s6
        (repeat walk_at "rd")
        refine rd_setSl (w6.mem (p := m) (.tail _ (.tail _ (.tail _ (.head _))))) e6 (fun z => by rw [← z, w5.mem (p := m) (.tail _ (.tail _ (.tail _ (.head _))))] at n6; cases n6) (by show (List.map _ _).length + 2 ≤ _; rw [List.length_map]; omega) ?_
        rw [splV_to _ _ (by decide)]
        have w7 : Own H B [p, l, m] B5 ((D, .lst ([b0].map V.ref)) :: c35 T.C_Air p dx l m (c0 :: c2 :: r) (m0 :: b0 :: mr)) _ := w6.set 3 rfl (.lst ((m0 :: b0 :: mr).map V.ref))
        have w8 : Own H B [p, l, m] B5 (c35 T.C_Air p dx l m (c0 :: c2 :: r) (m0 :: b0 :: mr)) _ := w7.sub (fun _ h => .tail _ h) (List.nodup_cons.mp w7.c.nd).2
        (repeat walk_at "rd")
        refine rd_isiBB ?_
        (repeat walk_at "rd")
        refine q_bl (q B5 _ l (c0 :: c2 :: r) (m0 :: b0 :: mr) (x :: x :: xr) w8 (.cons ((sB.trans sB5) _ _ hx) (.cons (sB5 _ _ hB1) (hqr.mono (sB.trans sB5)))) (.cons ((sB.trans sB5) _ _ hx2) (.cons hb0 (hmr.mono (sB.trans sB5)))) (by rw [List.length_cons, List.length_cons]; exact Nat.le_refl _) (fun y hy => ?_)) ?_
        · rcases List.mem_cons.mp hy with h | h
          · exact hn.2 y (h ▸ .head _)
          · exact hn.2 y h
        · rfl
    (repeat walk_at "rd")
    refine rd_ixI (by walk_at "sq") (by decide) (by show _ < (4 : Int); decide) ?_
    (repeat walk_at "rd")
    refine br_eby (fun h5 => ?_) (fun h5 => ?_)
    · (repeat walk_at "rd")
      refine op_Air_stop ⟨p, dx, l, qs, B, rfl, w0.cellsL (lc := aircells T.C_Air p dx l qs) (lr := [(m, .lst (ms.map V.ref))]), fun l' H1 wsub => ?_⟩
      have w1 : Own H B [p, l, m] B (c35 T.C_Air p dx l' m [] ms) H1 := w0.call (lc := aircells T.C_Air p dx l qs) wsub
      (repeat walk_at "rd")
      intro t2 H2 n2 s2 e2
      have w2 := w1.more s2
      (repeat walk_at "rd")
      refine rd_setSl (w2.mem (p := m) (.tail _ (.tail _ (.head _)))) e2 (fun z => by rw [← z, w1.mem (p := m) (.tail _ (.tail _ (.head _)))] at n2; cases n2) (by rw [List.length_map]; show _ + 0 ≤ _; omega) ?_
      rw [splV_all]
      have w3 : Own H B [p, l, m] B (c35 T.C_Air p dx l' m [] []) _ := w2.set 2 rfl (.lst (([] : List Addr).map V.ref))
      (repeat walk_at "rd")
      exact q B _ l' [] [] [] w3 .nil .nil (Nat.zero_le _) (fun x hx => (nomatch hx))
    · (repeat walk_at "rd")
      exact q B H l qs ms xss w0 hq hm (by omega) hn.2
def sp_law (K : PySem.W.Frag) : Sp := fun vs H Q _ => ∃ (a : Addr) (ns : List Int), vs = [.ref a] ∧ SqL K H a (ns.map V.int) ∧ ns.length ≤ 63 ∧ ∀ H', Q (.bl true) H'
@[irreducible] def ip_law (K : PySem.W.Frag) : Sp := sp_law K
theorem op_law {K : PySem.W.Frag} {vs : List V} {H : Hp} {Q : VK} {E : XK} (h : sp_law K vs H Q E) : ip_law K vs H Q E := by
  unfold ip_law
  exact h
theorem un_law {K : PySem.W.Frag} {vs : List V} {H : Hp} {Q : VK} {E : XK} (h : ip_law K vs H Q E) : sp_law K vs H Q E := by
  unfold ip_law at h
  exact h
theorem ok_law (T : Tx P w K mg base) : FnOk P w K mg base CX0 4 T.a_law T.d_law ["script"] (ip_law K) := by
  have G_Air___init__ := ok_Air___init__ T
  have G_u_law_digits := ok_u_law_digits T
  have G_Air_pieces := ok_Air_pieces T
  have G_u_law_many := ok_u_law_many T
  have G_u_law_act := ok_u_law_act T
  have G_u_law_cell := ok_u_law_cell T
  refine T.p_law.F.ok sc_law (fun vs H Q E h => ?_) (fun cdv A outer s H vs Q E hr h => ?_)
  · obtain ⟨a, ns, rfl, hS, hlen, q⟩ := un_law h
    rfl
  · obtain ⟨a, ns, rfl, hS, hlen, q⟩ := un_law h
    refine ⟨_, (pss_cons (ps_set (i := 1) sc_law.nd rfl (Or.inl rfl) (pe_make0 T.k_Air.mk' G_Air___init__ (hr.mono (by decide)) rfl T.g_Air T.p_Air___init__.b .nil pass0)) (pss_cons (ps_set (i := 2) sc_law.nd rfl (Or.inl rfl) (pe_lstM pa_nil)) (pss_cons (ps_forR1 PassesOwn.never rfl rfl T.n_range (pa_cons (pe_callB (call_min2 rfl) (by rfl) T.n_min (by decide +kernel) (pa_cons (pe_callB call_lenM (by rfl) T.n_len PySem.boot_len (pa_cons (pv 0) pa_nil)) (pa_cons (pe_call G_u_law_many (hr.mono (by decide)) rfl T.p_u_law_many.m T.p_u_law_many.F.kp T.p_u_law_many.b .nil pass0 (pa_cons (pv 0) (pa_cons pe_int (pa_cons pe_int pa_nil)))) pa_nil))) pa_nil) (pg_name (i := 3) sc_law.nd rfl (Or.inl rfl)) (pss_cons (ps_set (i := 4) sc_law.nd rfl (Or.inl rfl) (pe_call G_u_law_digits (hr.mono (by decide)) rfl T.p_u_law_digits.m T.p_u_law_digits.F.kp T.p_u_law_digits.b .nil pass0 (pa_cons (pe_op op_addM (pe_call G_u_law_cell (hr.mono (by decide)) rfl T.p_u_law_cell.m T.p_u_law_cell.F.kp T.p_u_law_cell.b .nil pass0 (pa_cons (pv 0) (pa_cons (pv 3) pa_nil))) (pv 3)) (pa_cons (pe_lstM (pa_cons pe_int (pa_cons pe_int (pa_cons pe_int (pa_cons pe_int pa_nil))))) pa_nil)))) (pss_cons (ps_ifM (pt_not (pt_val (pe_call G_u_law_act (hr.mono (by decide)) rfl T.p_u_law_act.m T.p_u_law_act.F.kp T.p_u_law_act.b .nil pass0 (pa_cons (pv 1) (pa_cons (pv 2) (pa_cons (pv 4) pa_nil)))))) (pss_one (ps_ret pe_bl)) pss_nil) (pss_cons (ps_set (i := 5) sc_law.nd rfl (Or.inl rfl) (meth_weak (pe_meth0 (pe_c (pv 1)) T.k_Air.cl T.p_Air_pieces.me G_Air_pieces (hr.mono (by decide)) T.p_Air_pieces.b .nil pass0))) (pss_cons (ps_ifM (PW.pt (pw_orM (pt_not (pt_val (pe_callB call_isiM (by rfl) T.n_isinstance (by decide +kernel) (pa_cons (pv 5) (pa_cons (pe_bltn (v := .ty "list") rfl T.n_list (by decide +kernel) rfl) pa_nil))))) (pw_or1 (pt_cmpR (op_neDM hr.units) (pv 5) (pv 2) (nomark _))))) (pss_one (ps_ret pe_bl)) pss_nil) (pss_cons (ps_forL PassesOwn.never rfl (pv 5) (pg_name (i := 6) sc_law.nd rfl (Or.inl rfl)) (pss_one (ps_expr (pe_app (pv 6) pe_int)))) (pss_one (ps_ifM (pt_cmpR (op_neDM hr.units) (meth_weak (pe_meth0 (pe_c (pv 1)) T.k_Air.cl T.p_Air_pieces.me G_Air_pieces (hr.mono (by decide)) T.p_Air_pieces.b .nil pass0)) (pv 2) (nomark _)) (pss_one (ps_ret pe_bl)) pss_nil)))))))) (pss_one (ps_ret pe_bl))))), ?_⟩
    (repeat walk_at "rd")
    intro p dx nx ndx nxd
    have w1 : Own H H [] H [(p, .ins T.C_Air dx [])] _ := (Own.mk0 (H := H)).add nx ((same_upd (o := .own p) ndx).trans (same_upd (by rw [upd_ne (Ne.symm nxd)]; exact nx))) (upd_same (o := .ins T.C_Air dx []))
    refine op_Air___init__ ⟨p, dx, H, rfl, w1.cellsL (lc := [(p, .ins T.C_Air dx [])]), fun l0 H2 w2' => ?_⟩
    have w2 : Own H H [] H (aircells T.C_Air p dx l0 []) H2 := w1.call0 w2'
    refine ⟨rfl, ?_⟩
    (repeat walk_at "rd")
    intro m H3 n3 s3 e3
    have w3 : Own H H [] H (c35 T.C_Air p dx l0 m [] []) H3 := w2.addR n3 s3 e3
    clear w1 w2 w2' e3
    refine rd_forR1 ?_
    (repeat walk_at "rd")
    refine op_u_law_many ⟨a, ns, 16, 50, rfl, w3.imm.seq hS, fun z hz => ?_⟩
    (repeat walk_at "rd")
    refine ⟨_, _, rfl, ?_⟩
    (repeat walk_at "rd")
    refine ⟨_, fun i σ H' => Stop (∃ (B : Hp) (l : Addr) (qs ms : List Addr) (xss : List (List Int)) (x3 x4 x5 x6 : Option V), Own H H [] B (c35 T.C_Air p dx l m qs ms) H' ∧ LLs B qs xss ∧ LLs B ms xss ∧ qs.length ≤ i ∧ (∀ x ∈ xss, x.length ≤ 10) ∧
      σ = [some (.ref a), some (.ref p), some (.ref m), x3, x4, x5, x6]), rfl, ⟨by split <;> omega, by split <;> omega⟩, .a ⟨H, l0, [], [], [], _, _, _, _, w3, .nil, .nil, Nat.zero_le _, fun x hx => (nomatch hx), rfl⟩, fun i σ' H' hi w => ?_, fun σ' H' w => ?_⟩
    · obtain ⟨B, l, qs, ms, xss, x3, x4, x5, x6, w0, hq, hm, hl, hx, rfl⟩ := w.un
      have hib : i ≤ 100 := by
        have : (if z < (ns.length : Int) then z else (ns.length : Int)).toNat ≤ 63 := by split <;> omega
        omega
      clear w w3 hi
      have hS0 := (w0.grow.trans w0.imm).seq hS
      (repeat walk_at "rd")
      refine op_u_law_cell ⟨a, ns, _, rfl, hS0, (by omega), ?_⟩
      (repeat walk_at "rd")
      intro t1 H4 n4 s4 e4
      have w4 := w0.more s4
      (repeat walk_at "rd")
      refine op_u_law_digits ⟨_, t1, [9, 256, 6, 3], rfl, sq_of e4, (by decide), (by decide), fun ds hd d H5 n5 s5 e5 => ?_⟩
      obtain ⟨d0, d1, d2, d3, rfl, k0, k1, k2, k3⟩ := dig4 hd
      obtain ⟨B5, sB5, hB5, _, w5⟩ := w4.ro n5 s5 e5
      refine frG (σ' := [some (.ref a), some (.ref p), some (.ref m), some (.int i), some (.ref d), x5, x6]) rfl ?_
      (repeat walk_at "rd")
      refine op_u_law_act ⟨p, dx, l, qs, m, ms, xss, B5, d, d0, d1, d2, d3, rfl, w5.cellsL (lc := c35 T.C_Air p dx l m qs ms) (lr := []), hq.mono sB5, hm.mono sB5, hB5, k0, k1, k2, ⟨by omega, hx⟩, fun B6 H6 l6 qs6 ms6 xss6 wsub hq6 hm6 hl6 hx6 => ?_⟩
      have w6 : Own H H [] B6 (c35 T.C_Air p dx l6 m qs6 ms6) H6 := w5.call0 wsub
      clear wsub w5 w4 w0 hq hm
      (repeat walk_at "rd")
      have hp6 := w6.mem (p := p) (.head _)
      have hl6' := w6.mem (p := l6) (.tail _ (.head _))
      refine op_Air_pieces ⟨p, dx, l6, qs6, xss6, rfl, hp6, hl6', hq6.mono w6.imm, by omega, fun D mq H7 hD cp => ?_⟩
      have w7 := w6.more cp.sm
      refine frG (σ' := [some (.ref a), some (.ref p), some (.ref m), some (.int i), some (.ref d), some (.ref D), x6]) rfl ?_
      (repeat walk_at "rd")
      refine rd_isiLL cp.at' ?_
      (repeat walk_at "rd")
      refine rd_neLL (sq_of cp.at') cp.ls (sq_of (w7.mem (p := m) (.tail _ (.tail _ (.head _))))) (hm6.mono w7.imm) ?_
      (repeat walk_at "rd")
      refine br_nf rfl ?_
      (repeat walk_at "rd")
      refine rd_forL ?_
      (repeat walk_at "rd")
      refine ⟨D, mq.map V.ref, fun j σ H' => Stop ((∀ b o, b ∉ mq → H7 b = some o → H' b = some o) ∧ (∀ (k : Nat) (q : Addr) (x : List Int), j ≤ k → mq[k]? = some q → xss6[k]? = some x → H' q = some (.lst (x.map V.int))) ∧ ∃ x6, σ = [some (.ref a), some (.ref p), some (.ref m), some (.int i), some (.ref d), some (.ref D), x6]), rfl, sq_of cp.at', .a ⟨fun b o _ h => h, fun k q x _ h1 h2 => ?_, _, rfl⟩, fun j σ' H' _ w => ?_, fun j y σ' H' hj w => ?_, fun σ' H' w => ?_⟩
      · obtain ⟨x', hx', hq'⟩ := cp.ls.at h1
        obtain rfl := Option.some.inj (h2.symm.trans hx')
        exact hq'
      · exact sq_of (w.un.1 D _ (fun z => (cp.fr D z).2 rfl) cp.at')
      · obtain ⟨h1, h2, y6, rfl⟩ := w.un
        rw [List.getElem?_map] at hj
        obtain ⟨q0, hq0, rfl⟩ := Option.map_eq_some_iff.mp hj
        obtain ⟨x, hxj, _⟩ := cp.ls.at hq0
        have hH := h2 j q0 x (Nat.le_refl _) hq0 hxj
        have hxl := hx6 x (List.mem_of_getElem? hxj)
        (repeat walk_at "rd")
        refine rd_app hH (by rw [List.length_map]; omega) ?_
        refine .a ⟨fun b o hb h => ?_, fun k q x hk hq hx => ?_, _, rfl⟩
        · rw [upd_ne (show b ≠ q0 from fun z => hb (by rw [z]; exact List.mem_of_getElem? hq0))]
          exact h1 b o hb h
        · rw [upd_ne (show q ≠ q0 from fun z => ?_)]
          · exact h2 k q x (by omega) hq hx
          · subst z
            have hj2 := (List.getElem?_eq_some_iff.mp hq0).1
            have := (List.getElem?_inj hj2 cp.nd).mp (hq0.trans hq.symm)
            omega
      · obtain ⟨h1, h2, y6, rfl⟩ := w.un
        have w8 := w6.loose cp.sm mq (fun q hq => (cp.fr q hq).1) h1
        (repeat walk_at "rd")
        have hp8 := w8.mem (p := p) (.head _)
        have hl8 := w8.mem (p := l6) (.tail _ (.head _))
        refine op_Air_pieces ⟨p, dx, l6, qs6, xss6, rfl, hp8, hl8, hq6.mono w8.imm, by omega, fun D2 mq2 H9 hD2 cp2 => ?_⟩
        have w9 := w8.more cp2.sm
        (repeat walk_at "rd")
        refine rd_neLL (sq_of cp2.at') cp2.ls (sq_of (w9.mem (p := m) (.tail _ (.tail _ (.head _))))) (hm6.mono w9.imm) ?_
        (repeat walk_at "rd")
        refine br_nf rfl ?_
        exact .a ⟨B6, l6, qs6, ms6, xss6, _, _, _, _, w9, hq6, hm6, by omega, hx6, rfl⟩
    · obtain ⟨B, l, qs, ms, xss, x3, x4, x5, x6, w0, hq, hm, hl, hx, rfl⟩ := w.un
      (repeat walk_at "rd")
      exact q _
end
end My
namespace My
open PySem L2
theorem all_mk {P : Program} {w : World} {K : PySem.W.Frag} {h : Heap} {mg : Str → Option Value} {fa : Addr} (X : K.In h) (G : h.Ns mainGlobals mg) (hfa : mg "law" = some (.ref fa))
    {C_Air : Addr}
    {f_Air___init__ : Addr} {od_Air___init__ an_Air___init__ : Option Addr} {sl_Air___init__ : Array (Option Value)} {oc_Air___init__ kV_Air___init__ dc_Air___init__ pm_Air___init__ cd_Air___init__ ct_Air___init__ : Value}
    {f_Air_send : Addr} {od_Air_send an_Air_send : Option Addr} {sl_Air_send : Array (Option Value)} {oc_Air_send kV_Air_send dc_Air_send pm_Air_send cd_Air_send ct_Air_send : Value}
    {f_Air_arrive : Addr} {od_Air_arrive an_Air_arrive : Option Addr} {sl_Air_arrive : Array (Option Value)} {oc_Air_arrive kV_Air_arrive dc_Air_arrive pm_Air_arrive cd_Air_arrive ct_Air_arrive : Value}
    {f_Air_lose : Addr} {od_Air_lose an_Air_lose : Option Addr} {sl_Air_lose : Array (Option Value)} {oc_Air_lose kV_Air_lose dc_Air_lose pm_Air_lose cd_Air_lose ct_Air_lose : Value}
    {f_Air_double : Addr} {od_Air_double an_Air_double : Option Addr} {sl_Air_double : Array (Option Value)} {oc_Air_double kV_Air_double dc_Air_double pm_Air_double cd_Air_double ct_Air_double : Value}
    {f_Air_pieces : Addr} {od_Air_pieces an_Air_pieces : Option Addr} {sl_Air_pieces : Array (Option Value)} {oc_Air_pieces kV_Air_pieces dc_Air_pieces pm_Air_pieces cd_Air_pieces ct_Air_pieces : Value}
    {f_Air_stop : Addr} {od_Air_stop an_Air_stop : Option Addr} {sl_Air_stop : Array (Option Value)} {oc_Air_stop kV_Air_stop dc_Air_stop pm_Air_stop cd_Air_stop ct_Air_stop : Value}
    {f_u_law_cell : Addr} {od_u_law_cell an_u_law_cell : Option Addr} {sl_u_law_cell : Array (Option Value)} {oc_u_law_cell kV_u_law_cell dc_u_law_cell pm_u_law_cell cd_u_law_cell ct_u_law_cell : Value}
    {f_u_law_digits : Addr} {od_u_law_digits an_u_law_digits : Option Addr} {sl_u_law_digits : Array (Option Value)} {oc_u_law_digits kV_u_law_digits dc_u_law_digits pm_u_law_digits cd_u_law_digits ct_u_law_digits : Value}
    {f_u_law_many : Addr} {od_u_law_many an_u_law_many : Option Addr} {sl_u_law_many : Array (Option Value)} {oc_u_law_many kV_u_law_many dc_u_law_many pm_u_law_many cd_u_law_many ct_u_law_many : Value}
    {f_u_law_act : Addr} {od_u_law_act an_u_law_act : Option Addr} {sl_u_law_act : Array (Option Value)} {oc_u_law_act kV_u_law_act dc_u_law_act pm_u_law_act cd_u_law_act ct_u_law_act : Value}
    {f_law : Addr} {od_law an_law : Option Addr} {sl_law : Array (Option Value)} {oc_law kV_law dc_law pm_law cd_law ct_law : Value}
    (z_len : PySem.W.nsIn K mainGlobals "len" = some none)
    (z_range : PySem.W.nsIn K mainGlobals "range" = some none)
    (z_int : PySem.W.nsIn K mainGlobals "int" = some none)
    (z_min : PySem.W.nsIn K mainGlobals "min" = some none)
    (z_isinstance : PySem.W.nsIn K mainGlobals "isinstance" = some none)
    (z_list : PySem.W.nsIn K mainGlobals "list" = some none)
    (z_bool : PySem.W.nsIn K mainGlobals "bool" = some none)
    (z_Air : PySem.W.nsIn K mainGlobals "Air" = some (some (.ref C_Air)))
    (a_Air___init__ : PySem.W.findIn K (.ref C_Air) "__init__" = some (some (.ref f_Air___init__)))
    (i_Air___init__ : PySem.W.isFn K (.ref f_Air___init__) = true)
    (l_Air___init__ : K.lookup f_Air___init__ = some ⟨oc_Air___init__, od_Air___init__, .func (PySem.W.fnOf "__init__" "Air.__init__" (defArgs S_Air___init__) (defBody S_Air___init__) (defScope S_Air___init__) .none kV_Air___init__ dc_Air___init__ pm_Air___init__ an_Air___init__ cd_Air___init__ ct_Air___init__), sl_Air___init__⟩)
    (c_Air___init__ : PySem.W.codeIn K cd_Air___init__ "Air.__init__" = true)
    (k_Air___init__ : PySem.W.keepIn K (.ref f_Air___init__) = true)
    (a_Air_send : PySem.W.findIn K (.ref C_Air) "send" = some (some (.ref f_Air_send)))
    (i_Air_send : PySem.W.isFn K (.ref f_Air_send) = true)
    (l_Air_send : K.lookup f_Air_send = some ⟨oc_Air_send, od_Air_send, .func (PySem.W.fnOf "send" "Air.send" (defArgs S_Air_send) (defBody S_Air_send) (defScope S_Air_send) .none kV_Air_send dc_Air_send pm_Air_send an_Air_send cd_Air_send ct_Air_send), sl_Air_send⟩)
    (c_Air_send : PySem.W.codeIn K cd_Air_send "Air.send" = true)
    (k_Air_send : PySem.W.keepIn K (.ref f_Air_send) = true)
    (a_Air_arrive : PySem.W.findIn K (.ref C_Air) "arrive" = some (some (.ref f_Air_arrive)))
    (i_Air_arrive : PySem.W.isFn K (.ref f_Air_arrive) = true)
    (l_Air_arrive : K.lookup f_Air_arrive = some ⟨oc_Air_arrive, od_Air_arrive, .func (PySem.W.fnOf "arrive" "Air.arrive" (defArgs S_Air_arrive) (defBody S_Air_arrive) (defScope S_Air_arrive) .none kV_Air_arrive dc_Air_arrive pm_Air_arrive an_Air_arrive cd_Air_arrive ct_Air_arrive), sl_Air_arrive⟩)
    (c_Air_arrive : PySem.W.codeIn K cd_Air_arrive "Air.arrive" = true)
    (k_Air_arrive : PySem.W.keepIn K (.ref f_Air_arrive) = true)
    (a_Air_lose : PySem.W.findIn K (.ref C_Air) "lose" = some (some (.ref f_Air_lose)))
    (i_Air_lose : PySem.W.isFn K (.ref f_Air_lose) = true)
    (l_Air_lose : K.lookup f_Air_lose = some ⟨oc_Air_lose, od_Air_lose, .func (PySem.W.fnOf "lose" "Air.lose" (defArgs S_Air_lose) (defBody S_Air_lose) (defScope S_Air_lose) .none kV_Air_lose dc_Air_lose pm_Air_lose an_Air_lose cd_Air_lose ct_Air_lose), sl_Air_lose⟩)
    (c_Air_lose : PySem.W.codeIn K cd_Air_lose "Air.lose" = true)
    (k_Air_lose : PySem.W.keepIn K (.ref f_Air_lose) = true)
    (a_Air_double : PySem.W.findIn K (.ref C_Air) "double" = some (some (.ref f_Air_double)))
    (i_Air_double : PySem.W.isFn K (.ref f_Air_double) = true)
    (l_Air_double : K.lookup f_Air_double = some ⟨oc_Air_double, od_Air_double, .func (PySem.W.fnOf "double" "Air.double" (defArgs S_Air_double) (defBody S_Air_double) (defScope S_Air_double) .none kV_Air_double dc_Air_double pm_Air_double an_Air_double cd_Air_double ct_Air_double), sl_Air_double⟩)
    (c_Air_double : PySem.W.codeIn K cd_Air_double "Air.double" = true)
    (k_Air_double : PySem.W.keepIn K (.ref f_Air_double) = true)
    (a_Air_pieces : PySem.W.findIn K (.ref C_Air) "pieces" = some (some (.ref f_Air_pieces)))
    (i_Air_pieces : PySem.W.isFn K (.ref f_Air_pieces) = true)
    (l_Air_pieces : K.lookup f_Air_pieces = some ⟨oc_Air_pieces, od_Air_pieces, .func (PySem.W.fnOf "pieces" "Air.pieces" (defArgs S_Air_pieces) (defBody S_Air_pieces) (defScope S_Air_pieces) .none kV_Air_pieces dc_Air_pieces pm_Air_pieces an_Air_pieces cd_Air_pieces ct_Air_pieces), sl_Air_pieces⟩)
    (c_Air_pieces : PySem.W.codeIn K cd_Air_pieces "Air.pieces" = true)
    (k_Air_pieces : PySem.W.keepIn K (.ref f_Air_pieces) = true)
    (a_Air_stop : PySem.W.findIn K (.ref C_Air) "stop" = some (some (.ref f_Air_stop)))
    (i_Air_stop : PySem.W.isFn K (.ref f_Air_stop) = true)
    (l_Air_stop : K.lookup f_Air_stop = some ⟨oc_Air_stop, od_Air_stop, .func (PySem.W.fnOf "stop" "Air.stop" (defArgs S_Air_stop) (defBody S_Air_stop) (defScope S_Air_stop) .none kV_Air_stop dc_Air_stop pm_Air_stop an_Air_stop cd_Air_stop ct_Air_stop), sl_Air_stop⟩)
    (c_Air_stop : PySem.W.codeIn K cd_Air_stop "Air.stop" = true)
    (k_Air_stop : PySem.W.keepIn K (.ref f_Air_stop) = true)
    (a_u_law_cell : PySem.W.nsIn K mainGlobals "_law_cell" = some (some (.ref f_u_law_cell)))
    (l_u_law_cell : K.lookup f_u_law_cell = some ⟨oc_u_law_cell, od_u_law_cell, .func (PySem.W.fnOf "_law_cell" "_law_cell" (defArgs S_u_law_cell) (defBody S_u_law_cell) (defScope S_u_law_cell) .none kV_u_law_cell dc_u_law_cell pm_u_law_cell an_u_law_cell cd_u_law_cell ct_u_law_cell), sl_u_law_cell⟩)
    (c_u_law_cell : PySem.W.codeIn K cd_u_law_cell "_law_cell" = true)
    (k_u_law_cell : PySem.W.keepIn K (.ref f_u_law_cell) = true)
    (a_u_law_digits : PySem.W.nsIn K mainGlobals "_law_digits" = some (some (.ref f_u_law_digits)))
    (l_u_law_digits : K.lookup f_u_law_digits = some ⟨oc_u_law_digits, od_u_law_digits, .func (PySem.W.fnOf "_law_digits" "_law_digits" (defArgs S_u_law_digits) (defBody S_u_law_digits) (defScope S_u_law_digits) .none kV_u_law_digits dc_u_law_digits pm_u_law_digits an_u_law_digits cd_u_law_digits ct_u_law_digits), sl_u_law_digits⟩)
    (c_u_law_digits : PySem.W.codeIn K cd_u_law_digits "_law_digits" = true)
    (k_u_law_digits : PySem.W.keepIn K (.ref f_u_law_digits) = true)
    (a_u_law_many : PySem.W.nsIn K mainGlobals "_law_many" = some (some (.ref f_u_law_many)))
    (l_u_law_many : K.lookup f_u_law_many = some ⟨oc_u_law_many, od_u_law_many, .func (PySem.W.fnOf "_law_many" "_law_many" (defArgs S_u_law_many) (defBody S_u_law_many) (defScope S_u_law_many) .none kV_u_law_many dc_u_law_many pm_u_law_many an_u_law_many cd_u_law_many ct_u_law_many), sl_u_law_many⟩)
    (c_u_law_many : PySem.W.codeIn K cd_u_law_many "_law_many" = true)
    (k_u_law_many : PySem.W.keepIn K (.ref f_u_law_many) = true)
    (a_u_law_act : PySem.W.nsIn K mainGlobals "_law_act" = some (some (.ref f_u_law_act)))
    (l_u_law_act : K.lookup f_u_law_act = some ⟨oc_u_law_act, od_u_law_act, .func (PySem.W.fnOf "_law_act" "_law_act" (defArgs S_u_law_act) (defBody S_u_law_act) (defScope S_u_law_act) .none kV_u_law_act dc_u_law_act pm_u_law_act an_u_law_act cd_u_law_act ct_u_law_act), sl_u_law_act⟩)
    (c_u_law_act : PySem.W.codeIn K cd_u_law_act "_law_act" = true)
    (k_u_law_act : PySem.W.keepIn K (.ref f_u_law_act) = true)
    (a_law : PySem.W.nsIn K mainGlobals "law" = some (some (.ref f_law)))
    (l_law : K.lookup f_law = some ⟨oc_law, od_law, .func (PySem.W.fnOf "law" "law" (defArgs S_law) (defBody S_law) (defScope S_law) .none kV_law dc_law pm_law an_law cd_law ct_law), sl_law⟩)
    (c_law : PySem.W.codeIn K cd_law "law" = true)
    (k_law : PySem.W.keepIn K (.ref f_law) = true)
    (pg_Air : PySem.W.plainGet K C_Air Str.empty = true)
    (hd_Air : PySem.W.hasDictIn K C_Air = true)
    (po_Air : PySem.W.plainOver K C_Air = true)
    (sa_Air : PySem.W.findIn K (.ref C_Air) "__setattr__" = some (some (.builtin "object.__setattr__")))
    (mk_Air : PySem.W.makesIn K C_Air = true)
    (kc_Air : PySem.W.keepIn K (.ref C_Air) = true)
    (nf_Air__pieces : PySem.W.findIn K (.ref C_Air) "_pieces" = some none)
    : ∃ fd : FuncData, (∀ (s : Shared) (v : Value), BindsTo s fd ⟨[v], []⟩ [("script", v)]) ∧ ∀ base : Heap, K.In base → base.Ns mainGlobals mg → FnOk P w K mg base CX0 4 fa fd ["script"] (ip_law K) := by
  have e := hfa.symm.trans (PySem.W.mg_of X G a_law)
  cases e
  have F_Air___init__ := fun_mk (st := S_Air___init__) l_Air___init__ c_Air___init__ k_Air___init__
  have b_Air___init__ := F_Air___init__.binds (ps := ["self"]) fun _ _ _ _ _ _ us hl => match us, hl with | [_], _ => rfl
  have F_Air_send := fun_mk (st := S_Air_send) l_Air_send c_Air_send k_Air_send
  have b_Air_send := F_Air_send.binds (ps := ["self", "piece"]) fun _ _ _ _ _ _ us hl => match us, hl with | [_, _], _ => rfl
  have F_Air_arrive := fun_mk (st := S_Air_arrive) l_Air_arrive c_Air_arrive k_Air_arrive
  have b_Air_arrive := F_Air_arrive.binds (ps := ["self"]) fun _ _ _ _ _ _ us hl => match us, hl with | [_], _ => rfl
  have F_Air_lose := fun_mk (st := S_Air_lose) l_Air_lose c_Air_lose k_Air_lose
  have b_Air_lose := F_Air_lose.binds (ps := ["self"]) fun _ _ _ _ _ _ us hl => match us, hl with | [_], _ => rfl
  have F_Air_double := fun_mk (st := S_Air_double) l_Air_double c_Air_double k_Air_double
  have b_Air_double := F_Air_double.binds (ps := ["self"]) fun _ _ _ _ _ _ us hl => match us, hl with | [_], _ => rfl
  have F_Air_pieces := fun_mk (st := S_Air_pieces) l_Air_pieces c_Air_pieces k_Air_pieces
  have b_Air_pieces := F_Air_pieces.binds (ps := ["self"]) fun _ _ _ _ _ _ us hl => match us, hl with | [_], _ => rfl
  have F_Air_stop := fun_mk (st := S_Air_stop) l_Air_stop c_Air_stop k_Air_stop
  have b_Air_stop := F_Air_stop.binds (ps := ["self"]) fun _ _ _ _ _ _ us hl => match us, hl with | [_], _ => rfl
  have F_u_law_cell := fun_mk (st := S_u_law_cell) l_u_law_cell c_u_law_cell k_u_law_cell
  have b_u_law_cell := F_u_law_cell.binds (ps := ["script", "k"]) fun _ _ _ _ _ _ us hl => match us, hl with | [_, _], _ => rfl
  have F_u_law_digits := fun_mk (st := S_u_law_digits) l_u_law_digits c_u_law_digits k_u_law_digits
  have b_u_law_digits := F_u_law_digits.binds (ps := ["cell", "bases"]) fun _ _ _ _ _ _ us hl => match us, hl with | [_, _], _ => rfl
  have F_u_law_many := fun_mk (st := S_u_law_many) l_u_law_many c_u_law_many k_u_law_many
  have b_u_law_many := F_u_law_many.binds (ps := ["script", "few", "many"]) fun _ _ _ _ _ _ us hl => match us, hl with | [_, _, _], _ => rfl
  have F_u_law_act := fun_mk (st := S_u_law_act) l_u_law_act c_u_law_act k_u_law_act
  have b_u_law_act := F_u_law_act.binds (ps := ["air", "model", "digits"]) fun _ _ _ _ _ _ us hl => match us, hl with | [_, _, _], _ => rfl
  have F_law := fun_mk (st := S_law) l_law c_law k_law
  have b_law := F_law.binds (ps := ["script"]) fun _ _ _ _ _ _ us hl => match us, hl with | [_], _ => rfl
  refine ⟨PySem.W.fnOf "law" "law" (defArgs S_law) (defBody S_law) (defScope S_law) .none kV_law dc_law pm_law an_law cd_law ct_law, fun s v => .of_eq rfl, fun base _ _ => ?_⟩
  exact ok_law (T := ({
      n_len := PySem.W.mg_none_of X G z_len,
      n_range := PySem.W.mg_none_of X G z_range,
      n_int := PySem.W.mg_none_of X G z_int,
      n_min := PySem.W.mg_none_of X G z_min,
      n_isinstance := PySem.W.mg_none_of X G z_isinstance,
      n_list := PySem.W.mg_none_of X G z_list,
      n_bool := PySem.W.mg_none_of X G z_bool,
      C_Air := C_Air,
      g_Air := PySem.W.mg_of X G z_Air,
      a_Air___init__ := _,
      d_Air___init__ := _,
      p_Air___init__ := ⟨F_Air___init__, b_Air___init__, ⟨a_Air___init__, i_Air___init__, k_Air___init__⟩⟩,
      a_Air_send := _,
      d_Air_send := _,
      p_Air_send := ⟨F_Air_send, b_Air_send, ⟨a_Air_send, i_Air_send, k_Air_send⟩⟩,
      a_Air_arrive := _,
      d_Air_arrive := _,
      p_Air_arrive := ⟨F_Air_arrive, b_Air_arrive, ⟨a_Air_arrive, i_Air_arrive, k_Air_arrive⟩⟩,
      a_Air_lose := _,
      d_Air_lose := _,
      p_Air_lose := ⟨F_Air_lose, b_Air_lose, ⟨a_Air_lose, i_Air_lose, k_Air_lose⟩⟩,
      a_Air_double := _,
      d_Air_double := _,
      p_Air_double := ⟨F_Air_double, b_Air_double, ⟨a_Air_double, i_Air_double, k_Air_double⟩⟩,
      a_Air_pieces := _,
      d_Air_pieces := _,
      p_Air_pieces := ⟨F_Air_pieces, b_Air_pieces, ⟨a_Air_pieces, i_Air_pieces, k_Air_pieces⟩⟩,
      a_Air_stop := _,
      d_Air_stop := _,
      p_Air_stop := ⟨F_Air_stop, b_Air_stop, ⟨a_Air_stop, i_Air_stop, k_Air_stop⟩⟩,
      a_u_law_cell := _,
      d_u_law_cell := _,
      p_u_law_cell := ⟨F_u_law_cell, b_u_law_cell, PySem.W.mg_of X G a_u_law_cell⟩,
      a_u_law_digits := _,
      d_u_law_digits := _,
      p_u_law_digits := ⟨F_u_law_digits, b_u_law_digits, PySem.W.mg_of X G a_u_law_digits⟩,
      a_u_law_many := _,
      d_u_law_many := _,
      p_u_law_many := ⟨F_u_law_many, b_u_law_many, PySem.W.mg_of X G a_u_law_many⟩,
      a_u_law_act := _,
      d_u_law_act := _,
      p_u_law_act := ⟨F_u_law_act, b_u_law_act, PySem.W.mg_of X G a_u_law_act⟩,
      a_law := _,
      d_law := _,
      p_law := ⟨F_law, b_law, PySem.W.mg_of X G a_law⟩,
      k_Air := ⟨⟨pg_Air, hd_Air, po_Air, sa_Air⟩, ⟨mk_Air, a_Air___init__, i_Air___init__, kc_Air⟩⟩,
      f_Air__pieces := nf_Air__pieces
    } : Tx P w K mg base))
theorem walk {l : PySem.W.OpenLaw} {q : Program} {loose : List Str} {XP : (Str → Option Value) → Heap → Prop} {YP : World → Heap → Prop} {d : DefRec} {K : Params → PySem.W.Frag} (hn : l.most = some 63) (hdf : d.params.defaults = [])
    (hY : ∀ (w : World) (h : Heap), YP w h → (K w.params).In h)
    (F : ∀ (w : World) (mg : Str → Option Value) (fa : Addr) (h : Heap), (K w.params).In h → h.Ns mainGlobals mg → mg d.name = some (.ref fa) →
      ∃ fd : FuncData, (∀ (s : Shared) (u : Value), BindsTo s fd ⟨[u], []⟩ [("script", u)]) ∧ ∀ base : Heap, (K w.params).In base → base.Ns mainGlobals mg → FnOk l.prog w (K w.params) mg base CX0 4 fa fd ["script"] (ip_law (K w.params))) :
    PySem.W.WalkO q loose XP YP l.row.toRowW d [] (fun f vs => PySem.call f vs) :=
  L2.walk_of (n := 63) (k := 4) (x := "script") (CX := fun _ => CX0) (sp := fun w => ip_law (K w.params)) hn (by decide) hdf ⟨rfl, by decide, by decide⟩ hY F (fun _ _ a ns hl _ hS => op_law ⟨a, ns, rfl, hS, hl, fun _ => rfl⟩) fun _ _ _ _ _ z => z
end My
open PySem PySem.W PyProof.Rows
set_option maxRecDepth 100000 in
set_option maxHeartbeats 0 in
theorem PySem.Challenge.cw_bearerwise_k35_airs_keep_their_order_holds : PySem.Challenge.rw_bearerwise_k35_airs_keep_their_order.Holds := by
  w_on; o_law; k_head; (case hw => w_witness2)
  k_fill
  refine My.walk (l := PySem.Challenge.rw_bearerwise_k35_airs_keep_their_order) rfl rfl (fun w h Y => PySem.W.kIn_of Y) ?F
  case F =>
    intro w mg fa h KX G hmg
    refine' My.all_mk KX G hmg ?z_len ?z_range ?z_int ?z_min ?z_isinstance ?z_list ?z_bool ?z_Air ?a_Air___init__ ?i_Air___init__ ?l_Air___init__ ?c_Air___init__ ?k_Air___init__ ?a_Air_send ?i_Air_send ?l_Air_send ?c_Air_send ?k_Air_send ?a_Air_arrive ?i_Air_arrive ?l_Air_arrive ?c_Air_arrive ?k_Air_arrive ?a_Air_lose ?i_Air_lose ?l_Air_lose ?c_Air_lose ?k_Air_lose ?a_Air_double ?i_Air_double ?l_Air_double ?c_Air_double ?k_Air_double ?a_Air_pieces ?i_Air_pieces ?l_Air_pieces ?c_Air_pieces ?k_Air_pieces ?a_Air_stop ?i_Air_stop ?l_Air_stop ?c_Air_stop ?k_Air_stop ?a_u_law_cell ?l_u_law_cell ?c_u_law_cell ?k_u_law_cell ?a_u_law_digits ?l_u_law_digits ?c_u_law_digits ?k_u_law_digits ?a_u_law_many ?l_u_law_many ?c_u_law_many ?k_u_law_many ?a_u_law_act ?l_u_law_act ?c_u_law_act ?k_u_law_act ?a_law ?l_law ?c_law ?k_law ?pg_Air ?hd_Air ?po_Air ?sa_Air ?mk_Air ?kc_Air ?nf_Air__pieces
    (case z_len => k_is)
    (case z_range => k_is)
    (case z_int => k_is)
    (case z_min => k_is)
    (case z_isinstance => k_is)
    (case z_list => k_is)
    (case z_bool => k_is)
    (case z_Air => k_is)
    (case a_Air___init__ => k_is)
    (case i_Air___init__ => k_is)
    (case l_Air___init__ => k_is)
    (case c_Air___init__ => k_is)
    (case k_Air___init__ => k_is)
    (case a_Air_send => k_is)
    (case i_Air_send => k_is)
    (case l_Air_send => k_is)
    (case c_Air_send => k_is)
    (case k_Air_send => k_is)
    (case a_Air_arrive => k_is)
    (case i_Air_arrive => k_is)
    (case l_Air_arrive => k_is)
    (case c_Air_arrive => k_is)
    (case k_Air_arrive => k_is)
    (case a_Air_lose => k_is)
    (case i_Air_lose => k_is)
    (case l_Air_lose => k_is)
    (case c_Air_lose => k_is)
    (case k_Air_lose => k_is)
    (case a_Air_double => k_is)
    (case i_Air_double => k_is)
    (case l_Air_double => k_is)
    (case c_Air_double => k_is)
    (case k_Air_double => k_is)
    (case a_Air_pieces => k_is)
    (case i_Air_pieces => k_is)
    (case l_Air_pieces => k_is)
    (case c_Air_pieces => k_is)
    (case k_Air_pieces => k_is)
    (case a_Air_stop => k_is)
    (case i_Air_stop => k_is)
    (case l_Air_stop => k_is)
    (case c_Air_stop => k_is)
    (case k_Air_stop => k_is)
    (case a_u_law_cell => k_is)
    (case l_u_law_cell => k_is)
    (case c_u_law_cell => k_is)
    (case k_u_law_cell => k_is)
    (case a_u_law_digits => k_is)
    (case l_u_law_digits => k_is)
    (case c_u_law_digits => k_is)
    (case k_u_law_digits => k_is)
    (case a_u_law_many => k_is)
    (case l_u_law_many => k_is)
    (case c_u_law_many => k_is)
    (case k_u_law_many => k_is)
    (case a_u_law_act => k_is)
    (case l_u_law_act => k_is)
    (case c_u_law_act => k_is)
    (case k_u_law_act => k_is)
    (case a_law => k_is)
    (case l_law => k_is)
    (case c_law => k_is)
    (case k_law => k_is)
    (case pg_Air => k_is)
    (case hd_Air => k_is)
    (case po_Air => k_is)
    (case sa_Air => k_is)
    (case mk_Air => k_is)
    (case kc_Air => k_is)
    (case nf_Air__pieces => k_is)
