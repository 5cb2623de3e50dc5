import PyProof.Rows.All
import Wide.All
import OpenK.AllK
import Wide.FinOn
import HandS.ForMost
import HandS.ForExc
import HandS.IsInst
import HandS.ExcIs
import HandS.ExcInit
import HandS.Wide
import HandS.WideBits
import HandS.Zip
import HandS.Flow
import HandS.Flt
import HandS.Walk
import HandS.More
import HandS.Deep
import HandS.SetKeys
import HandS.SortKw
import HandS.Conv
import KE.KDictWalk
import HandS.Style
import PySem.Challenge.RW_bearerwise_k38_whole_promises_are_kept
set_option Elab.async false
set_option linter.all false
set_option maxRecDepth 100000
set_option maxHeartbeats 4000000
namespace My
open PySem L2

/-! ### a def as the top has left it -/
structure DefAt (K : PySem.W.Frag) (mg : Str → Option Value) (x q : Str) (st : Stmt) (ps : List Str) (f : Addr) (fd : FuncData) : Prop where
  F : Fun K x q st f fd
  b : Binds K fd ps []
  m : mg x = some (.ref f)
structure MethAt (K : PySem.W.Frag) (C : Addr) (x q : Str) (st : Stmt) (ps : List Str) (f : Addr) (fd : FuncData) : Prop where
  F : Fun K x q st f fd
  b : Binds K fd ps []
  me : Meth K C x f

structure DefAt0 (K : PySem.W.Frag) (x q : Str) (st : Stmt) (ps : List Str) (f : Addr) (fd : FuncData) : Prop where
  F : Fun K x q st f fd
  b : Binds K fd ps []
structure ClsAt (K : PySem.W.Frag) (C f : Addr) : Prop where
  cl : Cls K C
  mk' : Mk K C f

/-! ### heaps -/
theorem same_upd {H : Hp} {p : Addr} {o : HO} (h : H p = none) : Same H (upd H p o) := fun b x e => by
  rw [upd_ne (ne_of_none e h)]
  exact e
theorem same_none {H H' : Hp} {p : Addr} (s : Same H H') (h : H' p = none) : H p = none := by
  cases e : H p with
  | none => rfl
  | some o =>
    rw [s _ _ e] at h
    cases h
/-- an object that H does not know may change -/
theorem same_mut {H H' : Hp} {p : Addr} {o : HO} (e : Same H H') (h : H p = none) : Same H (upd H' p o) := fun b x hb => by
  rw [upd_ne (ne_of_none hb h)]
  exact e b x hb
theorem sq_of {K : PySem.W.Frag} {H : Hp} {a : Addr} {xs : List V} (h : H a = some (.lst xs)) : SqL K H a xs := Or.inl (Or.inl h)
theorem st_of {K : PySem.W.Frag} {H : Hp} {a : Addr} {xs : List V} (h : H a = some (.tup xs)) : SqT K H a xs := Or.inl (Or.inl h)
theorem Same.sqt {K : PySem.W.Frag} {H H' : Hp} {a : Addr} {xs : List V} (e : Same H H') (h : SqT K H a xs) : SqT K H' a xs := by
  rcases h with (h | ⟨o, h⟩) | h
  · exact .inl (.inl (e _ _ h))
  · exact .inl (.inr ⟨o, e _ _ h⟩)
  · exact .inr h
theorem hp_step {H H' : Hp} {a : Addr} {o : HO} (h : H a = some o) (s : Same H H') : H' a = some o := s _ _ h
theorem sq_step {K : PySem.W.Frag} {H H' : Hp} {a : Addr} {xs : List V} (h : SqL K H a xs) (s : Same H H') : SqL K H' a xs := s.seq h
theorem sqt_step {K : PySem.W.Frag} {H H' : Hp} {a : Addr} {xs : List V} (h : SqT K H a xs) (s : Same H H') : SqT K H' a xs := Same.sqt s h
theorem sz {n : Nat} (h : n ≤ 1000000) : n ≤ sizeLine := Nat.le_trans h (by rw [sizeLine_eq]; decide)
theorem szl {n : Nat} (h : n < 1000000) : n < sizeLine := Nat.lt_of_lt_of_le h (by rw [sizeLine_eq]; decide)

/-- the promises' shapes: a value and the heap as it was; a value; a new list -/
def RV (v : V) (H : Hp) (Q : VK) : Prop := ∀ H', Same H H' → Q v H'
def RL (xs : List V) (H : Hp) (Q : VK) : Prop := ∀ p H', H p = none → Same H H' → H' p = some (.lst xs) → Q (.ref p) H'
def RT (xs : List V) (H : Hp) (Q : VK) : Prop := ∀ p H', H p = none → Same H H' → H' p = some (.tup xs) → Q (.ref p) H'

/-! ### stops for the walk: a proposition that no tuple opens -/
inductive Stop (p : Prop) : Prop where
  | a (h : p) : Stop p
  | b (h : p) : Stop p
theorem Stop.un {p : Prop} (h : Stop p) : p := by cases h <;> assumption

/-! ### an exception of an own class whose __init__ takes nothing and stores nothing: X() -/
def spInit0 : Sp := fun vs H Q _ => ∃ a, vs = [.ref a] ∧ Q .non H
structure PlainExc (P : Program) (w : World) (K : PySem.W.Frag) (mg : Str → Option Value) (base : Heap) (x : Str) (C fI : Addr) (fdI : FuncData) : Prop where
  T : OexC K C
  iC : PySem.W.findIn K (.ref C) "__init__" = some (some (.ref fI))
  tI : PySem.W.typeIn K (.ref fI) = some (.type "function")
  F1 : FnOk P w K mg base CX0 1 fI fdI ["self"] spInit0
  bI : Binds K fdI ["self"] []
  m : mg x = some (.ref C)
open PySem.Spec PyProof.Rows in
theorem mk_endN {X : Cx} {pins : List (Addr × Obj)} {σ : L2.St} {H1 : Hp} {Q : XK} {hp hp2 h2 : Heap} {g1 g2 : Array GenState} {d1 d2 : Drawn} {t1 t2 : Nat} {os1 os2 : OsState} {a C : Addr} (T : Raises X (.ref C)) (I1 : Inv X pins σ H1 ⟨hp, g1, d1, t1, os1⟩)
    (ha : hp.objs.size ≤ a) (k : ∀ b o, hp.get? b = some o → hp2.get? b = some o) (un : Un (frs X.stack) [] (upd H1 a (exo a C none)) (upd H1 a (exo a C none)) hp2 h2) (hok : HOk X.prog X.w (upd H1 a (exo a C none)) h2) (ho : os2 = os1) (hb : AllBare g2)
    (q : Q (.ref C) none H1) : MkP X pins σ Q (.ref a) ⟨h2, g2, d2, t2, os2⟩ := by
  obtain ⟨t0, hoe⟩ := exo_at hok upd_same
  have hn : H1 a = none := I1.hok.fresh ha
  obtain ⟨G, g1', g2'⟩ := restrict h2 fun b => decide (b ≠ a)
  have gk : ∀ b, b ≠ a → G.get? b = h2.get? b := fun b hb => g1' b (decide_eq_true hb)
  have ge : G.get? a = none := g2' a (by simp)
  have nha : ∀ {b : Addr} {o : Obj}, hp.get? b = some o → b ≠ a := fun {b o} z => Nat.ne_of_lt (Nat.lt_of_lt_of_le (Heap.lt_size z) ha)
  have up : ∀ {b : Addr}, b ≠ a → H1 b = none → upd H1 a (exo a C none) b = none := fun {b} hb n => by rw [upd_ne hb]; exact n
  have U : Un (frs X.stack) [] H1 H1 hp G := {
    keep := fun b o z n hf hx => by
      rw [gk b (nha z)]
      exact un.keep b o (k b o z) (up (nha z) n) hf hx
    slot := fun b o z n hf hx => by
      rw [gk b (nha z)]
      exact un.slot b o (k b o z) (up (nha z) n) hf hx
    free := fun b o z n hx => n
    there := fun b o z hx => by
      rw [gk b (nha z)]
      exact un.there b o (k b o z) hx
    tups := fun b xs z => z
    frzs := fun b o v z => z
    tbls := fun b ps z => ⟨#[], by rw [z]; simp⟩ }
  have hok3 : HOk X.prog X.w H1 G := fun b o z => by
    have hba : b ≠ a := fun e => by
      rw [e, hn] at z
      cases z
    have z2 : upd H1 a (exo a C none) b = some o := by rw [upd_ne hba]; exact z
    have noa : ∀ {c : Addr} {u : HO}, H1 c = some u → c ≠ a := fun {c u} hc e => by
      rw [e, hn] at hc
      cases hc
    exact (hok b o z2).stay (fun c v hc y => by
        have hca : c ≠ a := by
          rcases hc with hc | hc
          · rw [hc]
            exact hba
          · exact fun e => by
              rw [e, upd_same] at hc
              exact exo_own (Option.some.inj hc)
        rw [gk c hca]
        exact y)
      (fun c hc => by
        by_cases e : c = a
        · rw [e, upd_same] at hc
          exact absurd (Option.some.inj hc) exo_own
        · rw [upd_ne e] at hc
          exact hc)
      (fun c xs hc => by
        by_cases e : c = a
        · rw [e, upd_same] at hc
          exact absurd (Option.some.inj hc) exo_tup
        · rw [upd_ne e] at hc
          exact hc)
  have J : Inv X pins σ H1 ⟨G, g2, d2, t2, os2⟩ := I1.call' (ch := []) ho U hok3 hb (fun b z => absurd z (by simp))
  refine ⟨a, _, _, ⟨G, g2, d2, t2, os2⟩, _, .ref C, none, rfl, J, fun b o z => ?_, ge, hoe, ⟨rfl, rfl⟩, rfl, rfl, hn, rfl, hb, T, q⟩
  by_cases hba : b = a
  · rw [hba, ge] at z
    cases z
  · exact (gk b hba).symm.trans z
open PySem.Spec PyProof.Rows in
theorem pmk_plain {X : Cx} {x : Str} {C fI : Addr} {fdI : FuncData} {p pos : Pos} (T : PlainExc X.prog X.w X.K X.mg X.base x C fI fdI) (hr : Room 2 X.A) (hg : Gl X x) (hdb : (x == ("__debug__" : Str)) = false := by decide) :
    PMk X (.Call (.Name x p) [] [] pos) (fun _ H Q => Q (.ref C) none H) := by
  intro pins s σ H Q I h
  obtain ⟨nm, q, N, bs, bm, sn, sub, ab, col, dd, k0, k1, k2, k3, k5, hC, hbm⟩ := T.T.cls
  refine wpAny_Call_Name_kw (ld_glob I hg T.m ?_ hdb)
  refine PySem.W.callWith_K0 I.kIn T.T.kC ?_
  show wpAny _ _ (call (.ref C) []) _ _ _
  obtain ⟨hp, g, dr, tk, os⟩ := s
  have hsz : hp.objs.size ≤ hp.objs.size + 1 := Nat.le_succ _
  have hn : H (hp.objs.size + 1) = none := I.hok.fresh hsz
  have kk : ∀ b o, hp.get? b = some o → ((hp.push (PySem.W.kdv_tup [])).push (PySem.HandSPX.excO C hp.objs.size)).get? b = some o := fun b o e => Heap.get?_push_of_some _ (Heap.get?_push_of_some _ e)
  have hget : ((hp.push (PySem.W.kdv_tup [])).push (PySem.HandSPX.excO C hp.objs.size)).get? (hp.objs.size + 1) = some (PySem.HandSPX.excO C hp.objs.size) := by heap_get
  have I2 : Inv X pins σ (upd H (hp.objs.size + 1) (exo (hp.objs.size + 1) C none)) ⟨(hp.push (PySem.W.kdv_tup [])).push (PySem.HandSPX.excO C hp.objs.size), g, dr, tk, os⟩ :=
    I.laid (t' := tk) (a := hp.objs.size + 1) (o := exo (hp.objs.size + 1) C none) (h' := (hp.push (PySem.W.kdv_tup [])).push (PySem.HandSPX.excO C hp.objs.size)) kk hsz (exo_ok hget)
  have r2 : Vals [V.ref (hp.objs.size + 1)] [Value.ref (hp.objs.size + 1)] := .cons rfl .nil
  have hq : spInit0 [V.ref (hp.objs.size + 1)] (upd H (hp.objs.size + 1) (exo (hp.objs.size + 1) C none)) (fun v H2 => v = .non ∧ H2 = upd H (hp.objs.size + 1) (exo (hp.objs.size + 1) C none)) (fun _ _ _ => False) := ⟨_, rfl, rfl, rfl⟩
  refine wpAny_call (PySem.HandSPX.call_own PySem.F.excBase_ValueError (fun Y => PySem.HandSPX.refsVE_contains Y bm hbm) (I.kIn _ _ hC) (PySem.W.looks_findIn I.kIn T.iC) (fun self => PySem.W.bind_fn I.kIn self T.tI) (Nat.zero_le _)
    (codeAny_mono (T.F1.run _ X.stack _ _ ⟨[Value.ref (hp.objs.size + 1)], []⟩ [Value.ref (hp.objs.size + 1)] _ _ (fun _ _ _ => False) (hr.make C [] []) (I2.env0.make C [] []) (T.bI _ [Value.ref (hp.objs.size + 1)] I2.kIn rfl) r2 hq) fun r s' hq' => ?_))
  cases r with
  | error er => exact hq'.elim
  | ok fl =>
    cases fl with
    | ret u =>
      obtain ⟨v, H2, os2, bare2, un2, hok2, rv, ev, eH⟩ := hq'
      subst ev
      subst eH
      obtain ⟨h2, g2, d2, t2, os'⟩ := s'
      exact ⟨rv, mk_endN (raises_own T.T.exC T.T.tyC) I hsz kk un2 hok2 os2 bare2 h⟩
    | next => exact False.elim hq'
    | brk => exact False.elim hq'
    | cont => exact False.elim hq'

theorem ite_t {c A B : Prop} [Decidable c] (hc : c) (h : A) : if decide c = true then A else B := by
  rw [decide_eq_true hc]
  exact iteT h
theorem ite_f {c A B : Prop} [Decidable c] (hc : ¬ c) (h : B) : if decide c = true then A else B := by
  rw [decide_eq_false hc]
  exact iteF h
theorem ite_nt {c A B : Prop} [Decidable c] (hc : ¬ c) (h : A) : if (!decide c) = true then A else B := by
  rw [decide_eq_false hc]
  exact iteT h
theorem ite_nf {c A B : Prop} [Decidable c] (hc : c) (h : B) : if (!decide c) = true then A else B := by
  rw [decide_eq_true hc]
  exact iteF h
theorem ite_by {c A B : Prop} [Decidable c] (h1 : c → A) (h2 : ¬ c → B) : if decide c = true then A else B := by
  by_cases h : c
  · exact ite_t h (h1 h)
  · exact ite_f h (h2 h)
theorem ite_nby {c A B : Prop} [Decidable c] (h1 : ¬ c → A) (h2 : c → B) : if (!decide c) = true then A else B := by
  by_cases h : c
  · exact ite_nf h (h2 h)
  · exact ite_nt h (h1 h)
/-- an item of the ints -/
theorem at_int {ns : List Int} {k : Int} (h0 : 0 ≤ k) (h1 : k < (ns.length : Int)) : atI (ns.map V.int) k = some (V.int (ns.getD k.toNat 0)) := by
  refine at_of (j := k.toNat) (by omega) ?_
  have h2 : k.toNat < ns.length := by omega
  rw [List.getElem?_map, List.getElem?_eq_getElem h2, List.getD_eq_getElem?_getD, List.getElem?_eq_getElem h2]
  rfl
theorem two_pos1 (k : Nat) : (0 : Int) < 1 * 2 ^ k := by
  rw [Int.one_mul]
  exact Int.pow_pos (by decide)
theorem q_int {Q : VK} {x y : Int} {H : Hp} (q : Q (.int x) H) (e : x = y) : Q (.int y) H := e ▸ q
theorem q_bl {Q : VK} {x y : Bool} {H : Hp} (q : Q (.bl x) H) (e : x = y) : Q (.bl y) H := e ▸ q

/-! ### readings that stop the walk where a new object comes: told by what holds of the new heap -/
/-- the closure of a reading: some wish that it keeps, and that is enough -/
def cTE (t : TE) : TE := fun σ H Q => ∃ R : VK, t σ H R ∧ ∀ v H', R v H' → Q v H'
def cTA (t : TA) : TA := fun σ H Q => ∃ R : List V → Hp → Prop, t σ H R ∧ ∀ v H', R v H' → Q v H'
def cTT (t : TT) : TT := fun σ H Q => ∃ R : Bool → Hp → Prop, t σ H R ∧ ∀ v H', R v H' → Q v H'
section
variable {X : Cx} {e : Expr} {es : List Expr} {te : TE} {ta : TA} {tt : TT} {pos : Pos}
theorem pe_c (h : PE X e te) : PE X e (cTE te) := ⟨fun pins s σ H Q I ⟨R, h1, h2⟩ => thn (h.run pins s σ H R I h1) fun u s1 ⟨v, H1, I1, r, q⟩ => ⟨v, H1, I1, r, h2 _ _ q⟩⟩
theorem pa_c (h : PA X es ta) : PA X es (cTA ta) := ⟨fun pos pins s σ H Q I ⟨R, h1, h2⟩ => thn (h.run pos pins s σ H R I h1) fun u s1 ⟨v, H1, I1, r, q⟩ => ⟨v, H1, I1, r, h2 _ _ q⟩⟩
theorem pt_c (h : PT X e tt) : PT X e (cTT tt) := ⟨fun pins s σ H Q I ⟨R, h1, h2⟩ => thn (h.run pins s σ H R I h1) fun u s1 ⟨H1, I1, q⟩ => ⟨H1, I1, h2 _ _ q⟩⟩
theorem pe_weak {te' : TE} (h : PE X e te) (w : ∀ σ H Q, te' σ H Q → te σ H Q) : PE X e te' := ⟨fun pins s σ H Q I q => h.run pins s σ H Q I (w σ H Q q)⟩
theorem ps_weak {st : Stmt} {t t' : TS} (h : PS X st t) (w : ∀ D σ H, t' D σ H → t D σ H) : PS X st t' := ⟨fun pins s σ H D I q => h.run pins s σ H D I (w D σ H q)⟩
end
/-- what is wanted of a new object -/
def NewO (o : HO) (H : Hp) (Q : VK) : Prop := ∀ p H', H p = none → Same H H' → H' p = some o → Q (.ref p) H'
theorem NewO.go {o : HO} {H : Hp} {Q : VK} (h : NewO o H Q) : ∀ p, H p = none → Q (.ref p) (upd H p o) := fun p hp => h p _ hp (same_upd hp) upd_same
@[irreducible] def mTup (t : TA) : TE := fun σ H Q => t σ H fun xs H1 => xs.length ≤ 1000 ∧ NewO (.tup xs) H1 Q
@[irreducible] def mLst (t : TA) : TE := fun σ H Q => t σ H fun xs H1 => xs.length ≤ 1000 ∧ NewO (.lst xs) H1 Q
theorem rd_tup {t : TA} {σ : L2.St} {H : Hp} {Q : VK} (h : t σ H fun xs H1 => xs.length ≤ 1000 ∧ NewO (.tup xs) H1 Q) : mTup t σ H Q := by
  unfold mTup
  exact h
theorem rd_lst {t : TA} {σ : L2.St} {H : Hp} {Q : VK} (h : t σ H fun xs H1 => xs.length ≤ 1000 ∧ NewO (.lst xs) H1 Q) : mLst t σ H Q := by
  unfold mLst
  exact h
@[irreducible] def mCat (K : PySem.W.Frag) : R2 := fun x y H Q => ∃ l b xs zs, x = .ref l ∧ y = .ref b ∧ H l = some (.lst xs) ∧ H b = some (.lst zs) ∧ xs.length + zs.length ≤ 1000000 ∧ NewO (.lst (xs ++ zs)) H Q
theorem rd_cat {K : PySem.W.Frag} {l b : Addr} {xs zs : List V} {H : Hp} {Q : VK} (h1 : H l = some (.lst xs)) (h2 : H b = some (.lst zs)) (hz : xs.length + zs.length ≤ 1000000) (h : NewO (.lst (xs ++ zs)) H Q) : mCat K (.ref l) (.ref b) H Q := by
  unfold mCat
  exact ⟨l, b, xs, zs, rfl, rfl, h1, h2, hz, h⟩
@[irreducible] def mRep : R2 := fun x y H Q => ∃ l k xs, x = .ref l ∧ y = .int k ∧ H l = some (.lst xs) ∧ 0 ≤ k ∧ k ≤ 100000 ∧ xs.length * k.toNat ≤ 1000000 ∧ NewO (.lst (List.replicate k.toNat xs).flatten) H Q
@[irreducible] def mSlL (K : PySem.W.Frag) : V → Option Int → Option Int → Hp → VK → Prop := fun x lo hi H Q => ∃ a xs, x = .ref a ∧ SqL K H a xs ∧ NewO (.lst (cutV xs lo hi)) H Q
theorem rd_sl {K : PySem.W.Frag} {a : Addr} {xs : List V} {lo hi : Option Int} {H : Hp} {Q : VK} (h1 : SqL K H a xs) (h : NewO (.lst (cutV xs lo hi)) H Q) : mSlL K (.ref a) lo hi H Q := by
  unfold mSlL
  exact ⟨a, xs, rfl, h1, h⟩
@[irreducible] def mListOf (K : PySem.W.Frag) : List V → Hp → VK → Prop := fun xs H Q => ∃ p ys, xs = [.ref p] ∧ (SqL K H p ys ∨ SqT K H p ys) ∧ NewO (.lst ys) H Q
theorem rd_list {K : PySem.W.Frag} {a : Addr} {xs : List V} {H : Hp} {Q : VK} (h1 : SqL K H a xs) (h : NewO (.lst xs) H Q) : mListOf K [.ref a] H Q := by
  unfold mListOf
  exact ⟨a, xs, rfl, .inl h1, h⟩
/-- the elements of a comprehension, one by one: what each gives, the heap grown at most -/
def Elt (te : TE) (σ : L2.St) (H : Hp) (y : V) : Prop := ∀ H', Same H H' → te σ H' fun v H'' => v = y ∧ Same H' H''
@[irreducible] def mLcR1 (ta : TA) (j : Nat) (te : TE) (vs : List Nat) : TE := fun σ H Q => ta σ H fun ws H1 => ∃ (n : Int) (f : Nat → V), ws = [.int n] ∧ (-100000 ≤ n ∧ n ≤ 100000) ∧ (∀ i, i < n.toNat → Elt te ((wipe σ vs).set j (some (.int (i : Nat)))) H1 (f i)) ∧ NewO (.lst ((List.range n.toNat).map f)) H1 Q
theorem rd_lcR1 {ta : TA} {j : Nat} {te : TE} {vs : List Nat} {σ : L2.St} {H : Hp} {Q : VK} (h : ta σ H fun ws H1 => ∃ (n : Int) (f : Nat → V), ws = [.int n] ∧ (-100000 ≤ n ∧ n ≤ 100000) ∧ (∀ i, i < n.toNat → Elt te ((wipe σ vs).set j (some (.int (i : Nat)))) H1 (f i)) ∧ NewO (.lst ((List.range n.toNat).map f)) H1 Q) : mLcR1 ta j te vs σ H Q := by
  unfold mLcR1
  exact h
@[irreducible] def mLcL (K : PySem.W.Frag) (tl : TE) (j : Nat) (te : TE) (vs : List Nat) : TE := fun σ H Q => tl σ H fun x H1 => ∃ (a : Addr) (xs : List V) (f : V → V), x = .ref a ∧ SqL K H1 a xs ∧ xs.length ≤ 100000 ∧ (∀ y, y ∈ xs → Elt te ((wipe σ vs).set j (some y)) H1 (f y)) ∧ NewO (.lst (xs.map f)) H1 Q
theorem rd_lcL {K : PySem.W.Frag} {tl : TE} {j : Nat} {te : TE} {vs : List Nat} {σ : L2.St} {H : Hp} {Q : VK} (h : tl σ H fun x H1 => ∃ (a : Addr) (xs : List V) (f : V → V), x = .ref a ∧ SqL K H1 a xs ∧ xs.length ≤ 100000 ∧ (∀ y, y ∈ xs → Elt te ((wipe σ vs).set j (some y)) H1 (f y)) ∧ NewO (.lst (xs.map f)) H1 Q) : mLcL K tl j te vs σ H Q := by
  unfold mLcL
  exact h
theorem wipe_set {σ : L2.St} {vs : List Nat} {j : Nat} {x : Option V} (hj : vs = [j]) : wipe ((wipe σ vs).set j x) vs = wipe σ vs := by
  subst hj
  show ((σ.set j none).set j x).set j none = σ.set j none
  rw [List.set_set, List.set_set]
section
variable {X : Cx} {e : Expr} {es : List Expr} {te : TE} {t ta : TA} {tt : TT} {pos : Pos}
theorem pe_tupM {x1} (h : PA X es t) : PE X (.Tuple es x1 pos) (mTup t) := pe_weak (pe_tup (pa_c h)) fun σ H Q q => by
  unfold mTup at q
  exact ⟨_, q, fun xs H1 r => ⟨sz (Nat.le_trans r.1 (by decide)), r.2.go⟩⟩
theorem pe_lstM (h : PA X es t) : PE X (.List es pos) (mLst t) := pe_weak (pe_lst (pa_c h)) fun σ H Q q => by
  unfold mLst at q
  exact ⟨_, q, fun xs H1 r => ⟨sz (Nat.le_trans r.1 (by decide)), r.2.go⟩⟩
theorem op_catM : OpR X (binaryOp .Add) (mCat X.K) := fun pins s σ H x y v u Q I rx ry q => op_cat pins s σ H x y v u Q I rx ry (by
  unfold mCat at q
  obtain ⟨l, b, xs, zs, e1, e2, h1, h2, hz, h⟩ := q
  exact ⟨l, b, xs, zs, e1, e2, h1, h2, sz hz, h.go⟩)
theorem sl_listM : SlR X (mSlL X.K) := fun pins s σ H x v vl vu lo hi sl Q I rx hs pl pu q => sl_list pins s σ H x v vl vu lo hi sl Q I rx hs pl pu (by
  unfold mSlL at q
  obtain ⟨a, xs, e1, h1, h⟩ := q
  exact ⟨a, xs, e1, h1, h.go⟩)
theorem call_listM : CallR X (.type "list") (mListOf X.K) := fun pins s σ H xs us Q I r q => call_list_of pins s σ H xs us Q I r (by
  unfold mListOf at q
  obtain ⟨a, xs, e1, h1, h⟩ := q
  exact ⟨a, xs, e1, h1, h.go⟩)
/-- [e for x in range(n)] -/
theorem lcR1_of {ta : TA} {j : Nat} {te : TE} {vs : List Nat} {σ : L2.St} {H : Hp} {Q : VK} (hj : vs = [j]) (q : mLcR1 ta j te vs σ H Q) : tLc (iRng1 (cTA ta)) (gName j) tYes (cTE te) vs σ H Q := by
  unfold mLcR1 at q
  refine ⟨_, q, fun ws H1 r => ?_⟩
  obtain ⟨n, f, rfl, hn, he, hq⟩ := r
  obtain ⟨hn0, hn⟩ := hn
  have big : (2 : Int) ^ 62 = 4611686018427387904 := by decide
  refine ⟨n, rfl, by omega, by omega, fun D hD => ?_⟩
  refine lc_range (lo := 0) (n := n.toNat) (fun i H' => Same H1 H' ∧ H' D = some (.lst ((List.range i).map f))) ⟨same_upd hD, upd_same⟩ (fun i H' hi p => ⟨wipe_set hj, ?_⟩) fun H' p => hq D H' hD p.1 p.2
  show cTE te ((wipe σ vs).set j (some (.int (0 + (i : Int))))) H' _
  rw [Int.zero_add]
  refine ⟨_, he i hi H' p.1, fun y H'' r => ?_⟩
  obtain ⟨rfl, s2⟩ := r
  refine ⟨_, s2 _ _ p.2, szl (by rw [List.length_map, List.length_range]; omega), same_mut (p.1.trans s2) hD, ?_⟩
  rw [upd_same, List.range_succ, List.map_append]
  rfl
theorem take_snoc {α : Type} {l : List α} {i : Nat} {x : α} (h : l[i]? = some x) : l.take (i + 1) = l.take i ++ [x] := by
  rw [List.take_add_one, h]
  rfl
/-- [e for x in xs] -/
theorem lcL_of {K : PySem.W.Frag} {tl : TE} {j : Nat} {te : TE} {vs : List Nat} {σ : L2.St} {H : Hp} {Q : VK} (hj : vs = [j]) (q : mLcL K tl j te vs σ H Q) : tLc (iList K (cTE tl)) (gName j) tYes (cTE te) vs σ H Q := by
  unfold mLcL at q
  refine ⟨_, q, fun x H1 r => ?_⟩
  obtain ⟨a, xs, f, rfl, hx, hn, he, hq⟩ := r
  refine ⟨a, rfl, ⟨xs, hx⟩, fun D hD => ?_⟩
  refine lc_list (xs := xs) (fun i H' => Same H1 H' ∧ H' D = some (.lst ((xs.take i).map f))) ⟨same_upd hD, upd_same⟩ (fun i H' _ p => p.1.seq hx) (fun i y H' hi p => ⟨wipe_set hj, ?_⟩) fun H' p => hq D H' hD p.1 (by rw [p.2, List.take_length])
  have hy : y ∈ xs := List.mem_of_getElem? hi
  have hl : i < xs.length := (List.getElem?_eq_some_iff.mp hi).1
  show cTE te ((wipe σ vs).set j (some y)) H' _
  refine ⟨_, he y hy H' p.1, fun z H'' r => ?_⟩
  obtain ⟨rfl, s2⟩ := r
  refine ⟨_, s2 _ _ p.2, szl (by rw [List.length_map, List.length_take]; omega), same_mut (p.1.trans s2) hD, ?_⟩
  rw [upd_same, take_snoc hi, List.map_append]
  rfl
theorem pe_lcR1 {elt : Expr} {scope : Scope} {j : Nat} {x : Str} {a : Expr} {p p2 xpos : Pos} (hc : X.calm = true) (hN : X.N.Nodup) (hg : Gl X "range") (hm : X.mg "range" = none) (ha : PA X [a] ta) (ok : BlkOk X.N X.env.scope scope [(x, j)])
    (hgt : ∀ (s : Shared) (H : Hp) (C : Addr) (cl : List (Str × Addr)) (fp : List Addr), PG (X.blk s H scope (compEnvC scope cl C X.env) fp) (.Name x xpos) (gName j))
    (he : ∀ (s : Shared) (H : Hp) (C : Addr) (cl : List (Str × Addr)) (fp : List Addr), PE (X.blk s H scope (compEnvC scope cl C X.env) fp) elt te)
    (hs : starEach [a] X.env = [(false, eval a X.env)] := by rfl) (hs2 : ∀ y, foldedSetIterable (.Call (.Name "range" p) [a] [] p2) X.env y = pure y := by intro _; rfl) :
    PE X (.ListComp elt [⟨.Name x xpos, .Call (.Name "range" p) [a] [] p2, [], 0⟩] scope pos) (mLcR1 ta j te [j]) :=
  pe_weak (pe_lc hc hN (pi_range1 hg hm (pa_c ha) hs) ok hgt (fun _ _ _ _ _ => pts_nil) (fun s H C cl fp => pe_c (he s H C cl fp)) hs2) fun _ _ _ q => lcR1_of rfl q
theorem pe_lcL {elt it : Expr} {scope : Scope} {j : Nat} {x : Str} {xpos : Pos} (hc : X.calm = true) (hN : X.N.Nodup) {tl : TE} (ha : PE X it tl) (ok : BlkOk X.N X.env.scope scope [(x, j)])
    (hgt : ∀ (s : Shared) (H : Hp) (C : Addr) (cl : List (Str × Addr)) (fp : List Addr), PG (X.blk s H scope (compEnvC scope cl C X.env) fp) (.Name x xpos) (gName j))
    (he : ∀ (s : Shared) (H : Hp) (C : Addr) (cl : List (Str × Addr)) (fp : List Addr), PE (X.blk s H scope (compEnvC scope cl C X.env) fp) elt te) (hs2 : ∀ y, foldedSetIterable it X.env y = pure y := by intro _; rfl) :
    PE X (.ListComp elt [⟨.Name x xpos, it, [], 0⟩] scope pos) (mLcL X.K tl j te [j]) :=
  pe_weak (pe_lc hc hN (pi_list (pe_c ha)) ok hgt (fun _ _ _ _ _ => pts_nil) (fun s H C cl fp => pe_c (he s H C cl fp)) hs2) fun _ _ _ q => lcL_of rfl q
theorem ps_setLcR1 {i : Nat} {y : Str} {py spos : Pos} {elt : Expr} {scope : Scope} {j : Nat} {x : Str} {a : Expr} {p p2 xpos : Pos} (hc : X.calm = true) (hN : X.N.Nodup) (hy : X.N[i]? = some y) (hyl : X.env.scope.names.lookup y = some .local)
    (hsw : swapsWith (.ListComp elt [⟨.Name x xpos, .Call (.Name "range" p) [a] [] p2, [], 0⟩] scope pos) (some (.Name y py)) spos.line X.env = pure true) (hg : Gl X "range") (hm : X.mg "range" = none) (ha : PA X [a] ta) (ok : BlkOk X.N X.env.scope scope [(x, j)])
    (hgt : ∀ (s : Shared) (H : Hp) (C : Addr) (cl : List (Str × Addr)) (fp : List Addr), PG (X.blk s H scope (compEnvC scope cl C X.env) fp) (.Name x xpos) (gName j))
    (he : ∀ (s : Shared) (H : Hp) (C : Addr) (cl : List (Str × Addr)) (fp : List Addr), PE (X.blk s H scope (compEnvC scope cl C X.env) fp) elt te)
    (hs : starEach [a] X.env = [(false, eval a X.env)] := by rfl) (hs2 : ∀ y, foldedSetIterable (.Call (.Name "range" p) [a] [] p2) X.env y = pure y := by intro _; rfl) :
    PS X (.Assign [.Name y py] (.ListComp elt [⟨.Name x xpos, .Call (.Name "range" p) [a] [] p2, [], 0⟩] scope pos) spos) (tAsg (mLcR1 ta j te [j]) (gName i)) :=
  ps_weak (ps_setLc hc hN hy hyl hsw (pi_range1 hg hm (pa_c ha) hs) ok hgt (fun _ _ _ _ _ => pts_nil) (fun s H C cl fp => pe_c (he s H C cl fp)) hs2) fun _ _ _ q => lcR1_of rfl q
theorem ps_setLcL {i : Nat} {y : Str} {py spos : Pos} {elt it : Expr} {scope : Scope} {j : Nat} {x : Str} {xpos : Pos} {tl : TE} (hc : X.calm = true) (hN : X.N.Nodup) (hy : X.N[i]? = some y) (hyl : X.env.scope.names.lookup y = some .local)
    (hsw : swapsWith (.ListComp elt [⟨.Name x xpos, it, [], 0⟩] scope pos) (some (.Name y py)) spos.line X.env = pure true) (ha : PE X it tl) (ok : BlkOk X.N X.env.scope scope [(x, j)])
    (hgt : ∀ (s : Shared) (H : Hp) (C : Addr) (cl : List (Str × Addr)) (fp : List Addr), PG (X.blk s H scope (compEnvC scope cl C X.env) fp) (.Name x xpos) (gName j))
    (he : ∀ (s : Shared) (H : Hp) (C : Addr) (cl : List (Str × Addr)) (fp : List Addr), PE (X.blk s H scope (compEnvC scope cl C X.env) fp) elt te) (hs2 : ∀ y, foldedSetIterable it X.env y = pure y := by intro _; rfl) :
    PS X (.Assign [.Name y py] (.ListComp elt [⟨.Name x xpos, it, [], 0⟩] scope pos) spos) (tAsg (mLcL X.K tl j te [j]) (gName i)) :=
  ps_weak (ps_setLc hc hN hy hyl hsw (pi_list (pe_c ha)) ok hgt (fun _ _ _ _ _ => pts_nil) (fun s H C cl fp => pe_c (he s H C cl fp)) hs2) fun _ _ _ q => lcL_of rfl q
/-! ### loops that stop the walk -/
@[irreducible] def mForR1 (ta : TA) (j : Nat) (tb : TS) : TS := fun D σ H => ta σ H fun ws H1 => ∃ (n : Int) (Pv : Nat → L2.St → Hp → Prop), ws = [.int n] ∧ (-100000 ≤ n ∧ n ≤ 100000) ∧ Pv 0 σ H1 ∧
  (∀ i σ' H', i < n.toNat → Pv i σ' H' → tb { D with nx := Pv (i + 1), ct := Pv (i + 1), bk := D.nx } (σ'.set j (some (.int (i : Nat)))) H') ∧ ∀ σ' H', Pv n.toNat σ' H' → D.nx σ' H'
theorem rd_forR1 {ta : TA} {j : Nat} {tb : TS} {D : Ends} {σ : L2.St} {H : Hp} (h : ta σ H fun ws H1 => ∃ (n : Int) (Pv : Nat → L2.St → Hp → Prop), ws = [.int n] ∧ (-100000 ≤ n ∧ n ≤ 100000) ∧ Pv 0 σ H1 ∧
  (∀ i σ' H', i < n.toNat → Pv i σ' H' → tb { D with nx := Pv (i + 1), ct := Pv (i + 1), bk := D.nx } (σ'.set j (some (.int (i : Nat)))) H') ∧ ∀ σ' H', Pv n.toNat σ' H' → D.nx σ' H') : mForR1 ta j tb D σ H := by
  unfold mForR1
  exact h
theorem forR1_of {ta : TA} {j : Nat} {tb : TS} {D : Ends} {σ : L2.St} {H : Hp} (q : mForR1 ta j tb D σ H) : tFor (iRng1 (cTA ta)) (gName j) tb D σ H := by
  unfold mForR1 at q
  refine ⟨_, q, fun ws H1 r => ?_⟩
  obtain ⟨n, Pv, rfl, ⟨hn0, hn⟩, h0, hs, hd⟩ := r
  have big : (2 : Int) ^ 62 = 4611686018427387904 := by decide
  refine ⟨n, rfl, by omega, by omega, for_range (lo := 0) (n := n.toNat) Pv h0 (fun i σ' H' hi p => ?_) hd⟩
  show tb _ (σ'.set j (some (.int (0 + (i : Int))))) H'
  rw [Int.zero_add]
  exact hs i σ' H' hi p
theorem ps_forR1 {j : Nat} {x : Str} {a : Expr} {body : List Stmt} {tb : TS} {p p2 xpos : Pos} (hp : PassesOwn (model X.prog X.w) X.A X.env X.xe) (hc : X.calm = true) (hg : Gl X "range") (hm : X.mg "range" = none) (ha : PA X [a] ta) (hgt : PG X (.Name x xpos) (gName j)) (hb : PSs X body tb)
    (hs : starEach [a] X.env = [(false, eval a X.env)] := by rfl) (hs2 : ∀ y, foldedSetIterable (.Call (.Name "range" p) [a] [] p2) X.env y = pure y := by intro _; rfl) : PS X (.For (.Name x xpos) (.Call (.Name "range" p) [a] [] p2) body [] pos) (mForR1 ta j tb) :=
  ps_weak (ps_for hp hc (pi_range1 hg hm (pa_c ha) hs) hgt hb hs2) fun _ _ _ q => forR1_of q
@[irreducible] def mForR2 (ta : TA) (j : Nat) (tb : TS) : TS := fun D σ H => ta σ H fun ws H1 => ∃ (lo n : Int) (Pv : Nat → L2.St → Hp → Prop), ws = [.int lo, .int n] ∧ (-4000000000000000000 ≤ lo ∧ lo ≤ 4000000000000000000 ∧ -4000000000000000000 ≤ n ∧ n ≤ 4000000000000000000) ∧ Pv 0 σ H1 ∧
  (∀ i σ' H', i < (n - lo).toNat → Pv i σ' H' → tb { D with nx := Pv (i + 1), ct := Pv (i + 1), bk := D.nx } (σ'.set j (some (.int (lo + (i : Int))))) H') ∧ ∀ σ' H', Pv (n - lo).toNat σ' H' → D.nx σ' H'
theorem rd_forR2 {ta : TA} {j : Nat} {tb : TS} {D : Ends} {σ : L2.St} {H : Hp} (h : ta σ H fun ws H1 => ∃ (lo n : Int) (Pv : Nat → L2.St → Hp → Prop), ws = [.int lo, .int n] ∧ (-4000000000000000000 ≤ lo ∧ lo ≤ 4000000000000000000 ∧ -4000000000000000000 ≤ n ∧ n ≤ 4000000000000000000) ∧ Pv 0 σ H1 ∧
  (∀ i σ' H', i < (n - lo).toNat → Pv i σ' H' → tb { D with nx := Pv (i + 1), ct := Pv (i + 1), bk := D.nx } (σ'.set j (some (.int (lo + (i : Int))))) H') ∧ ∀ σ' H', Pv (n - lo).toNat σ' H' → D.nx σ' H') : mForR2 ta j tb D σ H := by
  unfold mForR2
  exact h
theorem ps_forR2 {j : Nat} {x : Str} {a b : Expr} {body : List Stmt} {tb : TS} {p p2 xpos : Pos} (hp : PassesOwn (model X.prog X.w) X.A X.env X.xe) (hc : X.calm = true) (hg : Gl X "range") (hm : X.mg "range" = none) (ha : PA X [a, b] ta) (hgt : PG X (.Name x xpos) (gName j)) (hb : PSs X body tb)
    (hs : starEach [a, b] X.env = [(false, eval a X.env), (false, eval b X.env)] := by rfl) (hs3 : starEach [b] X.env = [(false, eval b X.env)] := by rfl) (hs2 : ∀ y, foldedSetIterable (.Call (.Name "range" p) [a, b] [] p2) X.env y = pure y := by intro _; rfl) :
    PS X (.For (.Name x xpos) (.Call (.Name "range" p) [a, b] [] p2) body [] pos) (mForR2 ta j tb) :=
  ps_weak (ps_for hp hc (pi_range2 hg hm (pa_c ha) hs hs3) hgt hb hs2) fun D σ H q => by
    unfold mForR2 at q
    refine ⟨_, q, fun ws H1 r => ?_⟩
    obtain ⟨lo, n, Pv, rfl, ⟨h1, h2, h3, h4⟩, h0, hs, hd⟩ := r
    have big : (2 : Int) ^ 62 = 4611686018427387904 := by decide
    exact ⟨lo, n, rfl, ⟨by omega, by omega, by omega, by omega⟩, for_range (lo := lo) (n := (n - lo).toNat) Pv h0 (fun i σ' H' hi p => hs i σ' H' hi p) hd⟩
/-- for x in xs -/
@[irreducible] def mForL (K : PySem.W.Frag) (tl : TE) (j : Nat) (tb : TS) : TS := fun D σ H => tl σ H fun x H1 => ∃ (a : Addr) (xs : List V) (Pv : Nat → L2.St → Hp → Prop), x = .ref a ∧ SqL K H1 a xs ∧ Pv 0 σ H1 ∧ (∀ i σ' H', i ≤ xs.length → Pv i σ' H' → SqL K H' a xs) ∧
  (∀ i y σ' H', xs[i]? = some y → Pv i σ' H' → tb { D with nx := Pv (i + 1), ct := Pv (i + 1), bk := D.nx } (σ'.set j (some y)) H') ∧ ∀ σ' H', Pv xs.length σ' H' → D.nx σ' H'
theorem rd_forL {K : PySem.W.Frag} {tl : TE} {j : Nat} {tb : TS} {D : Ends} {σ : L2.St} {H : Hp} (h : tl σ H fun x H1 => ∃ (a : Addr) (xs : List V) (Pv : Nat → L2.St → Hp → Prop), x = .ref a ∧ SqL K H1 a xs ∧ Pv 0 σ H1 ∧ (∀ i σ' H', i ≤ xs.length → Pv i σ' H' → SqL K H' a xs) ∧
  (∀ i y σ' H', xs[i]? = some y → Pv i σ' H' → tb { D with nx := Pv (i + 1), ct := Pv (i + 1), bk := D.nx } (σ'.set j (some y)) H') ∧ ∀ σ' H', Pv xs.length σ' H' → D.nx σ' H') : mForL K tl j tb D σ H := by
  unfold mForL
  exact h
theorem ps_forL {j : Nat} {x : Str} {it : Expr} {body : List Stmt} {tb : TS} {tl : TE} {xpos : Pos} (hp : PassesOwn (model X.prog X.w) X.A X.env X.xe) (hc : X.calm = true) (ha : PE X it tl) (hgt : PG X (.Name x xpos) (gName j)) (hb : PSs X body tb)
    (hs2 : ∀ y, foldedSetIterable it X.env y = pure y := by intro _; rfl) : PS X (.For (.Name x xpos) it body [] pos) (mForL X.K tl j tb) :=
  ps_weak (ps_for hp hc (pi_list (pe_c ha)) hgt hb hs2) fun D σ H q => by
    unfold mForL at q
    refine ⟨_, q, fun x H1 r => ?_⟩
    obtain ⟨a, xs, Pv, rfl, hx, h0, hl, hs, hd⟩ := r
    exact ⟨a, rfl, ⟨xs, hx⟩, for_list (xs := xs) Pv h0 hl (fun i y σ' H' hi p => hs i y σ' H' hi p) hd⟩
/-- for .. in xs, the target of any form -/
@[irreducible] def mForG (K : PySem.W.Frag) (tl : TE) (g : TG) (tb : TS) : TS := fun D σ H => tl σ H fun x H1 => ∃ (a : Addr) (xs : List V) (Pv : Nat → L2.St → Hp → Prop), x = .ref a ∧ SqL K H1 a xs ∧ Pv 0 σ H1 ∧ (∀ i σ' H', i ≤ xs.length → Pv i σ' H' → SqL K H' a xs) ∧
  (∀ i y σ' H', xs[i]? = some y → Pv i σ' H' → g y σ' H' fun σ2 H2 => tb { D with nx := Pv (i + 1), ct := Pv (i + 1), bk := D.nx } σ2 H2) ∧ ∀ σ' H', Pv xs.length σ' H' → D.nx σ' H'
theorem rd_forG {K : PySem.W.Frag} {tl : TE} {g : TG} {tb : TS} {D : Ends} {σ : L2.St} {H : Hp} (h : tl σ H fun x H1 => ∃ (a : Addr) (xs : List V) (Pv : Nat → L2.St → Hp → Prop), x = .ref a ∧ SqL K H1 a xs ∧ Pv 0 σ H1 ∧ (∀ i σ' H', i ≤ xs.length → Pv i σ' H' → SqL K H' a xs) ∧
  (∀ i y σ' H', xs[i]? = some y → Pv i σ' H' → g y σ' H' fun σ2 H2 => tb { D with nx := Pv (i + 1), ct := Pv (i + 1), bk := D.nx } σ2 H2) ∧ ∀ σ' H', Pv xs.length σ' H' → D.nx σ' H') : mForG K tl g tb D σ H := by
  unfold mForG
  exact h
theorem ps_forG {tg it : Expr} {body : List Stmt} {g : TG} {tb : TS} {tl : TE} (hp : PassesOwn (model X.prog X.w) X.A X.env X.xe) (hc : X.calm = true) (ha : PE X it tl) (hgt : PG X tg g) (hb : PSs X body tb)
    (hs2 : ∀ y, foldedSetIterable it X.env y = pure y := by intro _; rfl) : PS X (.For tg it body [] pos) (mForG X.K tl g tb) :=
  ps_weak (ps_for hp hc (pi_list (pe_c ha)) hgt hb hs2) fun D σ H q => by
    unfold mForG at q
    refine ⟨_, q, fun x H1 r => ?_⟩
    obtain ⟨a, xs, Pv, rfl, hx, h0, hl, hs, hd⟩ := r
    exact ⟨a, rfl, ⟨xs, hx⟩, for_list (xs := xs) Pv h0 hl (fun i y σ' H' hi p => hs i y σ' H' hi p) hd⟩
/-- for x, y in zip(xs, ys), lists of one length -/
@[irreducible] def mForZ (K : PySem.W.Frag) (ta : TA) (i1 i2 : Nat) (tb : TS) : TS := fun D σ H => ta σ H fun ws H1 => ∃ (a b : Addr) (xs ys : List V) (Pv : Nat → L2.St → Hp → Prop), ws = [.ref a, .ref b] ∧ SqL K H1 a xs ∧ SqL K H1 b ys ∧ xs.length = ys.length ∧ Pv 0 σ H1 ∧ (∀ i σ' H', Pv i σ' H' → SqL K H' a xs ∧ SqL K H' b ys) ∧
  (∀ i x y σ' H' H'', xs[i]? = some x → ys[i]? = some y → Pv i σ' H' → Same H' H'' → tb { D with nx := Pv (i + 1), ct := Pv (i + 1), bk := D.nx } ((σ'.set i1 (some x)).set i2 (some y)) H'') ∧ ∀ σ' H', Pv xs.length σ' H' → D.nx σ' H'
theorem rd_forZ {K : PySem.W.Frag} {ta : TA} {i1 i2 : Nat} {tb : TS} {D : Ends} {σ : L2.St} {H : Hp} (h : ta σ H fun ws H1 => ∃ (a b : Addr) (xs ys : List V) (Pv : Nat → L2.St → Hp → Prop), ws = [.ref a, .ref b] ∧ SqL K H1 a xs ∧ SqL K H1 b ys ∧ xs.length = ys.length ∧ Pv 0 σ H1 ∧ (∀ i σ' H', Pv i σ' H' → SqL K H' a xs ∧ SqL K H' b ys) ∧
  (∀ i x y σ' H' H'', xs[i]? = some x → ys[i]? = some y → Pv i σ' H' → Same H' H'' → tb { D with nx := Pv (i + 1), ct := Pv (i + 1), bk := D.nx } ((σ'.set i1 (some x)).set i2 (some y)) H'') ∧ ∀ σ' H', Pv xs.length σ' H' → D.nx σ' H') : mForZ K ta i1 i2 tb D σ H := by
  unfold mForZ
  exact h
theorem ps_forZ {e e2 : Expr} {kk : Nat} {p p2 tpos : Pos} {i1 i2 : Nat} {body : List Stmt} {tb : TS} {t1 t2 : Expr} (hp : PassesOwn (model X.prog X.w) X.A X.env X.xe) (hc : X.calm = true) (hg : Gl X "zip") (hm : X.mg "zip" = none) (ha : PA X [e, e2] ta)
    (hgt : PG X (.Tuple [t1, t2] kk tpos) (gTup X.K 2 (gCons (gName i1) (gCons (gName i2) gNil)))) (hb : PSs X body tb)
    (hs : starEach [e, e2] X.env = (false, eval e X.env) :: starEach [e2] X.env := by rfl) (hpl : (backTo p2 (starEach [e2] X.env)).any (·.1) = false := by rfl) (hs2 : ∀ y, foldedSetIterable (.Call (.Name "zip" p) [e, e2] [] p2) X.env y = pure y := by intro _; rfl) :
    PS X (.For (.Tuple [t1, t2] kk tpos) (.Call (.Name "zip" p) [e, e2] [] p2) body [] pos) (mForZ X.K ta i1 i2 tb) :=
  ps_weak (ps_for hp hc (pi_zip hg hm (pa_c ha) hs hpl) hgt hb hs2) fun D σ H q => by
    unfold mForZ at q
    refine ⟨_, q, fun ws H1 r => ?_⟩
    obtain ⟨a, b, xs, ys, Pv, rfl, hx, hy, hl, h0, hq, hs, hd⟩ := r
    refine ⟨a, b, xs, ys, rfl, hx, hy, RZ.for_zipL hl Pv h0 hq (fun i x y T σ' H' h1 h2 p hT => ?_) hd⟩
    exact ⟨T, [x, y], rfl, st_of upd_same, rfl, x, [y], rfl, y, [], rfl, rfl, hs i x y σ' H' _ h1 h2 p (same_upd hT)⟩
end
theorem ite_ei {x y : Int} {A B : Prop} (hc : x = y) (h : A) : if decide (V.int x = V.int y) = true then A else B := ite_t (congrArg V.int hc) h
theorem ite_eif {x y : Int} {A B : Prop} (hc : x ≠ y) (h : B) : if decide (V.int x = V.int y) = true then A else B := ite_f (fun e => hc (V.int.inj e)) h
theorem ite_ni {x y : Int} {A B : Prop} (hc : x = y) (h : B) : if (!decide (V.int x = V.int y)) = true then A else B := ite_nf (congrArg V.int hc) h
theorem ite_nit {x y : Int} {A B : Prop} (hc : x ≠ y) (h : A) : if (!decide (V.int x = V.int y)) = true then A else B := ite_nt (fun e => hc (V.int.inj e)) h
theorem ite_eby {x y : Int} {A B : Prop} (h1 : x = y → A) (h2 : x ≠ y → B) : if decide (V.int x = V.int y) = true then A else B := ite_by (fun e => h1 (V.int.inj e)) (fun n => h2 fun e => n (congrArg V.int e))
theorem ite_enby {x y : Int} {A B : Prop} (h1 : x ≠ y → A) (h2 : x = y → B) : if (!decide (V.int x = V.int y)) = true then A else B := ite_nby (fun n => h1 fun e => n (congrArg V.int e)) (fun e => h2 (V.int.inj e))

/-! ### branches that stop the walk -/
@[irreducible] def Br (b : Bool) (A B : Prop) : Prop := if b = true then A else B
section
variable {b : Bool} {A B : Prop}
theorem Br.un (h : Br b A B) : if b = true then A else B := by
  unfold Br at h
  exact h
theorem br_of (h : if b = true then A else B) : Br b A B := by
  unfold Br
  exact h
theorem br_T (h : A) : Br true A B := br_of (iteT h)
theorem br_F (h : B) : Br false A B := br_of (iteF h)
theorem br_nT (h : A) : Br (!false) A B := br_of (iteT h)
theorem br_nF (h : B) : Br (!true) A B := br_of (iteF h)
theorem br_t {c : Prop} [Decidable c] (hc : c) (h : A) : Br (decide c) A B := br_of (ite_t hc h)
theorem br_f {c : Prop} [Decidable c] (hc : ¬ c) (h : B) : Br (decide c) A B := br_of (ite_f hc h)
theorem br_nt {c : Prop} [Decidable c] (hc : ¬ c) (h : A) : Br (!decide c) A B := br_of (ite_nt hc h)
theorem br_nf {c : Prop} [Decidable c] (hc : c) (h : B) : Br (!decide c) A B := br_of (ite_nf hc h)
theorem br_by {c : Prop} [Decidable c] (h1 : c → A) (h2 : ¬ c → B) : Br (decide c) A B := br_of (ite_by h1 h2)
theorem br_nby {c : Prop} [Decidable c] (h1 : ¬ c → A) (h2 : c → B) : Br (!decide c) A B := br_of (ite_nby h1 h2)
theorem br_ei {x y : Int} (hc : x = y) (h : A) : Br (decide (V.int x = V.int y)) A B := br_of (ite_ei hc h)
theorem br_eif {x y : Int} (hc : x ≠ y) (h : B) : Br (decide (V.int x = V.int y)) A B := br_of (ite_eif hc h)
theorem br_ni {x y : Int} (hc : x = y) (h : B) : Br (!decide (V.int x = V.int y)) A B := br_of (ite_ni hc h)
theorem br_nit {x y : Int} (hc : x ≠ y) (h : A) : Br (!decide (V.int x = V.int y)) A B := br_of (ite_nit hc h)
theorem br_eby {x y : Int} (h1 : x = y → A) (h2 : x ≠ y → B) : Br (decide (V.int x = V.int y)) A B := br_of (ite_eby h1 h2)
theorem br_enby {x y : Int} (h1 : x ≠ y → A) (h2 : x = y → B) : Br (!decide (V.int x = V.int y)) A B := br_of (ite_enby h1 h2)
theorem br_b (h1 : b = true → A) (h2 : b = false → B) : Br b A B := by
  cases b with
  | true => exact br_T (h1 rfl)
  | false => exact br_F (h2 rfl)
end
def mIfS (c : TT) (t u : TS) : TS := fun D σ H => c σ H fun b H1 => Br b (t D σ H1) (u D σ H1)
def mIf (c : TT) (ta tb : TE) : TE := fun σ H Q => c σ H fun b H1 => Br b (ta σ H1 Q) (tb σ H1 Q)
def mAnd (t u : TT) : TT := fun σ H Q => t σ H fun c H1 => Br c (u σ H1 Q) (Q false H1)
def mOr (t u : TT) : TT := fun σ H Q => t σ H fun c H1 => Br c (Q true H1) (u σ H1 Q)
def mAndV (ta tb : TE) : TE := fun σ H Q => ta σ H fun x H1 => ∃ c, x = .bl c ∧ Br c (tb σ H1 Q) (Q (.bl false) H1)
def mOrV (ta tb : TE) : TE := fun σ H Q => ta σ H fun x H1 => ∃ c, x = .bl c ∧ Br c (Q (.bl true) H1) (tb σ H1 Q)
def mChain (r r' : R2) (ta tb tc : TE) : TE := fun σ H Q => ta σ H fun x H1 => tb σ H1 fun y H2 => r x y H2 fun z H3 => ∃ k, z = .bl k ∧ Br k (tc σ H3 fun w' H4 => r' y w' H4 Q) (Q (.bl false) H3)
def mNot (t : TT) : TT := fun σ H Q => t σ H fun c H1 => Q (!c) H1
def cR2 (r : R2) : R2 := fun x y H Q => ∃ R : VK, r x y H R ∧ ∀ v H', R v H' → Q v H'
section
variable {X : Cx} {e a b c : Expr} {ta tb tc : TE} {tt tA tB' : TT} {pos : Pos} {t u : TS} {rest : List Expr}
theorem pw_weak {tt' : TT} (h : PW X e tt) (w : ∀ σ H Q, tt' σ H Q → tt σ H Q) : PW X e tt' := ⟨fun wh pins s σ H Q I q => h.run wh pins s σ H Q I (w σ H Q q)⟩
theorem pt_weak {tt' : TT} (h : PT X e tt) (w : ∀ σ H Q, tt' σ H Q → tt σ H Q) : PT X e tt' := ⟨fun pins s σ H Q I q => h.run pins s σ H Q I (w σ H Q q)⟩
theorem opr_c {f : Value → Value → Sem Value} {r : R2} (h : OpR X f r) : OpR X f (cR2 r) := fun pins s σ H x y v u Q I rx ry ⟨R, h1, h2⟩ => thn (h pins s σ H x y v u R I rx ry h1) fun w s1 ⟨z, H1, I1, rz, q⟩ => ⟨z, H1, I1, rz, h2 _ _ q⟩
theorem ps_ifM {bs us : List Stmt} (hc : PT X c tt) (ha : PSs X bs t) (hb : PSs X us u) : PS X (.If c bs us pos) (mIfS tt t u) := ps_weak (ps_if (pt_c hc) ha hb) fun D σ H q => ⟨_, q, fun b H1 r => r.un⟩
theorem pe_ifM (hc : PT X c tt) (ha : PE X a ta) (hb : PE X b tb) : PE X (.IfExp c a b pos) (mIf tt ta tb) := pe_weak (pe_ifExp (pt_c hc) ha hb) fun σ H Q q => ⟨_, q, fun b H1 r => r.un⟩
theorem pw_andM (ha : PT X a tA) (hb : PW X (.BoolOp .And (b :: rest) pos) tB') : PW X (.BoolOp .And (a :: b :: rest) pos) (mAnd tA tB') := pw_weak (pw_and (pt_c ha) hb) fun σ H Q q => ⟨_, q, fun b H1 r => r.un⟩
theorem pw_orM (ha : PT X a tA) (hb : PW X (.BoolOp .Or (b :: rest) pos) tB') : PW X (.BoolOp .Or (a :: b :: rest) pos) (mOr tA tB') := pw_weak (pw_or (pt_c ha) hb) fun σ H Q q => ⟨_, q, fun b H1 r => r.un⟩
theorem pe_andM (ha : PE X a ta) (hb : PE X (.BoolOp .And (b :: rest) pos) tb) : PE X (.BoolOp .And (a :: b :: rest) pos) (mAndV ta tb) := pe_weak (pe_and (pe_c ha) hb) fun σ H Q q => ⟨_, q, fun v H1 ⟨c, e, r⟩ => ⟨c, e, r.un⟩⟩
theorem pe_orM (ha : PE X a ta) (hb : PE X (.BoolOp .Or (b :: rest) pos) tb) : PE X (.BoolOp .Or (a :: b :: rest) pos) (mOrV ta tb) := pe_weak (pe_or (pe_c ha) hb) fun σ H Q q => ⟨_, q, fun v H1 ⟨c, e, r⟩ => ⟨c, e, r.un⟩⟩
theorem pe_chainM {op op' : CmpOp} {r r' : R2} (ho : OpR X (compareOp op) r) (ho' : OpR X (compareOp op') r') (ha : PE X a ta) (hb : PE X b tb) (hc : PE X c tc) (hm : lastMarks [op, op'] [b, c] = false := by with_unfolding_all rfl) : PE X (.Compare a [op, op'] [b, c] pos) (mChain r r' ta tb tc) :=
  pe_weak (pe_chain (opr_c ho) ho' (pe_c ha) (pe_c hb) hc hm) fun σ H Q q => ⟨_, q, fun x H1 q1 => ⟨_, q1, fun y H2 q2 => ⟨_, q2, fun z H3 ⟨k, e, r⟩ => ⟨k, e, r.un⟩⟩⟩⟩
theorem pt_chainM {op op' : CmpOp} {r r' : R2} (ho : OpR X (compareOp op) r) (ho' : OpR X (compareOp op') r') (ha : PE X a ta) (hb : PE X b tb) (hc : PE X c tc) (hm : lastMarks [op, op'] [b, c] = false := by with_unfolding_all rfl) : PT X (.Compare a [op, op'] [b, c] pos) (tTest (mChain r r' ta tb tc)) :=
  pt_weak (pt_chain (opr_c ho) ho' (pe_c ha) (pe_c hb) hc hm) fun σ H Q q => ⟨_, q, fun x H1 q1 => ⟨_, q1, fun y H2 q2 => ⟨_, q2, fun z H3 ⟨k, e, r⟩ => ⟨k, e, r.un⟩⟩⟩⟩
end
/-! ### the operators, told without a redex -/
def mAdd : R2 := fun x y H Q => ∃ i j, x = .int i ∧ y = .int j ∧ Q (.int (i + j)) H
def mSub : R2 := fun x y H Q => ∃ i j, x = .int i ∧ y = .int j ∧ Q (.int (i - j)) H
def mMul : R2 := fun x y H Q => ∃ i j, x = .int i ∧ y = .int j ∧ CMul i j ∧ Q (.int (i * j)) H
def mMulW : R2 := fun x y H Q => ∃ i j, x = .int i ∧ y = .int j ∧ CMulW i j ∧ Q (.int (i * j)) H
def mDiv : R2 := fun x y H Q => ∃ i j, x = .int i ∧ y = .int j ∧ CDiv i j ∧ Q (.int (i / j)) H
def mDivW : R2 := fun x y H Q => ∃ i j, x = .int i ∧ y = .int j ∧ CDivW i j ∧ Q (.int (i / j)) H
def mMod : R2 := fun x y H Q => ∃ i j, x = .int i ∧ y = .int j ∧ 0 < j ∧ Q (.int (i % j)) H
def mPow : R2 := fun x y H Q => ∃ i j, x = .int i ∧ y = .int j ∧ CPow i j ∧ Q (.int (i ^ j.toNat)) H
def mShl1 : R2 := fun x y H Q => ∃ j, x = .int 1 ∧ y = .int j ∧ (0 ≤ j ∧ j ≤ 1000000) ∧ Q (.int (2 ^ j.toNat)) H
def mShl : R2 := fun x y H Q => ∃ i j, x = .int i ∧ y = .int j ∧ CShl i j ∧ Q (.int (i * 2 ^ j.toNat)) H
def mShr : R2 := fun x y H Q => ∃ i j, x = .int i ∧ y = .int j ∧ 0 ≤ j ∧ Q (.int (i / 2 ^ j.toNat)) H
def mAndI : R2 := fun x y H Q => ∃ i j, x = .int i ∧ y = .int j ∧ Q (.int (Builtin.bitAnd i j)) H
def mXorI : R2 := fun x y H Q => ∃ i j, x = .int i ∧ y = .int j ∧ Q (.int (Builtin.bitXor i j)) H
def mLt : R2 := fun x y H Q => ∃ i j, x = .int i ∧ y = .int j ∧ Q (.bl (decide (i < j))) H
def mLe : R2 := fun x y H Q => ∃ i j, x = .int i ∧ y = .int j ∧ Q (.bl (decide (i ≤ j))) H
def mGt : R2 := fun x y H Q => ∃ i j, x = .int i ∧ y = .int j ∧ Q (.bl (decide (j < i))) H
def mGe : R2 := fun x y H Q => ∃ i j, x = .int i ∧ y = .int j ∧ Q (.bl (decide (j ≤ i))) H
section
variable {X : Cx}
theorem op_addM : OpR X (binaryOp .Add) mAdd := op_add
theorem op_subM : OpR X (binaryOp .Sub) mSub := op_sub
theorem op_mulM : OpR X (binaryOp .Mult) mMul := op_mul
theorem op_mulWM : OpR X (binaryOp .Mult) mMulW := op_mulW
theorem op_fdivM : OpR X (binaryOp .FloorDiv) mDiv := op_fdiv
theorem op_fdivWM : OpR X (binaryOp .FloorDiv) mDivW := op_fdivW
theorem op_modM : OpR X (binaryOp .Mod) mMod := op_mod
theorem op_powM : OpR X (binaryOp .Pow) mPow := op_pow
theorem op_shl1M : OpR X (binaryOp .LShift) mShl1 := fun pins s σ H x y v u Q I rx ry ⟨j, e1, e2, hj, q⟩ => op_shl pins s σ H x y v u Q I rx ry ⟨1, j, e1, e2, ⟨hj.1, hj.2, by decide⟩, by
  show Q (.int (1 * 2 ^ j.toNat)) H
  rw [Int.one_mul]
  exact q⟩
theorem op_shlM : OpR X (binaryOp .LShift) mShl := op_shlW
theorem op_shrM : OpR X (binaryOp .RShift) mShr := op_shr
theorem op_bandM : OpR X (binaryOp .BitAnd) mAndI := op_and
theorem op_bxorM : OpR X (binaryOp .BitXor) mXorI := op_xor
theorem op_ltM : OpR X (compareOp .Lt) mLt := op_lt
theorem op_leM : OpR X (compareOp .LtE) mLe := op_le
theorem op_gtM : OpR X (compareOp .Gt) mGt := op_gt
theorem op_geM : OpR X (compareOp .GtE) mGe := op_ge
end

theorem two_pos (k : Nat) : (0 : Int) < 2 ^ k := Int.pow_pos (by decide)

@[irreducible] def mIsi (K : PySem.W.Frag) : List V → Hp → VK → Prop := rIsi K
theorem call_isiM {X : Cx} : CallR X (.builtin "isinstance") (mIsi X.K) := fun pins s σ H xs us Q I r q => call_isi pins s σ H xs us Q I r (by
  unfold mIsi at q
  exact q)
section
variable {K : PySem.W.Frag} {H : Hp} {Q : VK}
theorem rd_isiIB {i : Int} (h : Q (.bl false) H) : mIsi K [.int i, .ty "bool"] H Q := by
  unfold mIsi
  exact ⟨_, _, _, _, false, rfl, ClsV.ty _, TyX.base (TyOf.int _), by rfl, h⟩
theorem rd_isiII {i : Int} (h : Q (.bl true) H) : mIsi K [.int i, .ty "int"] H Q := by
  unfold mIsi
  exact ⟨_, _, _, _, true, rfl, ClsV.ty _, TyX.base (TyOf.int _), by rfl, h⟩
theorem rd_isiBB {b : Bool} (h : Q (.bl true) H) : mIsi K [.bl b, .ty "bool"] H Q := by
  unfold mIsi
  exact ⟨_, _, _, _, true, rfl, ClsV.ty _, TyX.base (TyOf.bl _), by rfl, h⟩
theorem rd_isiTT {a : Addr} {xs : List V} (e : H a = some (.tup xs)) (h : Q (.bl true) H) : mIsi K [.ref a, .ty "tuple"] H Q := by
  unfold mIsi
  exact ⟨_, _, _, _, true, rfl, ClsV.ty _, TyX.base (TyOf.tup e), by rfl, h⟩
theorem rd_isiLL {a : Addr} {xs : List V} (e : H a = some (.lst xs)) (h : Q (.bl true) H) : mIsi K [.ref a, .ty "list"] H Q := by
  unfold mIsi
  exact ⟨_, _, _, _, true, rfl, ClsV.ty _, TyX.base (TyOf.lst e), by rfl, h⟩
end

/-! ### equal data -/
def Sh (n : Nat) (d : PyData) : Prop := d.canLay0 = true ∧ d.depth ≤ n
def ShA (n : Nat) (ds : List PyData) : Prop := PyData.canLayAll0 ds = true ∧ PyData.depthAll ds ≤ n
theorem sh_int {i : Int} {n : Nat} : Sh n (.int i) := ⟨rfl, Nat.zero_le _⟩
theorem sh_bl {i : Bool} {n : Nat} : Sh n (.bool i) := ⟨rfl, Nat.zero_le _⟩
theorem sh_non {n : Nat} : Sh n .none := ⟨rfl, Nat.zero_le _⟩
theorem sh_str {x : Str} {n : Nat} (h : PyData.canLay0 (.str x) = true) : Sh n (.str x) := ⟨h, Nat.zero_le _⟩
theorem sh_nil {n : Nat} : ShA n [] := ⟨rfl, Nat.zero_le _⟩
theorem sh_cons {n : Nat} {d : PyData} {ds : List PyData} (h : Sh n d) (k : ShA n ds) : ShA n (d :: ds) := by
  refine ⟨?_, ?_⟩
  · show (d.canLay0 && PyData.canLayAll0 ds) = true
    rw [h.1, k.1]
    rfl
  · show max d.depth (PyData.depthAll ds) ≤ n
    have := h.2
    have := k.2
    omega
theorem sh_lst {n : Nat} {ds : List PyData} (h : ShA n ds) : Sh (n + 1) (.list ds) := ⟨h.1, Nat.succ_le_succ h.2⟩
theorem sh_tup {n : Nat} {ds : List PyData} (h : ShA n ds) : Sh (n + 1) (.tuple ds) := ⟨h.1, Nat.succ_le_succ h.2⟩
theorem sh_map {α : Type} {n : Nat} {f : α → PyData} (h : ∀ x, Sh n (f x)) : ∀ l : List α, ShA n (l.map f)
  | [] => sh_nil
  | x :: r => sh_cons (h x) (sh_map h r)
theorem sh_app {n : Nat} : ∀ {ds es : List PyData}, ShA n ds → ShA n es → ShA n (ds ++ es)
  | [], _, _, k => k
  | d :: r, es, h, k => by
    have h1 : (d.canLay0 && PyData.canLayAll0 r) = true := h.1
    have h2 : max d.depth (PyData.depthAll r) ≤ n := h.2
    rw [Bool.and_eq_true] at h1
    exact sh_cons ⟨h1.1, by omega⟩ (sh_app ⟨h1.2, by omega⟩ k)
theorem Sh.shaped {n : Nat} {d : PyData} (h : Sh n d) (hn : n ≤ 64 := by decide) : SeqAt.shaped d = true := by
  unfold SeqAt.shaped
  rw [h.1, decide_eq_true (Nat.le_trans h.2 hn)]
  rfl
theorem sh_ints {n : Nat} (l : List Int) : ShA n (l.map PyData.int) := sh_map (fun _ => sh_int) l
section
variable {K : PySem.W.Frag} {H : Hp} {Q : VK} {x y : V}
theorem dpa_ints : ∀ l : List Int, DpAll K H (l.map V.int) (l.map PyData.int)
  | [] => .nil
  | i :: r => .cons (.int i) (dpa_ints r)
theorem dp_ints {a : Addr} {l : List Int} (h : SqL K H a (l.map V.int)) : Dp K H (.ref a) (.list (l.map PyData.int)) := .lst h (dpa_ints l)
@[irreducible] def mEqD (K : PySem.W.Frag) : R2 := rEqD K
@[irreducible] def mNeD (K : PySem.W.Frag) : R2 := rNeD K
theorem rd_eqS {n : Nat} (d : PyData) (h1 : Dp K H x d) (h2 : Dp K H y d) (hs : Sh n d) (h : Q (.bl true) H) (hn : n ≤ 64 := by decide) : mEqD K x y H Q := by
  unfold mEqD
  exact ⟨d, d, h1, h2, hs.shaped hn, hs.shaped hn, by rw [PySem.SeqAt.eqv_refl d hs.1]; exact h⟩
theorem rd_neS {n : Nat} (d : PyData) (h1 : Dp K H x d) (h2 : Dp K H y d) (hs : Sh n d) (h : Q (.bl false) H) (hn : n ≤ 64 := by decide) : mNeD K x y H Q := by
  unfold mNeD
  exact ⟨d, d, h1, h2, hs.shaped hn, hs.shaped hn, by rw [PySem.SeqAt.eqv_refl d hs.1]; exact h⟩
/-- of any two: the answer is that of the data -/
theorem rd_eqA {n m : Nat} (d e : PyData) (h1 : Dp K H x d) (h2 : Dp K H y e) (hs : Sh n d) (hs2 : Sh m e) (h : Q (.bl (PyData.eqv d e)) H) (hn : n ≤ 64 := by decide) (hm : m ≤ 64 := by decide) : mEqD K x y H Q := by
  unfold mEqD
  exact ⟨d, e, h1, h2, hs.shaped hn, hs2.shaped hm, h⟩
theorem rd_neA {n m : Nat} (d e : PyData) (h1 : Dp K H x d) (h2 : Dp K H y e) (hs : Sh n d) (hs2 : Sh m e) (h : Q (.bl (!PyData.eqv d e)) H) (hn : n ≤ 64 := by decide) (hm : m ≤ 64 := by decide) : mNeD K x y H Q := by
  unfold mNeD
  exact ⟨d, e, h1, h2, hs.shaped hn, hs2.shaped hm, h⟩
end
section
variable {X : Cx}
theorem op_eqDM (hu : X.A.units + 64 < cLine) : OpR X (compareOp .Eq) (mEqD X.K) := fun pins s σ H x y v u Q I rx ry q => op_eqD hu pins s σ H x y v u Q I rx ry (by
  unfold mEqD at q
  exact q)
theorem op_neDM (hu : X.A.units + 64 < cLine) : OpR X (compareOp .NotEq) (mNeD X.K) := fun pins s σ H x y v u Q I rx ry q => op_neD hu pins s σ H x y v u Q I rx ry (by
  unfold mNeD at q
  exact q)
end
/-! ### one-step readings that know their heap -/
@[irreducible] def mIxL (K : PySem.W.Frag) : R2 := rIxL K
theorem ix_listM {X : Cx} : IxR X (mIxL X.K) := fun value slice pins s σ H x y v u Q I rx ry q e => ix_list value slice pins s σ H x y v u Q I rx ry (by
  unfold mIxL at q
  exact q) e
@[irreducible] def mIxT (K : PySem.W.Frag) : R2 := rIxT K
theorem ix_tupM {X : Cx} : IxR X (mIxT X.K) := fun value slice pins s σ H x y v u Q I rx ry q e => ix_tup value slice pins s σ H x y v u Q I rx ry (by
  unfold mIxT at q
  exact q) e
section
variable {K : PySem.W.Frag} {H : Hp} {Q : VK} {a : Addr} {xs : List V} {k : Int} {v : V}
theorem rd_ixL (h : SqL K H a xs) (ha : atI xs k = some v) (q : Q v H) : mIxL K (.ref a) (.int k) H Q := by
  unfold mIxL
  exact ⟨a, xs, k, v, rfl, rfl, h, ha, q⟩
theorem rd_ixT (h : SqT K H a xs) (ha : atI xs k = some v) (q : Q v H) : mIxT K (.ref a) (.int k) H Q := by
  unfold mIxT
  exact ⟨a, xs, k, v, rfl, rfl, h, ha, q⟩
theorem rd_ixI {ns : List Int} (h : SqL K H a (ns.map V.int)) (h0 : 0 ≤ k) (h1 : k < (ns.length : Int)) (q : Q (.int (ns.getD k.toNat 0)) H) : mIxL K (.ref a) (.int k) H Q := rd_ixL h (at_int h0 h1) q
end
@[irreducible] def mLen (K : PySem.W.Frag) : List V → Hp → VK → Prop := fun xs H Q => ∃ p ys, xs = [.ref p] ∧ (SqL K H p ys ∨ SqT K H p ys) ∧ Q (.int ys.length) H
theorem call_lenM {X : Cx} : CallR X (.builtin "len") (mLen X.K) := fun pins s σ H xs us Q I r q => call_len_seq pins s σ H xs us Q I r (by
  unfold mLen at q
  exact q)
theorem rd_len {K : PySem.W.Frag} {H : Hp} {Q : VK} {a : Addr} {xs : List V} (h : SqL K H a xs) (q : Q (.int xs.length) H) : mLen K [.ref a] H Q := by
  unfold mLen
  exact ⟨a, xs, rfl, .inl h, q⟩
theorem rd_lenI {K : PySem.W.Frag} {H : Hp} {Q : VK} {a : Addr} {ns : List Int} (h : SqL K H a (ns.map V.int)) (q : Q (.int ns.length) H) : mLen K [.ref a] H Q := rd_len h (by rw [List.length_map]; exact q)
theorem rd_lenT {K : PySem.W.Frag} {H : Hp} {Q : VK} {a : Addr} {xs : List V} (h : SqT K H a xs) (q : Q (.int xs.length) H) : mLen K [.ref a] H Q := by
  unfold mLen
  exact ⟨a, xs, rfl, .inr h, q⟩
/-- xs.append(e) -/
@[irreducible] def mApp (x y : V) (H : Hp) (Q : VK) : Prop := ∃ l xs, x = .ref l ∧ H l = some (.lst xs) ∧ xs.length < 1000000 ∧ Q .non (upd H l (.lst (xs ++ [y])))
def mAppE (to te : TE) : TE := fun σ H Q => to σ H fun x H1 => ∃ l xs, x = .ref l ∧ H1 l = some (.lst xs) ∧ te σ H1 fun y H2 => mApp x y H2 Q
theorem rd_app {l : Addr} {xs : List V} {y : V} {H : Hp} {Q : VK} (h : H l = some (.lst xs)) (hz : xs.length < 1000000) (q : Q .non (upd H l (.lst (xs ++ [y])))) : mApp (.ref l) y H Q := by
  unfold mApp
  exact ⟨l, xs, rfl, h, hz, q⟩
theorem pe_app {X : Cx} {o e : Expr} {to te : TE} {apos cpos : Pos} (ho : PE X o to) (he : PE X e te) (hbase : attributeBase o "append" X.env (eval o X.env) = eval o X.env := by rfl)
    (hfew : ((backTo cpos (starEach [e] X.env)).all (fun x => !x.1) && (backToKw cpos (keywordEach [] X.env)).all (fun x => x.1.isSome)
      && decide ([e].length + ([] : List Keyword).length + (if ([] : List Keyword).isEmpty then 0 else 1) < 30)) = true := by rfl)
    (hline : (apos.endLine == cpos.line) = true := by rfl) (hs : starEach [e] X.env = (false, eval e X.env) :: starEach [] X.env := by rfl) (hplain : (backTo cpos (starEach [] X.env)).any (·.1) = false := by rfl) :
    PE X (.Call (.Attribute o "append" apos) [e] [] cpos) (mAppE to te) :=
  pe_weak (pe_bm PySem.F.plainAttrs_list PySem.F.slot_list_append PySem.F.type_list_append mt_append (pe_c ho) (pa_cons (pe_c he) pa_nil hs) hbase hfew hline hs hplain) fun σ H Q q => by
    refine ⟨_, q, fun x H1 r => ?_⟩
    obtain ⟨l, xs, rfl, h, r⟩ := r
    refine ⟨Or.inl ⟨rfl, _, SqL.of h⟩, _, r, fun y H2 r2 => ?_⟩
    unfold mApp at r2
    obtain ⟨l2, ys, e2, h2, hz, q2⟩ := r2
    exact ⟨l2, ys, y, e2, rfl, h2, szl hz, q2⟩
/-- o[i] = e, o a list -/
@[irreducible] def mSetL : V → V → V → Hp → (Hp → Prop) → Prop := rSetL
theorem set_listM {X : Cx} : PSet X mSetL := fun pins s σ H o i v uo ui uv Q I ro ri rv q => set_list pins s σ H o i v uo ui uv Q I ro ri rv (by
  unfold mSetL at q
  exact q)
theorem rd_setL {l : Addr} {xs : List V} {k : Int} {y : V} {H : Hp} {Q : Hp → Prop} (h : H l = some (.lst xs)) (h0 : 0 ≤ k) (h1 : k < (xs.length : Int)) (q : Q (upd H l (.lst (xs.set k.toNat y)))) : mSetL (.ref l) (.int k) y H Q := by
  unfold mSetL
  refine ⟨l, xs, k, k.toNat, rfl, rfl, h, ?_, q⟩
  unfold ixN
  first
    | (rw [if_pos h0, if_pos (by omega)]; done)
    | (rw [if_neg (by omega), if_pos (by omega)]; done)
    | simp [show ¬ k < 0 by omega, h0, h1]
/-- what a loop keeps of its own list: all else as it was -/
def But (p : Addr) (H H' : Hp) : Prop := ∀ b o, b ≠ p → H b = some o → H' b = some o

@[irreducible] def mSum (K : PySem.W.Frag) : List V → Hp → VK → Prop := rSum K
theorem call_sumM {X : Cx} (hc : X.calm = true) : CallR X (.builtin "sum") (mSum X.K) := fun pins s σ H xs us Q I r q => cr_sum hc pins s σ H xs us Q I r (by
  unfold mSum at q
  exact q)
theorem rd_sum {K : PySem.W.Frag} {H : Hp} {Q : VK} {a : Addr} {ns : List Int} (h : SqL K H a (ns.map V.int)) (q : Q (.int ns.sum) H) : mSum K [.ref a] H Q := by
  unfold mSum
  exact ⟨a, ns, rfl, h, q⟩

/-- isinstance(e, C), e the error that the suite holds, whatever its class -/
def mIsE (K : PySem.W.Frag) (cls : Value) (d : Option Addr) (a : Addr) : List V → Hp → VK → Prop := fun xs H Q => ∃ (D C : Addr) (b : Bool), xs = [.ref a, .ref C] ∧ cls = .ref D ∧ d = none ∧ ExcC K D ∧ PySem.W.kitOne K (.ref D) (.ref C) = some b ∧ Q (.bl b) H
theorem call_isEM {X : Cx} {a : Addr} {oe : Obj} {cls : Value} {d : Option Addr} {pn : List (Addr × Obj)} (hz : Zc cls d oe) (hf : ∃ vs, oe.data = .fields vs) : CallR (X.suite a ((a, oe) :: pn)) (.builtin "isinstance") (mIsE X.K cls d a) := by
  intro pins s σ H xs us Q I r h
  obtain ⟨D, C, b, rfl, rfl, rfl, hD, hk, q⟩ := h
  exact call_isE hD hz hf pins s σ H [.ref a, .ref C] us Q I r ⟨.ref C, .ref C, b, rfl, fun u hu => hu, hk, q⟩
theorem kit_same {K : PySem.W.Frag} {D : Addr} : PySem.W.kitOne K (.ref D) (.ref D) = some true := by
  unfold PySem.W.kitOne
  rw [if_pos (by simp)]

/-! ### constants, extend, repetition, min of three -/
theorem pe_gint {X : Cx} {x : Str} {n : Int} {pos : Pos} (hg : Gl X x) (hm : ∃ t, X.mg x = some (.int n t)) (hd : (x == ("__debug__" : Str)) = false := by decide) : PE X (.Name x pos) (tC (.int n)) := by
  obtain ⟨t, hm⟩ := hm
  exact pe_glob hg hm ⟨t, rfl⟩ hd
@[irreducible] def mExt (x y : V) (H : Hp) (Q : VK) : Prop := ∃ l b xs zs, x = .ref l ∧ y = .ref b ∧ H l = some (.lst xs) ∧ H b = some (.lst zs) ∧ xs.length + zs.length ≤ 1000000 ∧ Q .non (upd H l (.lst (xs ++ zs)))
def mExtE (to te : TE) : TE := fun σ H Q => to σ H fun x H1 => ∃ l xs, x = .ref l ∧ H1 l = some (.lst xs) ∧ te σ H1 fun y H2 => mExt x y H2 Q
theorem rd_ext {l b : Addr} {xs zs : List V} {H : Hp} {Q : VK} (h : H l = some (.lst xs)) (hb : H b = some (.lst zs)) (hz : xs.length + zs.length ≤ 1000000) (q : Q .non (upd H l (.lst (xs ++ zs)))) : mExt (.ref l) (.ref b) H Q := by
  unfold mExt
  exact ⟨l, b, xs, zs, rfl, rfl, h, hb, hz, q⟩
theorem pe_ext {X : Cx} {o e : Expr} {to te : TE} {apos cpos : Pos} (ho : PE X o to) (he : PE X e te) (hbase : attributeBase o "extend" X.env (eval o X.env) = eval o X.env := by rfl)
    (hfew : ((backTo cpos (starEach [e] X.env)).all (fun x => !x.1) && (backToKw cpos (keywordEach [] X.env)).all (fun x => x.1.isSome)
      && decide ([e].length + ([] : List Keyword).length + (if ([] : List Keyword).isEmpty then 0 else 1) < 30)) = true := by rfl)
    (hline : (apos.endLine == cpos.line) = true := by rfl) (hs : starEach [e] X.env = (false, eval e X.env) :: starEach [] X.env := by rfl) (hplain : (backTo cpos (starEach [] X.env)).any (·.1) = false := by rfl) :
    PE X (.Call (.Attribute o "extend" apos) [e] [] cpos) (mExtE to te) :=
  pe_weak (pe_bm PySem.F.plainAttrs_list PySem.F.slot_list_extend PySem.F.type_list_extend mt_extend (pe_c ho) (pa_cons (pe_c he) pa_nil hs) hbase hfew hline hs hplain) fun σ H Q q => by
    refine ⟨_, q, fun x H1 r => ?_⟩
    obtain ⟨l, xs, rfl, h, r⟩ := r
    refine ⟨Or.inl ⟨rfl, _, SqL.of h⟩, _, r, fun y H2 r2 => ?_⟩
    unfold mExt at r2
    obtain ⟨l2, b2, ys, zs, e2, rfl, h2, h3, hz, q2⟩ := r2
    exact ⟨l2, b2, ys, zs, e2, rfl, h2, h3, sz hz, q2⟩
theorem op_repM {X : Cx} : OpR X (binaryOp .Mult) mRep := fun pins s σ H x y v u Q I rx ry q => op_rep pins s σ H x y v u Q I rx ry (by
  unfold mRep at q
  obtain ⟨l, k, xs, e1, e2, h1, h0, hk, hz, h⟩ := q
  have big : (2 : Int) ^ 63 = 9223372036854775808 := by decide
  exact ⟨l, k, xs, e1, e2, h1, by omega, by omega, sz hz, h.go⟩)
theorem rd_rep {l : Addr} {k : Int} {xs : List V} {H : Hp} {Q : VK} (h1 : H l = some (.lst xs)) (h0 : 0 ≤ k) (hk : k ≤ 100000) (hz : xs.length * k.toNat ≤ 1000000) (h : NewO (.lst (List.replicate k.toNat xs).flatten) H Q) : mRep (.ref l) (.int k) H Q := by
  unfold mRep
  exact ⟨l, k, xs, rfl, rfl, h1, h0, hk, hz, h⟩
def mMin3 : List V → Hp → VK → Prop := fun vs H Q => ∃ i j k, vs = [.int i, .int j, .int k] ∧ Q (.int (min (min i j) k)) H
theorem call_min3M {X : Cx} (hc : X.calm = true) : CallR X (.builtin "min") mMin3 := fun pins s σ H xs us Q I r ⟨i, j, k, e, q⟩ => call_min3Nu hc pins s σ H xs us Q I r ⟨_, _, _, _, e, by
  show (Option.map (fun c => if c = true then V.int j else V.int i) (some (decide (j < i)))).bind _ = _
  by_cases h : j < i
  · rw [decide_eq_true h]
    show Option.map (fun c => if c = true then V.int k else V.int j) (some (decide (k < j))) = some (.int (min (min i j) k))
    by_cases h2 : k < j
    · rw [decide_eq_true h2]
      show some (V.int k) = _
      congr 2
      omega
    · rw [decide_eq_false h2]
      show some (V.int j) = _
      congr 2
      omega
  · rw [decide_eq_false h]
    show Option.map (fun c => if c = true then V.int k else V.int i) (some (decide (k < i))) = some (.int (min (min i j) k))
    by_cases h2 : k < i
    · rw [decide_eq_true h2]
      show some (V.int k) = _
      congr 2
      omega
    · rw [decide_eq_false h2]
      show some (V.int i) = _
      congr 2
      omega, q⟩
/-! ### comprehensions whose elements are new tuples -/
def EltT (te : TE) (σ : L2.St) (H : Hp) (xs : List V) : Prop := ∀ H', Same H H' → te σ H' fun v H'' => Same H' H'' ∧ ∃ p, v = .ref p ∧ H'' p = some (.tup xs)
def NewTs (n : Nat) (f : Nat → List V) (H : Hp) (Q : VK) : Prop := ∀ (D : Addr) (H' : Hp) (ps : List Addr), H D = none → Same H H' → H' D = some (.lst (ps.map V.ref)) → ps.length = n → (∀ i p, ps[i]? = some p → H' p = some (.tup (f i))) → Q (.ref D) H'
@[irreducible] def mLcTR3 (ta : TA) (j : Nat) (te : TE) (vs : List Nat) : TE := fun σ H Q => ta σ H fun ws H1 => ∃ (lo hi c : Int) (n : Nat) (f : Nat → List V), ws = [.int lo, .int hi, .int c] ∧ RgC lo hi c n ∧ n ≤ 1000 ∧ (∀ i, i < n → EltT te ((wipe σ vs).set j (some (.int (lo + (i : Nat) * c)))) H1 (f i)) ∧ NewTs n f H1 Q
theorem rd_lcTR3 {ta : TA} {j : Nat} {te : TE} {vs : List Nat} {σ : L2.St} {H : Hp} {Q : VK} (h : ta σ H fun ws H1 => ∃ (lo hi c : Int) (n : Nat) (f : Nat → List V), ws = [.int lo, .int hi, .int c] ∧ RgC lo hi c n ∧ n ≤ 1000 ∧ (∀ i, i < n → EltT te ((wipe σ vs).set j (some (.int (lo + (i : Nat) * c)))) H1 (f i)) ∧ NewTs n f H1 Q) : mLcTR3 ta j te vs σ H Q := by
  unfold mLcTR3
  exact h
@[irreducible] def mLcTL (K : PySem.W.Frag) (tl : TE) (j : Nat) (te : TE) (vs : List Nat) : TE := fun σ H Q => tl σ H fun x H1 => ∃ (a : Addr) (xs : List V) (f : Nat → List V), x = .ref a ∧ SqL K H1 a xs ∧ xs.length ≤ 1000 ∧ (∀ i y, xs[i]? = some y → EltT te ((wipe σ vs).set j (some y)) H1 (f i)) ∧ NewTs xs.length f H1 Q
theorem rd_lcTL {K : PySem.W.Frag} {tl : TE} {j : Nat} {te : TE} {vs : List Nat} {σ : L2.St} {H : Hp} {Q : VK} (h : tl σ H fun x H1 => ∃ (a : Addr) (xs : List V) (f : Nat → List V), x = .ref a ∧ SqL K H1 a xs ∧ xs.length ≤ 1000 ∧ (∀ i y, xs[i]? = some y → EltT te ((wipe σ vs).set j (some y)) H1 (f i)) ∧ NewTs xs.length f H1 Q) : mLcTL K tl j te vs σ H Q := by
  unfold mLcTL
  exact h
def TsW (H1 : Hp) (D : Addr) (f : Nat → List V) (i : Nat) (H' : Hp) : Prop := Same H1 H' ∧ ∃ ps : List Addr, H' D = some (.lst (ps.map V.ref)) ∧ ps.length = i ∧ ∀ k p, ps[k]? = some p → H' p = some (.tup (f k))
theorem TsW.next {H1 H' H'' : Hp} {D p : Addr} {f : Nat → List V} {i : Nat} (hD : H1 D = none) (w : TsW H1 D f i H') (s : Same H' H'') (hp : H'' p = some (.tup (f i))) : ∃ acc, H'' D = some (.lst acc) ∧ acc.length = i ∧ TsW H1 D f (i + 1) (upd H'' D (.lst (acc ++ [.ref p]))) := by
  obtain ⟨sm, ps, hd, hl, ht⟩ := w
  have hd2 := s _ _ hd
  have ne : ∀ {q : Addr} {xs : List V}, H'' q = some (.tup xs) → q ≠ D := fun {q xs} h e => by
    rw [e, hd2] at h
    cases h
  refine ⟨_, hd2, by rw [List.length_map, hl], same_mut (sm.trans s) hD, ps ++ [p], ?_, by rw [List.length_append, List.length_singleton, hl], fun k q hk => ?_⟩
  · rw [upd_same, List.map_append]
    rfl
  · by_cases h : k < ps.length
    · rw [List.getElem?_append_left h] at hk
      have := s _ _ (ht k q hk)
      rw [upd_ne (ne this)]
      exact this
    · rw [List.getElem?_append_right (by omega)] at hk
      have h0 : k - ps.length = 0 := by
        cases e : k - ps.length with
        | zero => rfl
        | succ m => rw [e] at hk; simp at hk
      rw [h0] at hk
      have e : p = q := Option.some.inj hk
      have ek : k = i := by omega
      subst e
      rw [ek, upd_ne (ne hp)]
      exact hp
section
variable {X : Cx} {te : TE} {ta : TA} {pos : Pos}
theorem lcTR3_of {ta : TA} {j : Nat} {te : TE} {vs : List Nat} {σ : L2.St} {H : Hp} {Q : VK} (hj : vs = [j]) (q : mLcTR3 ta j te vs σ H Q) : tLc (iRng3 (cTA ta)) (gName j) tYes (cTE te) vs σ H Q := by
  unfold mLcTR3 at q
  refine ⟨_, q, fun ws H1 r => ?_⟩
  obtain ⟨lo, hi, c, n, f, rfl, hr, hn, he, hq⟩ := r
  refine ⟨lo, hi, c, n, rfl, hr, fun D hD => ?_⟩
  refine ⟨fun i m H' => m = n - i ∧ i ≤ n ∧ TsW H1 D f i H', ⟨n, rfl, Nat.zero_le _, same_upd hD, [], upd_same, rfl, fun k p h => by cases h⟩, ?_⟩
  rintro i m H' ⟨rfl, hi, w⟩
  by_cases hlt : i < n
  · refine .inr ⟨hlt, TsW H1 D f (i + 1), fun H2 w2 => ⟨n - (i + 1), by omega, rfl, hlt, w2⟩, fun x H2 y => ?_⟩
    obtain ⟨e, y⟩ := y
    subst e
    subst y
    refine ⟨wipe_set hj, _, he i hlt _ w.1, fun v H'' r => ?_⟩
    obtain ⟨s, p, rfl, hp⟩ := r
    obtain ⟨acc, h1, h2, h3⟩ := w.next hD s hp
    exact ⟨acc, h1, szl (by omega), h3⟩
  · have e : i = n := by omega
    subst e
    obtain ⟨sm, ps, hd, hl, ht⟩ := w
    exact .inl ⟨Nat.le_refl _, hq D H' ps hD sm hd hl ht⟩
theorem lcTL_of {K : PySem.W.Frag} {tl : TE} {j : Nat} {te : TE} {vs : List Nat} {σ : L2.St} {H : Hp} {Q : VK} (hj : vs = [j]) (q : mLcTL K tl j te vs σ H Q) : tLc (iList K (cTE tl)) (gName j) tYes (cTE te) vs σ H Q := by
  unfold mLcTL at q
  refine ⟨_, q, fun x H1 r => ?_⟩
  obtain ⟨a, xs, f, rfl, hx, hn, he, hq⟩ := r
  refine ⟨a, rfl, ⟨xs, hx⟩, fun D hD => ?_⟩
  refine lc_list (xs := xs) (fun i H' => TsW H1 D f i H') ⟨same_upd hD, [], upd_same, rfl, fun k p h => by cases h⟩ (fun i H' _ w => w.1.seq hx) (fun i y H' hi w => ⟨wipe_set hj, _, he i y hi H' w.1, fun v H'' r => ?_⟩) fun H' w => ?_
  · obtain ⟨s, p, rfl, hp⟩ := r
    obtain ⟨acc, h1, h2, h3⟩ := w.next hD s hp
    have hl : i < xs.length := (List.getElem?_eq_some_iff.mp hi).1
    exact ⟨acc, h1, szl (by omega), h3⟩
  · obtain ⟨sm, ps, hd, hl, ht⟩ := w
    exact hq D H' ps hD sm hd hl ht
theorem pe_lcTL {elt it : Expr} {scope : Scope} {j : Nat} {x : Str} {xpos : Pos} (hc : X.calm = true) (hN : X.N.Nodup) {tl : TE} (ha : PE X it tl) (ok : BlkOk X.N X.env.scope scope [(x, j)])
    (hgt : ∀ (s : Shared) (H : Hp) (C : Addr) (cl : List (Str × Addr)) (fp : List Addr), PG (X.blk s H scope (compEnvC scope cl C X.env) fp) (.Name x xpos) (gName j))
    (he : ∀ (s : Shared) (H : Hp) (C : Addr) (cl : List (Str × Addr)) (fp : List Addr), PE (X.blk s H scope (compEnvC scope cl C X.env) fp) elt te) (hs2 : ∀ y, foldedSetIterable it X.env y = pure y := by intro _; rfl) :
    PE X (.ListComp elt [⟨.Name x xpos, it, [], 0⟩] scope pos) (mLcTL X.K tl j te [j]) :=
  pe_weak (pe_lc hc hN (pi_list (pe_c ha)) ok hgt (fun _ _ _ _ _ => pts_nil) (fun s H C cl fp => pe_c (he s H C cl fp)) hs2) fun _ _ _ q => lcTL_of rfl q
theorem ps_setLcTL {i : Nat} {y : Str} {py spos : Pos} {elt it : Expr} {scope : Scope} {j : Nat} {x : Str} {xpos : Pos} {tl : TE} (hc : X.calm = true) (hN : X.N.Nodup) (hy : X.N[i]? = some y) (hyl : X.env.scope.names.lookup y = some .local)
    (hsw : swapsWith (.ListComp elt [⟨.Name x xpos, it, [], 0⟩] scope pos) (some (.Name y py)) spos.line X.env = pure true) (ha : PE X it tl) (ok : BlkOk X.N X.env.scope scope [(x, j)])
    (hgt : ∀ (s : Shared) (H : Hp) (C : Addr) (cl : List (Str × Addr)) (fp : List Addr), PG (X.blk s H scope (compEnvC scope cl C X.env) fp) (.Name x xpos) (gName j))
    (he : ∀ (s : Shared) (H : Hp) (C : Addr) (cl : List (Str × Addr)) (fp : List Addr), PE (X.blk s H scope (compEnvC scope cl C X.env) fp) elt te) (hs2 : ∀ y, foldedSetIterable it X.env y = pure y := by intro _; rfl) :
    PS X (.Assign [.Name y py] (.ListComp elt [⟨.Name x xpos, it, [], 0⟩] scope pos) spos) (tAsg (mLcTL X.K tl j te [j]) (gName i)) :=
  ps_weak (ps_setLc hc hN hy hyl hsw (pi_list (pe_c ha)) ok hgt (fun _ _ _ _ _ => pts_nil) (fun s H C cl fp => pe_c (he s H C cl fp)) hs2) fun _ _ _ q => lcTL_of rfl q
theorem ps_setLcTR3 {i : Nat} {y : Str} {py spos : Pos} {elt : Expr} {scope : Scope} {j : Nat} {x : Str} {a b c : Expr} {p p2 xpos : Pos} (hc : X.calm = true) (hN : X.N.Nodup) (hy : X.N[i]? = some y) (hyl : X.env.scope.names.lookup y = some .local)
    (hsw : swapsWith (.ListComp elt [⟨.Name x xpos, .Call (.Name "range" p) [a, b, c] [] p2, [], 0⟩] scope pos) (some (.Name y py)) spos.line X.env = pure true) (hg : Gl X "range") (hm : X.mg "range" = none) (ha : PA X [a, b, c] ta) (ok : BlkOk X.N X.env.scope scope [(x, j)])
    (hgt : ∀ (s : Shared) (H : Hp) (C : Addr) (cl : List (Str × Addr)) (fp : List Addr), PG (X.blk s H scope (compEnvC scope cl C X.env) fp) (.Name x xpos) (gName j))
    (he : ∀ (s : Shared) (H : Hp) (C : Addr) (cl : List (Str × Addr)) (fp : List Addr), PE (X.blk s H scope (compEnvC scope cl C X.env) fp) elt te)
    (hs : starEach [a, b, c] X.env = (false, eval a X.env) :: starEach [b, c] X.env := by rfl) (hpl : (backTo p2 (starEach [b, c] X.env)).any (·.1) = false := by rfl) (hs2 : ∀ y, foldedSetIterable (.Call (.Name "range" p) [a, b, c] [] p2) X.env y = pure y := by intro _; rfl) :
    PS X (.Assign [.Name y py] (.ListComp elt [⟨.Name x xpos, .Call (.Name "range" p) [a, b, c] [] p2, [], 0⟩] scope pos) spos) (tAsg (mLcTR3 ta j te [j]) (gName i)) :=
  ps_weak (ps_setLc hc hN hy hyl hsw (pi_range3 hg hm (pa_c ha) hs hpl) ok hgt (fun _ _ _ _ _ => pts_nil) (fun s H C cl fp => pe_c (he s H C cl fp)) hs2) fun _ _ _ q => lcTR3_of rfl q
end

/-! ### the same rules within a comprehension: the written part by its own name -/
section
variable {X : Cx} {K : PySem.W.Frag}
theorem ix_listK (h : X.K = K) : IxR X (mIxL K) := h ▸ ix_listM
theorem ix_tupK (h : X.K = K) : IxR X (mIxT K) := h ▸ ix_tupM
theorem call_lenK (h : X.K = K) : CallR X (.builtin "len") (mLen K) := h ▸ call_lenM
end

theorem br_nonI {x : Int} {A B : Prop} (h : B) : Br (decide (V.int x = V.non)) A B := br_f (fun e => by cases e) h
theorem br_nonR {x : Addr} {A B : Prop} (h : B) : Br (decide (V.ref x = V.non)) A B := br_f (fun e => by cases e) h
theorem br_nonN {A B : Prop} (h : A) : Br (decide (V.non = V.non)) A B := br_t rfl h
theorem dec_nonI {x : Int} : decide (V.int x = V.non) = false := decide_eq_false fun e => by cases e
theorem dec_nonR {x : Addr} : decide (V.ref x = V.non) = false := decide_eq_false fun e => by cases e

/-! ### if t: x = e, told once by what x holds behind it -/
@[irreducible] def IfSet (b : Bool) (te : TE) (i : Nat) (D : Ends) (σ : L2.St) (H : Hp) : Prop := ∃ P : V → Hp → Prop, (b = true → te σ H P) ∧ (b = false → ∃ v, σ.set i (some v) = σ ∧ P v H) ∧ ∀ v H', P v H' → D.nx (σ.set i (some v)) H'
theorem rd_ifSet {b : Bool} {te : TE} {i : Nat} {D : Ends} {σ : L2.St} {H : Hp} (P : V → Hp → Prop) (h1 : b = true → te σ H P) (h2 : b = false → ∃ v, σ.set i (some v) = σ ∧ P v H) (k : ∀ v H', P v H' → D.nx (σ.set i (some v)) H') : IfSet b te i D σ H := by
  unfold IfSet
  exact ⟨P, h1, h2, k⟩
def mIfSet (tt : TT) (te : TE) (i : Nat) : TS := fun D σ H => tt σ H fun b H1 => IfSet b te i D σ H1
theorem ps_ifSet {X : Cx} {i : Nat} {x : Str} {c e : Expr} {tt : TT} {te : TE} {pos pos2 pos' : Pos} (hc : PT X c tt) (hN : X.N.Nodup) (hi : X.N[i]? = some x) (hx : Loc X.env.scope x) (he : PE X e te) (hs : swapsWith e (some (.Name x pos')) pos2.line X.env = pure false := by rfl)
    (hf : X.fn x = true ∨ X.env.scope.names.lookup x = some .local := by first | exact .inl rfl | exact .inr rfl | assumption) : PS X (.If c [.Assign [.Name x pos'] e pos2] [] pos) (mIfSet tt te i) :=
  ps_weak (ps_if (pt_c hc) (pss_one (ps_set (i := i) hN hi hx (pe_c he) hs hf)) pss_nil) fun D σ H q => ⟨_, q, fun b H1 r => by
    unfold IfSet at r
    obtain ⟨P, h1, h2, k⟩ := r
    cases b with
    | true => exact iteT ⟨P, h1 rfl, fun v H' p => k v H' p⟩
    | false =>
      obtain ⟨v, e, p⟩ := h2 rfl
      refine iteF ?_
      have := k v H1 p
      rw [e] at this
      exact this⟩
section
variable {X : Cx}
/-- what stands in a list at a whole number, as the store in place reads it -/
theorem get_listM : PGet X (mIxL X.K) := fun pins s σ H x y vx vy Q inv rx ry h => by
  unfold mIxL at h
  obtain ⟨p, xs, k, z, rfl, rfl, hsq, hat, q⟩ := h
  cases rx
  obtain ⟨tk, rfl⟩ := ry
  obtain ⟨its, rel, plain, _⟩ := inv.list hsq
  obtain ⟨j, hj, hget, hn, hlo, hhi⟩ := atI_get hat
  obtain ⟨wv, hwv, relz⟩ := rel.get hget
  have hlen := rel.length
  have h63 := line63
  by_cases hk : 0 ≤ k
  · have ej : k.toNat = j := by
      rw [seqIndex_of hk hhi] at hj
      exact Option.some.inj hj
    exact wpAny_getItem_list plain.isList hk (by omega) (by rw [ej]; simpa using hwv) ⟨z, H, inv, relz, q⟩
  · have ej : (k + (its.toArray.size : Int)).toNat = j := by
      rw [seqIndex_neg (by omega) hlo] at hj
      rw [List.size_toArray, ← hlen]
      exact Option.some.inj hj
    exact wpAny_getItem_list_neg plain.isList (by omega) (by rw [List.size_toArray]; omega) (by omega) (by rw [ej]; simpa using hwv) ⟨z, H, inv, relz, q⟩
end
section
variable {X : Cx} {te : TE} {ta : TA} {pos : Pos}
/-- [(…) for x in range(n)] -/
@[irreducible] def mLcTR1 (ta : TA) (j : Nat) (te : TE) (vs : List Nat) : TE := fun σ H Q => ta σ H fun ws H1 => ∃ (n : Int) (f : Nat → List V), ws = [.int n] ∧ (-100000 ≤ n ∧ n ≤ 100000) ∧ (∀ i, i < n.toNat → EltT te ((wipe σ vs).set j (some (.int (i : Nat)))) H1 (f i)) ∧ NewTs n.toNat f H1 Q
theorem rd_lcTR1 {ta : TA} {j : Nat} {te : TE} {vs : List Nat} {σ : L2.St} {H : Hp} {Q : VK} (h : ta σ H fun ws H1 => ∃ (n : Int) (f : Nat → List V), ws = [.int n] ∧ (-100000 ≤ n ∧ n ≤ 100000) ∧ (∀ i, i < n.toNat → EltT te ((wipe σ vs).set j (some (.int (i : Nat)))) H1 (f i)) ∧ NewTs n.toNat f H1 Q) : mLcTR1 ta j te vs σ H Q := by
  unfold mLcTR1
  exact h
theorem lcTR1_of {ta : TA} {j : Nat} {te : TE} {vs : List Nat} {σ : L2.St} {H : Hp} {Q : VK} (hj : vs = [j]) (q : mLcTR1 ta j te vs σ H Q) : tLc (iRng1 (cTA ta)) (gName j) tYes (cTE te) vs σ H Q := by
  unfold mLcTR1 at q
  refine ⟨_, q, fun ws H1 r => ?_⟩
  obtain ⟨n, f, rfl, ⟨hn0, hn⟩, he, hq⟩ := r
  have big : (2 : Int) ^ 62 = 4611686018427387904 := by decide
  refine ⟨n, rfl, by omega, by omega, fun D hD => ?_⟩
  refine lc_range (lo := 0) (n := n.toNat) (fun i H' => TsW H1 D f i H') ⟨same_upd hD, [], upd_same, rfl, fun k p h => by cases h⟩ (fun i H' hi w => ⟨wipe_set hj, ?_⟩) fun H' w => ?_
  · show cTE te ((wipe σ vs).set j (some (.int (0 + (i : Int))))) H' _
    rw [Int.zero_add]
    refine ⟨_, he i hi H' w.1, fun v H'' r => ?_⟩
    obtain ⟨s, p, rfl, hp⟩ := r
    obtain ⟨acc, h1, h2, h3⟩ := w.next hD s hp
    exact ⟨acc, h1, szl (by omega), h3⟩
  · obtain ⟨sm, ps, hd, hl, ht⟩ := w
    exact hq D H' ps hD sm hd hl ht
theorem ps_setLcTR1 {i : Nat} {y : Str} {py spos : Pos} {elt : Expr} {scope : Scope} {j : Nat} {x : Str} {a : Expr} {p p2 xpos : Pos} (hc : X.calm = true) (hN : X.N.Nodup) (hy : X.N[i]? = some y) (hyl : X.env.scope.names.lookup y = some .local)
    (hsw : swapsWith (.ListComp elt [⟨.Name x xpos, .Call (.Name "range" p) [a] [] p2, [], 0⟩] scope pos) (some (.Name y py)) spos.line X.env = pure true) (hg : Gl X "range") (hm : X.mg "range" = none) (ha : PA X [a] ta) (ok : BlkOk X.N X.env.scope scope [(x, j)])
    (hgt : ∀ (s : Shared) (H : Hp) (C : Addr) (cl : List (Str × Addr)) (fp : List Addr), PG (X.blk s H scope (compEnvC scope cl C X.env) fp) (.Name x xpos) (gName j))
    (he : ∀ (s : Shared) (H : Hp) (C : Addr) (cl : List (Str × Addr)) (fp : List Addr), PE (X.blk s H scope (compEnvC scope cl C X.env) fp) elt te)
    (hs : starEach [a] X.env = [(false, eval a X.env)] := by rfl) (hs2 : ∀ y, foldedSetIterable (.Call (.Name "range" p) [a] [] p2) X.env y = pure y := by intro _; rfl) :
    PS X (.Assign [.Name y py] (.ListComp elt [⟨.Name x xpos, .Call (.Name "range" p) [a] [] p2, [], 0⟩] scope pos) spos) (tAsg (mLcTR1 ta j te [j]) (gName i)) :=
  ps_weak (ps_setLc hc hN hy hyl hsw (pi_range1 hg hm (pa_c ha) hs) ok hgt (fun _ _ _ _ _ => pts_nil) (fun s H C cl fp => pe_c (he s H C cl fp)) hs2) fun _ _ _ q => lcTR1_of rfl q
end
/-! ### a comprehension over any walk, its elements values, some left out -/
def IMono (wi' wi : TI) : Prop := ∀ (σ : L2.St) (H : Hp) (R R' : It → Hp → Prop), (∀ J H', R J H' → R' J H') → wi' σ H R → wi σ H R'
section
variable {K : PySem.W.Frag}
theorem im_zip {ta : TA} : IMono (iZip K ta) (iZip K (cTA ta)) := fun σ H R R' h q => ⟨_, q, fun v H' r => by
  obtain ⟨a, b, xs, ys, e, h1, h2, r⟩ := r
  exact ⟨a, b, xs, ys, e, h1, h2, h _ _ r⟩⟩
theorem im_enum {ta : TA} : IMono (iEnum K ta) (iEnum K (cTA ta)) := fun σ H R R' h q => ⟨_, q, fun v H' r => by
  obtain ⟨a, xs, e, h1, r⟩ := r
  exact ⟨a, xs, e, h1, h _ _ r⟩⟩
theorem im_list {tl : TE} : IMono (iList K tl) (iList K (cTE tl)) := fun σ H R R' h q => ⟨_, q, fun v H' r => by
  obtain ⟨a, e, h1, r⟩ := r
  exact ⟨a, e, h1, h _ _ r⟩⟩
theorem im_tup {tl : TE} : IMono (iTup K tl) (iTup K (cTE tl)) := fun σ H R R' h q => ⟨_, q, fun v H' r => by
  obtain ⟨a, e, h1, r⟩ := r
  exact ⟨a, e, h1, h _ _ r⟩⟩
theorem im_rng1 {ta : TA} : IMono (iRng1 ta) (iRng1 (cTA ta)) := fun σ H R R' h q => ⟨_, q, fun v H' r => by
  obtain ⟨j, e, h1, h2, r⟩ := r
  exact ⟨j, e, h1, h2, h _ _ r⟩⟩
theorem im_rng2 {ta : TA} : IMono (iRng2 ta) (iRng2 (cTA ta)) := fun σ H R R' h q => ⟨_, q, fun v H' r => by
  obtain ⟨i, j, e, h1, r⟩ := r
  exact ⟨i, j, e, h1, h _ _ r⟩⟩
end
/-- the new list at D behind i turns -/
structure LcP (H1 : Hp) (D : Addr) (keep : Nat → Bool) (f : Nat → V) (i : Nat) (H' : Hp) : Prop where
  sm : Same H1 H'
  at' : H' D = some (.lst (((List.range i).filter keep).map f))
def LcN (H1 : Hp) (D : Addr) (keep : Nat → Bool) (f : Nat → V) (i : Nat) (y : V) (H4 : Hp) : Prop := ∃ acc, H4 D = some (.lst acc) ∧ acc.length < sizeLine ∧ LcP H1 D keep f (i + 1) (upd H4 D (.lst (acc ++ [y])))
theorem LcP.put {H1 H' H4 : Hp} {D : Addr} {keep : Nat → Bool} {f : Nat → V} {i : Nat} {y : V} (p : LcP H1 D keep f i H') (hD : H1 D = none) (hi : i < 100000) (s : Same H' H4) (hk : keep i = true) (e : y = f i) : LcN H1 D keep f i y H4 := by
  refine ⟨_, s _ _ p.at', ?_, same_mut (p.sm.trans s) hD, ?_⟩
  · have h1 := List.length_filter_le keep (List.range i)
    rw [List.length_range] at h1
    rw [List.length_map]
    exact szl (by omega)
  · rw [upd_same, List.range_succ, List.filter_append, List.map_append, e]
    have e2 : [i].filter keep = [i] := by
      rw [List.filter_cons, if_pos hk]
      rfl
    rw [e2]
    rfl
theorem LcP.skip {H1 H' H4 : Hp} {D : Addr} {keep : Nat → Bool} {f : Nat → V} {i : Nat} (p : LcP H1 D keep f i H') (s : Same H' H4) (hk : keep i = false) : LcP H1 D keep f (i + 1) H4 := by
  refine ⟨p.sm.trans s, ?_⟩
  rw [s _ _ p.at', List.range_succ, List.filter_append]
  have e2 : [i].filter keep = [] := by
    rw [List.filter_cons, if_neg (by rw [hk]; decide)]
    rfl
  rw [e2, List.append_nil]
@[irreducible] def mLcP (wi : TI) (g : TG) (tt : TT) (te : TE) (vs : List Nat) : TE := fun σ H Q => wi σ H fun J H1 => ∃ (n : Nat) (G : Hp → Prop) (Y : Nat → Hp → V → Hp → Prop) (keep : Nat → Bool) (f : Nat → V), Walk J n G Y ∧ n ≤ 100000 ∧ (∀ H', Same H1 H' → G H') ∧
  (∀ D, H1 D = none → ∀ i x H' H'', i < n → LcP H1 D keep f i H' → Y i H' x H'' → g x (wipe σ vs) H'' fun σ2 H2 => wipe σ2 vs = wipe σ vs ∧ tt σ2 H2 fun b H3 => Br b (te σ2 H3 fun y H4 => LcN H1 D keep f i y H4) (LcP H1 D keep f (i + 1) H3)) ∧ NewO (.lst (((List.range n).filter keep).map f)) H1 Q
theorem rd_lcP {wi : TI} {g : TG} {tt : TT} {te : TE} {vs : List Nat} {σ : L2.St} {H : Hp} {Q : VK} (h : wi σ H fun J H1 => ∃ (n : Nat) (G : Hp → Prop) (Y : Nat → Hp → V → Hp → Prop) (keep : Nat → Bool) (f : Nat → V), Walk J n G Y ∧ n ≤ 100000 ∧ (∀ H', Same H1 H' → G H') ∧
  (∀ D, H1 D = none → ∀ i x H' H'', i < n → LcP H1 D keep f i H' → Y i H' x H'' → g x (wipe σ vs) H'' fun σ2 H2 => wipe σ2 vs = wipe σ vs ∧ tt σ2 H2 fun b H3 => Br b (te σ2 H3 fun y H4 => LcN H1 D keep f i y H4) (LcP H1 D keep f (i + 1) H3)) ∧ NewO (.lst (((List.range n).filter keep).map f)) H1 Q) : mLcP wi g tt te vs σ H Q := by
  unfold mLcP
  exact h
def cTG (g : TG) : TG := fun v σ H Q => ∃ R : L2.St → Hp → Prop, g v σ H R ∧ ∀ σ' H', R σ' H' → Q σ' H'
section
variable {X : Cx} {e tg : Expr} {ifs : List Expr} {g : TG} {tt : TT} {te : TE}
theorem pg_c (h : PG X tg g) : PG X tg (cTG g) := ⟨fun pins s σ H v u Q I r ⟨R, h1, h2⟩ => wpAny_mono (h.run pins s σ H v u R I r h1) (fun _ s1 ⟨σ1, H1, I1, q⟩ => ⟨σ1, H1, I1, h2 _ _ q⟩) fun _ _ z => z⟩
theorem pts_c (h : PTs X ifs tt) : PTs X ifs (cTT tt) := ⟨fun pins s σ H Q I ⟨R, h1, h2⟩ => wpAny_mono (h.run pins s σ H R I h1) (fun _ s1 ⟨H1, I1, q⟩ => ⟨H1, I1, h2 _ _ q⟩) fun _ _ z => z⟩
theorem lcP_of {wi wi' : TI} {vs : List Nat} {σ : L2.St} {H : Hp} {Q : VK} (hw : IMono wi' wi) (q : mLcP wi' g tt te vs σ H Q) : tLc wi (cTG g) (cTT tt) (cTE te) vs σ H Q := by
  unfold mLcP at q
  refine hw _ _ _ _ (fun J H1 r => ?_) q
  obtain ⟨n, G, Y, keep, f, w, hn, hG, ht, hq⟩ := r
  intro D hD
  refine lc_it w (LcP H1 D keep f) ⟨same_upd hD, upd_same⟩ (fun i H' _ p => hG H' p.sm) (fun i x H' H'' hi p y => ?_) fun H' p => hq D H' hD p.sm p.at'
  refine ⟨_, ht D hD i x H' H'' hi p y, fun σ2 H2 r => ⟨r.1, _, r.2, fun b H3 r => ?_⟩⟩
  cases b with
  | true => exact iteT ⟨_, (r.un : if true = true then _ else _), fun y H4 z => z⟩
  | false => exact iteF (r.un : if false = true then _ else _)
theorem pe_lcP {iter elt : Expr} {scope : Scope} {own : List (Str × Nat)} {pos : Pos} {wi wi' : TI} (vs : List Nat) (hw : IMono wi' wi) (hc : X.calm = true) (hN : X.N.Nodup) (hi : PI X tg iter wi) (ok : BlkOk X.N X.env.scope scope own)
    (hg : ∀ (s : Shared) (H : Hp) (C : Addr) (cl : List (Str × Addr)) (fp : List Addr), PG (X.blk s H scope (compEnvC scope cl C X.env) fp) tg g) (ht : ∀ (s : Shared) (H : Hp) (C : Addr) (cl : List (Str × Addr)) (fp : List Addr), PTs (X.blk s H scope (compEnvC scope cl C X.env) fp) ifs tt)
    (he : ∀ (s : Shared) (H : Hp) (C : Addr) (cl : List (Str × Addr)) (fp : List Addr), PE (X.blk s H scope (compEnvC scope cl C X.env) fp) elt te) (hvs : own.map (·.2) = vs := by rfl) (hs : ∀ x, foldedSetIterable iter X.env x = pure x := by intro _; rfl) :
    PE X (.ListComp elt [⟨tg, iter, ifs, 0⟩] scope pos) (mLcP wi' g tt te vs) :=
  pe_weak (pe_lc hc hN hi ok (fun s H C cl fp => pg_c (hg s H C cl fp)) (fun s H C cl fp => pts_c (ht s H C cl fp)) (fun s H C cl fp => pe_c (he s H C cl fp)) hs) fun _ _ _ q => by
    rw [hvs]
    exact lcP_of hw q
theorem ps_setLcP {i : Nat} {y : Str} {py : Pos} {iter elt : Expr} {scope : Scope} {own : List (Str × Nat)} {pos spos : Pos} {wi wi' : TI} (vs : List Nat) (hw : IMono wi' wi) (hc : X.calm = true) (hN : X.N.Nodup) (hy : X.N[i]? = some y) (hyl : X.env.scope.names.lookup y = some .local)
    (hsw : swapsWith (.ListComp elt [⟨tg, iter, ifs, 0⟩] scope pos) (some (.Name y py)) spos.line X.env = pure true) (hi : PI X tg iter wi) (ok : BlkOk X.N X.env.scope scope own)
    (hg : ∀ (s : Shared) (H : Hp) (C : Addr) (cl : List (Str × Addr)) (fp : List Addr), PG (X.blk s H scope (compEnvC scope cl C X.env) fp) tg g) (ht : ∀ (s : Shared) (H : Hp) (C : Addr) (cl : List (Str × Addr)) (fp : List Addr), PTs (X.blk s H scope (compEnvC scope cl C X.env) fp) ifs tt)
    (he : ∀ (s : Shared) (H : Hp) (C : Addr) (cl : List (Str × Addr)) (fp : List Addr), PE (X.blk s H scope (compEnvC scope cl C X.env) fp) elt te) (hvs : own.map (·.2) = vs := by rfl) (hs : ∀ x, foldedSetIterable iter X.env x = pure x := by intro _; rfl) :
    PS X (.Assign [.Name y py] (.ListComp elt [⟨tg, iter, ifs, 0⟩] scope pos) spos) (tAsg (mLcP wi' g tt te vs) (gName i)) :=
  ps_weak (ps_setLc hc hN hy hyl hsw hi ok (fun s H C cl fp => pg_c (hg s H C cl fp)) (fun s H C cl fp => pts_c (ht s H C cl fp)) (fun s H C cl fp => pe_c (he s H C cl fp)) hs) fun _ _ _ q => by
    rw [hvs]
    exact lcP_of hw q
end
theorem wipe2 {σ : L2.St} {i j : Nat} {x y : Option V} (h : i ≠ j) : wipe (((wipe σ [i, j]).set i x).set j y) [i, j] = wipe σ [i, j] := by
  show (((((σ.set j none).set i none).set i x).set j y).set j none).set i none = (σ.set j none).set i none
  have e : ∀ (z : Option V), ((σ.set j none).set i z).set j none = (σ.set j none).set i z := fun z => by rw [List.set_comm _ _ h, List.set_set]
  rw [List.set_set, List.set_set, e, List.set_set]
/-! ### slices; lists of whole numbers compared -/
theorem sIx_nn {n d : Nat} {k : Int} (h : 0 ≤ k) : HT.sIx n d (some k) = min k.toNat n := by
  show (if k < 0 then (k + (n : Int)).toNat else min k.toNat n) = _
  rw [if_neg (by omega)]
theorem sIx_neg {n d : Nat} {k : Int} (h : k < 0) : HT.sIx n d (some k) = (k + (n : Int)).toNat := by
  show (if k < 0 then (k + (n : Int)).toNat else min k.toNat n) = _
  rw [if_pos h]
theorem drop_min {α : Type} (xs : List α) (k : Nat) : xs.drop (min k xs.length) = xs.drop k := by
  by_cases h : k ≤ xs.length
  · rw [Nat.min_eq_left h]
  · rw [Nat.min_eq_right (by omega), List.drop_of_length_le (Nat.le_refl _), List.drop_of_length_le (by omega)]
theorem take_all {α : Type} (xs : List α) {k m : Nat} (h : xs.length ≤ k) (h2 : xs.length ≤ m) : xs.take k = xs.take m := by
  rw [List.take_of_length_le h, List.take_of_length_le h2]
theorem cutX_from {xs : List V} {k : Int} (h : 0 ≤ k) : cutV xs (some k) none = xs.drop k.toNat := by
  unfold cutV
  rw [HT.sIx_none, sIx_nn h, drop_min]
  refine List.take_of_length_le ?_
  rw [List.length_drop]
  omega
theorem cutX_to {xs : List V} {k : Int} (h : 0 ≤ k) : cutV xs none (some k) = xs.take k.toNat := by
  unfold cutV
  rw [HT.sIx_none, sIx_nn h, List.drop_zero, Nat.sub_zero]
  by_cases h2 : k.toNat ≤ xs.length
  · rw [Nat.min_eq_left h2]
  · exact take_all _ (by omega) (by omega)
theorem cutX_nn {xs : List V} {i j : Int} (h : 0 ≤ i) (h' : 0 ≤ j) : cutV xs (some i) (some j) = (xs.drop i.toNat).take (j.toNat - i.toNat) := by
  unfold cutV
  rw [sIx_nn h, sIx_nn h', drop_min]
  by_cases h2 : j.toNat ≤ xs.length
  · by_cases h3 : i.toNat ≤ xs.length
    · rw [Nat.min_eq_left h2, Nat.min_eq_left h3]
    · rw [List.drop_of_length_le (by omega), List.take_nil, List.take_nil]
  · refine take_all _ ?_ ?_ <;> (rw [List.length_drop]; omega)
theorem cutX_butLast {xs : List V} {i : Int} (h : 0 ≤ i) : cutV xs (some i) (some (-1)) = (xs.drop i.toNat).take (xs.length - 1 - i.toNat) := by
  unfold cutV
  rw [sIx_nn h, sIx_neg (by decide), drop_min]
  have e : (-1 + (xs.length : Int)).toNat = xs.length - 1 := by omega
  rw [e]
  by_cases h3 : i.toNat ≤ xs.length
  · rw [Nat.min_eq_left h3]
  · rw [List.drop_of_length_le (by omega), List.take_nil, List.take_nil]
theorem eqvAll_ints : ∀ ns ms : List Int, PyData.eqvAll (ns.map PyData.int) (ms.map PyData.int) = decide (ns = ms)
  | [], [] => rfl
  | [], _ :: _ => by
    rw [decide_eq_false (by intro e; cases e)]
    rfl
  | _ :: _, [] => by
    rw [decide_eq_false (by intro e; cases e)]
    rfl
  | a :: r, b :: s => by
    rw [List.map_cons, List.map_cons, PyData.eqvAll, eqvAll_ints r s, PyData.eqv]
    by_cases h : a = b
    · subst h
      simp
    · simp [h]
section
variable {K : PySem.W.Frag} {H : Hp} {Q : VK} {a b : Addr}
theorem rd_eqI {ns ms : List Int} (h1 : SqL K H a (ns.map V.int)) (h2 : SqL K H b (ms.map V.int)) (h : Q (.bl (decide (ns = ms))) H) : mEqD K (.ref a) (.ref b) H Q :=
  rd_eqA (n := 1) (m := 1) (.list (ns.map PyData.int)) (.list (ms.map PyData.int)) (dp_ints h1) (dp_ints h2) (sh_lst (sh_ints _)) (sh_lst (sh_ints _)) (by rw [PyData.eqv, eqvAll_ints]; exact h)
theorem rd_neI {ns ms : List Int} (h1 : SqL K H a (ns.map V.int)) (h2 : SqL K H b (ms.map V.int)) (h : Q (.bl (!decide (ns = ms))) H) : mNeD K (.ref a) (.ref b) H Q :=
  rd_neA (n := 1) (m := 1) (.list (ns.map PyData.int)) (.list (ms.map PyData.int)) (dp_ints h1) (dp_ints h2) (sh_lst (sh_ints _)) (sh_lst (sh_ints _)) (by rw [PyData.eqv, eqvAll_ints]; exact h)
end
theorem rd_yes {σ : L2.St} {H : Hp} {Q : Bool → Hp → Prop} (h : Q true H) : tYes σ H Q := h
theorem at_last {ns : List Int} (h : 0 < ns.length) : atI (ns.map V.int) (-1) = some (.int (ns.getD (ns.length - 1) 0)) := by
  have hne : ns ≠ [] := fun e => by
    rw [e] at h
    cases h
  obtain ⟨r, x, rfl⟩ : ∃ r x, ns = r ++ [x] := ⟨ns.dropLast, ns.getLast hne, (List.dropLast_concat_getLast hne).symm⟩
  rw [List.map_append]
  have e : (r ++ [x]).getD ((r ++ [x]).length - 1) 0 = x := by
    rw [List.length_append, List.length_singleton, Nat.add_sub_cancel, List.getD_eq_getElem?_getD, List.getElem?_append_right (Nat.le_refl _), Nat.sub_self]
    rfl
  rw [e]
  exact atI_last _ _
/-- the frame in another form -/
theorem frS {F : L2.St → Hp → Prop} {σ σ' : L2.St} {H : Hp} (e : σ' = σ) (h : F σ' H) : F σ H := e ▸ h
theorem br_xnonI {x : Int} {A B : Prop} (h : A) : Br (!decide (V.int x = V.non)) A B := br_nt (fun e => by cases e) h
theorem br_xnonR {x : Addr} {A B : Prop} (h : A) : Br (!decide (V.ref x = V.non)) A B := br_nt (fun e => by cases e) h
theorem br_xnonN {A B : Prop} (h : B) : Br (!decide (V.non = V.non)) A B := br_nf rfl h
theorem rd_listT {K : PySem.W.Frag} {a : Addr} {xs : List V} {H : Hp} {Q : VK} (h1 : SqT K H a xs) (h : NewO (.lst xs) H Q) : mListOf K [.ref a] H Q := by
  unfold mListOf
  exact ⟨a, xs, rfl, .inr h1, h⟩
/-- tuple(xs) of a list -/
@[irreducible] def mTupOf (K : PySem.W.Frag) : List V → Hp → VK → Prop := fun xs H Q => ∃ p ys, xs = [.ref p] ∧ SqL K H p ys ∧ NewO (.tup ys) H Q
theorem rd_tupOf {K : PySem.W.Frag} {a : Addr} {xs : List V} {H : Hp} {Q : VK} (h1 : SqL K H a xs) (h : NewO (.tup xs) H Q) : mTupOf K [.ref a] H Q := by
  unfold mTupOf
  exact ⟨a, xs, rfl, h1, h⟩
theorem call_tupOfM {X : Cx} : CallR X (.type "tuple") (mTupOf X.K) := fun pins s σ H xs us Q I r q => call_tuple_of pins s σ H xs us Q I r (by
  unfold mTupOf at q
  obtain ⟨a, ys, e1, h1, h⟩ := q
  exact ⟨a, ys, e1, .inl ⟨h1, h.go⟩⟩)
/-! ### own cells: objects that change, beside a world that only grows -/
structure Cells (H B : Hp) (l : List (Addr × HO)) : Prop where
  cell : ∀ a o, (a, o) ∈ l → H a = some o
  nd : (l.map Prod.fst).Nodup
  imm : Same B H
  dis : ∀ a o, (a, o) ∈ l → B a = none
structure Own (S B0 : Hp) (as : List Addr) (B : Hp) (l : List (Addr × HO)) (H : Hp) : Prop where
  c : Cells H B l
  kept : ∀ b o, b ∉ as → S b = some o → H b = some o
  own : ∀ a o, (a, o) ∈ l → a ∈ as ∨ S a = none
  grow : Same B0 B
  new : ∀ b, B0 b = none → B b ≠ none → S b = none
  there : ∀ a, a ∈ as → H a ≠ none
theorem mem_fst {l : List (Addr × HO)} {a : Addr} {o : HO} (h : (a, o) ∈ l) : a ∈ l.map Prod.fst := List.mem_map.mpr ⟨(a, o), h, rfl⟩
theorem fst_mem {l : List (Addr × HO)} {a : Addr} (h : a ∈ l.map Prod.fst) : ∃ o, (a, o) ∈ l := by
  obtain ⟨⟨a', o⟩, h2, rfl⟩ := List.mem_map.mp h
  exact ⟨o, h2⟩
theorem Cells.start {H B : Hp} {l : List (Addr × HO)} (c : Cells H B l) : Own H B (l.map Prod.fst) B l H :=
  ⟨c, fun _ _ _ h => h, fun _ _ h => .inl (mem_fst h), Same.refl _, fun _ h k => absurd h k, fun a h => by
    obtain ⟨o, h⟩ := fst_mem h
    rw [c.cell a o h]
    exact fun e => nomatch e⟩
theorem Own.mk0 {H : Hp} : Own H H [] H [] H := ⟨⟨fun _ _ h => (nomatch h), List.nodup_nil, Same.refl _, fun _ _ h => (nomatch h)⟩, fun _ _ _ h => h, fun _ _ h => (nomatch h), Same.refl _, fun _ h k => absurd h k, fun _ h => (nomatch h)⟩
section
variable {S B0 B H H' : Hp} {as : List Addr} {l : List (Addr × HO)} {p : Addr} {o : HO}
theorem Own.mem (w : Own S B0 as B l H) (h : (p, o) ∈ l) : H p = some o := w.c.cell p o h
theorem Own.imm (w : Own S B0 as B l H) : Same B H := w.c.imm
theorem Own.same (w : Own S B0 [] B l H) : Same S H := fun b o h => w.kept b o (fun z => nomatch z) h
theorem Own.frS (w : Own S B0 as B l H) (n : H p = none) : S p = none ∧ p ∉ as := by
  have h2 : p ∉ as := fun h => w.there p h n
  refine ⟨?_, h2⟩
  cases e : S p with
  | none => rfl
  | some u => rw [w.kept p u h2 e] at n; cases n
theorem Own.frB (w : Own S B0 as B l H) (n : H p = none) : B p = none := same_none w.imm n
theorem Own.more (w : Own S B0 as B l H) (s : Same H H') : Own S B0 as B l H' :=
  ⟨⟨fun a u h => s _ _ (w.c.cell a u h), w.c.nd, w.c.imm.trans s, w.c.dis⟩, fun b u hb h => s _ _ (w.kept b u hb h), w.own, w.grow, w.new, fun a h e => w.there a h (same_none s e)⟩
theorem Own.notin (w : Own S B0 as B l H) (n : H p = none) {u : HO} : (p, u) ∉ l := fun h => by
  rw [w.c.cell p u h] at n
  cases n
theorem Own.ro (w : Own S B0 as B l H) (n : H p = none) (s : Same H H') (e : H' p = some o) : ∃ B', Same B B' ∧ B' p = some o ∧ B p = none ∧ Own S B0 as B' l H' := by
  have nb := w.frB n
  refine ⟨upd B p o, same_upd nb, upd_same, nb, ⟨fun a u h => s _ _ (w.c.cell a u h), w.c.nd, fun b u h => ?_, fun a u h => ?_⟩, fun b u hb h => s _ _ (w.kept b u hb h), w.own, w.grow.trans (same_upd nb), fun b h k => ?_, fun a h e => w.there a h (same_none s e)⟩
  · by_cases hb : b = p
    · rw [hb, upd_same] at h
      rw [hb, e, h]
    · rw [upd_ne hb] at h
      exact s _ _ (w.c.imm _ _ h)
  · rw [upd_ne (fun z => w.notin n (z ▸ h))]
    exact w.c.dis a u h
  · by_cases hb : b = p
    · rw [hb]
      exact (w.frS n).1
    · rw [upd_ne hb] at k
      exact w.new b h k
theorem Own.add (w : Own S B0 as B l H) (n : H p = none) (s : Same H H') (e : H' p = some o) : Own S B0 as B ((p, o) :: l) H' :=
  ⟨⟨fun a u h => by
      rcases List.mem_cons.mp h with h | h
      · cases h
        exact e
      · exact s _ _ (w.c.cell a u h), List.nodup_cons.mpr ⟨fun h => by
      obtain ⟨u, h⟩ := fst_mem h
      exact w.notin n h, w.c.nd⟩, w.c.imm.trans s, fun a u h => by
      rcases List.mem_cons.mp h with h | h
      · cases h
        exact w.frB n
      · exact w.c.dis a u h⟩, fun b u hb h => s _ _ (w.kept b u hb h), fun a u h => by
      rcases List.mem_cons.mp h with h | h
      · cases h
        exact .inr (w.frS n).1
      · exact w.own a u h, w.grow, w.new, fun a h e => w.there a h (same_none s e)⟩
theorem Own.sub {l' : List (Addr × HO)} (w : Own S B0 as B l H) (h : ∀ c, c ∈ l' → c ∈ l) (nd : (l'.map Prod.fst).Nodup) : Own S B0 as B l' H :=
  ⟨⟨fun a u k => w.c.cell a u (h _ k), nd, w.c.imm, fun a u k => w.c.dis a u (h _ k)⟩, w.kept, fun a u k => w.own a u (h _ k), w.grow, w.new, w.there⟩
/-- a cell changes: a list of the cells as they stand, one of them another -/
theorem Own.chg {l' : List (Addr × HO)} (w : Own S B0 as B l H) {u : HO} (hm : (p, u) ∈ l) (hf : l'.map Prod.fst = l.map Prod.fst) (hc : ∀ a v, (a, v) ∈ l' → (a = p ∧ v = o) ∨ (a ≠ p ∧ (a, v) ∈ l)) : Own S B0 as B l' (upd H p o) := by
  have old : ∀ {a v}, (a, v) ∈ l' → ∃ v', (a, v') ∈ l := fun {a v} h => by
    have := mem_fst h
    rw [hf] at this
    exact fst_mem this
  refine ⟨⟨fun a v h => ?_, hf ▸ w.c.nd, fun b v h => ?_, fun a v h => ?_⟩, fun b v hb h => ?_, fun a v h => ?_, w.grow, w.new, fun a h => ?_⟩
  · rcases hc a v h with ⟨rfl, rfl⟩ | ⟨hn, h⟩
    · exact upd_same
    · rw [upd_ne hn]
      exact w.c.cell a v h
  · have hb : b ≠ p := fun e => by
      rw [e, w.c.dis p u hm] at h
      cases h
    rw [upd_ne hb]
    exact w.c.imm b v h
  · obtain ⟨v', h'⟩ := old h
    exact w.c.dis a v' h'
  · have hn : b ≠ p := fun e => by
      subst e
      rcases w.own b u hm with z | z
      · exact hb z
      · rw [z] at h
        cases h
    rw [upd_ne hn]
    exact w.kept b v hb h
  · obtain ⟨v', h'⟩ := old h
    exact w.own a v' h'
  · by_cases e : a = p
    · rw [e, upd_same]
      exact fun z => nomatch z
    · rw [upd_ne e]
      exact w.there a h
theorem nd_ne {a b : Addr} {x y : HO} {l : List (Addr × HO)} (nd : (((a, x) :: l).map Prod.fst).Nodup) (h : (b, y) ∈ l) : b ≠ a := fun e => by
  subst e
  exact (List.nodup_cons.mp nd).1 (mem_fst h)
/-- the i-th cell changes -/
theorem Own.set (w : Own S B0 as B l H) (i : Nat) {u : HO} (hi : l[i]? = some (p, u)) (o : HO) : Own S B0 as B (l.set i (p, o)) (upd H p o) := by
  have hm : (p, u) ∈ l := List.mem_of_getElem? hi
  have hil := (List.getElem?_eq_some_iff.mp hi).1
  refine w.chg hm ?_ fun a v h => ?_
  · apply List.ext_getElem?
    intro j
    rw [List.getElem?_map, List.getElem?_map, List.getElem?_set]
    by_cases e : i = j
    · subst e
      rw [if_pos rfl, if_pos hil, hi]
      rfl
    · rw [if_neg e]
  · obtain ⟨j, hj⟩ := List.getElem?_of_mem h
    rw [List.getElem?_set] at hj
    by_cases e : i = j
    · rw [if_pos e, if_pos hil] at hj
      cases hj
      exact .inl ⟨rfl, rfl⟩
    · rw [if_neg e] at hj
      refine .inr ⟨fun z => ?_, List.mem_of_getElem? hj⟩
      subst z
      have h1 : (l.map Prod.fst)[i]? = some a := by rw [List.getElem?_map, hi]; rfl
      have h2 : (l.map Prod.fst)[j]? = some a := by rw [List.getElem?_map, hj]; rfl
      have hil2 : i < (l.map Prod.fst).length := by rw [List.length_map]; exact hil
      exact e ((List.getElem?_inj hil2 w.c.nd).mp (h1.trans h2.symm))
/-- a callee that works on the first cells -/
theorem Own.call {lc lr l' : List (Addr × HO)} {B' : Hp} (w : Own S B0 as B (lc ++ lr) H) (w' : Own H B (lc.map Prod.fst) B' l' H') : Own S B0 as B' (l' ++ lr) H' := by
  have nd := w.c.nd
  rw [List.map_append] at nd
  have ndr := (List.nodup_append.mp nd)
  have hr : ∀ a o, (a, o) ∈ lr → a ∉ lc.map Prod.fst := fun a o h k => ndr.2.2 a k a (mem_fst h) rfl
  have hl : ∀ a o, (a, o) ∈ l' → a ∈ lc.map Prod.fst ∨ H a = none := w'.own
  refine ⟨⟨fun a o h => ?_, ?_, w'.c.imm, fun a o h => ?_⟩, fun b o hb h => ?_, fun a o h => ?_, w.grow.trans w'.grow, fun b h k => ?_, fun a h => ?_⟩
  · rcases List.mem_append.mp h with h | h
    · exact w'.c.cell a o h
    · exact w'.kept a o (hr a o h) (w.c.cell a o (List.mem_append_right _ h))
  · rw [List.map_append]
    refine List.nodup_append.mpr ⟨w'.c.nd, ndr.2.1, fun a h b k e => ?_⟩
    subst e
    obtain ⟨o, h⟩ := fst_mem h
    obtain ⟨o2, k⟩ := fst_mem k
    rcases hl a o h with z | z
    · exact hr a o2 k z
    · rw [w.c.cell a o2 (List.mem_append_right _ k)] at z
      cases z
  · rcases List.mem_append.mp h with h | h
    · exact w'.c.dis a o h
    · have hb := w.c.dis a o (List.mem_append_right _ h)
      cases e : B' a with
      | none => rfl
      | some u =>
        have := w'.new a hb (by rw [e]; exact fun z => nomatch z)
        rw [w.c.cell a o (List.mem_append_right _ h)] at this
        cases this
  · refine w'.kept b o (fun z => ?_) (w.kept b o hb h)
    obtain ⟨u, z⟩ := fst_mem z
    rcases w.own b u (List.mem_append_left _ z) with y | y
    · exact hb y
    · rw [y] at h
      cases h
  · rcases List.mem_append.mp h with h | h
    · rcases hl a o h with z | z
      · obtain ⟨u, z⟩ := fst_mem z
        exact w.own a u (List.mem_append_left _ z)
      · exact .inr (w.frS z).1
    · exact w.own a o (List.mem_append_right _ h)
  · cases e : B b with
    | none => exact (w.frS (w'.new b e k)).1
    | some u => exact w.new b h (by rw [e]; exact fun z => nomatch z)
  · intro e
    have ha := w.there a h
    cases e2 : H a with
    | none => exact ha e2
    | some u =>
      by_cases hc : a ∈ lc.map Prod.fst
      · exact w'.there a hc e
      · rw [w'.kept a u hc e2] at e
        cases e
theorem Own.call0 {lc l' : List (Addr × HO)} {B' : Hp} (w : Own S B0 as B lc H) (w' : Own H B (lc.map Prod.fst) B' l' H') : Own S B0 as B' l' H' := by
  have w2 : Own S B0 as B (lc ++ []) H := by rw [List.append_nil]; exact w
  have w3 := w2.call w'
  rw [List.append_nil] at w3
  exact w3
theorem Own.cellsL {lc lr : List (Addr × HO)} (w : Own S B0 as B (lc ++ lr) H) : Cells H B lc := by
  have nd := w.c.nd
  rw [List.map_append] at nd
  exact ⟨fun a o h => w.c.cell a o (List.mem_append_left _ h), (List.nodup_append.mp nd).1, w.c.imm, fun a o h => w.c.dis a o (List.mem_append_left _ h)⟩
/-- the first cell changes no more -/
theorem Own.ice (w : Own S B0 as B ((p, o) :: l) H) (n : S p = none) : ∃ B', Same B B' ∧ B' p = some o ∧ Own S B0 as B' l H := by
  have nb := w.c.dis p o (List.mem_cons_self ..)
  have nd := List.nodup_cons.mp w.c.nd
  refine ⟨upd B p o, same_upd nb, upd_same, ⟨fun a u h => w.c.cell a u (List.mem_cons_of_mem _ h), nd.2, fun b u h => ?_, fun a u h => ?_⟩, w.kept, fun a u h => w.own a u (List.mem_cons_of_mem _ h), w.grow.trans (same_upd nb), fun b h k => ?_, w.there⟩
  · by_cases hb : b = p
    · rw [hb, upd_same] at h
      rw [hb, w.c.cell p o (List.mem_cons_self ..), h]
    · rw [upd_ne hb] at h
      exact w.c.imm b u h
  · rw [upd_ne (fun z => nd.1 (by rw [← show a = p from z]; exact mem_fst h))]
    exact w.c.dis a u (List.mem_cons_of_mem _ h)
  · by_cases hb : b = p
    · rw [hb]
      exact n
    · rw [upd_ne hb] at k
      exact w.new b h k
end

/-! ### fields, methods, dicts, whiles: readings that stop the walk at what the heap holds -/
@[irreducible] def mGetF (C : Addr) (f : Str) (x : V) (H : Hp) (Q : VK) : Prop := ∃ a dx fs v, x = .ref a ∧ H a = some (.ins C dx fs) ∧ fs.lookup f = some v ∧ Q v H
@[irreducible] def mPutF (C : Addr) (f : Str) (x y : V) (H : Hp) (k : Hp → Prop) : Prop := ∃ a dx fs, x = .ref a ∧ H a = some (.ins C dx fs) ∧ fs.length < 1000 ∧ k (upd H a (.ins C dx (putF f y fs)))
@[irreducible] def mIns (C : Addr) (m : Str) (x : V) (H : Hp) (A : Prop) : Prop := ∃ a dx fs, x = .ref a ∧ H a = some (.ins C dx fs) ∧ fs.lookup m = none ∧ A
@[irreducible] def mDIn (x y : V) (H : Hp) (Q : VK) : Prop := ∃ a kvs k, x = .ref a ∧ y = kV k ∧ H a = some (.dK kvs) ∧ Q (.bl (valV kvs k).isSome) H
@[irreducible] def mDNotIn (x y : V) (H : Hp) (Q : VK) : Prop := ∃ a kvs k, x = .ref a ∧ y = kV k ∧ H a = some (.dK kvs) ∧ Q (.bl (!(valV kvs k).isSome)) H
@[irreducible] def mDGet (x y : V) (H : Hp) (Q : VK) : Prop := ∃ a kvs k v, x = .ref a ∧ y = kV k ∧ Rd H a (.dK kvs) ∧ valV kvs k = some v ∧ Q v H
@[irreducible] def mDPut (x y v : V) (H : Hp) (k : Hp → Prop) : Prop := ∃ a kvs key, x = .ref a ∧ y = kV key ∧ H a = some (.dK kvs) ∧ kvs.length < 1000000 ∧ k (upd H a (.dK (putK kvs key v)))
@[irreducible] def mDDel (x y : V) (H : Hp) (k : Hp → Prop) : Prop := ∃ a kvs key, x = .ref a ∧ y = kV key ∧ H a = some (.dK kvs) ∧ (valV kvs key).isSome = true ∧ k (upd H a (.dK (dropK kvs key)))
@[irreducible] def mPopAt (x i : V) (H : Hp) (Q : VK) : Prop := ∃ l xs k y, x = .ref l ∧ i = .int k ∧ H l = some (.lst xs) ∧ 0 ≤ k ∧ k < (xs.length : Int) ∧ k ≤ 1000000 ∧ xs[k.toNat]? = some y ∧ Q y (upd H l (.lst (xs.eraseIdx k.toNat)))
@[irreducible] def mInsert (x i y : V) (H : Hp) (Q : VK) : Prop := ∃ l xs k, x = .ref l ∧ i = .int k ∧ H l = some (.lst xs) ∧ xs.length < 1000000 ∧ 0 ≤ k ∧ k ≤ 1000000 ∧ Q .non (upd H l (.lst (xs.take k.toNat ++ [y] ++ xs.drop k.toNat)))
@[irreducible] def mTru (K : PySem.W.Frag) (x : V) (H : Hp) (Q : Bool → Hp → Prop) : Prop := ∃ k, TruV K x H k ∧ Q k H
def mFld (C : Addr) (ta : TE) (f : Str) : TE := fun σ H Q => ta σ H fun x H1 => mGetF C f x H1 Q
def mSFld (C : Addr) (ta tv : TE) (f : Str) : TS := fun D σ H => tv σ H fun y H1 => ta σ H1 fun x H2 => mPutF C f x y H2 fun H3 => D.nx σ H3
def mSFldAug (C : Addr) (ta tv : TE) (rd : R2) (f : Str) : TS := fun D σ H => ta σ H fun x H1 => mGetF C f x H1 fun v _ => tv σ H1 fun y H2 => rd v y H2 fun z H3 => mPutF C f x z H3 fun H4 => D.nx σ H4
def mMeth (C : Addr) (m : Str) (sp : Sp) (dvs : List V) (E : XK) (ta : TE) (t : TA) : TE := fun σ H Q => ta σ H fun x H1 => mIns C m x H1 (t σ H1 fun vs H2 => sp (x :: (vs ++ dvs)) H2 Q E)
def mDInE (ty td : TE) : TE := fun σ H Q => ty σ H fun y H1 => td σ H1 fun x H2 => mDIn x y H2 Q
def mDNotInE (ty td : TE) : TE := fun σ H Q => ty σ H fun y H1 => td σ H1 fun x H2 => mDNotIn x y H2 Q
def mDGetE (td ty : TE) : TE := fun σ H Q => td σ H fun x H1 => ty σ H1 fun y H2 => mDGet x y H2 Q
def mSDPut (td ty tv : TE) : TS := fun D σ H => tv σ H fun v H1 => td σ H1 fun x H2 => ty σ H2 fun y H3 => mDPut x y v H3 fun H4 => D.nx σ H4
def mSDDel (td ty : TE) : TS := fun D σ H => td σ H fun x H1 => ty σ H1 fun y H2 => mDDel x y H2 fun H3 => D.nx σ H3
def mPopE (to te : TE) : TE := fun σ H Q => to σ H fun x H1 => ∃ l xs, x = .ref l ∧ H1 l = some (.lst xs) ∧ te σ H1 fun y H2 => mPopAt x y H2 Q
def mInsE (to ti te : TE) : TE := fun σ H Q => to σ H fun x H1 => ∃ l xs, x = .ref l ∧ H1 l = some (.lst xs) ∧ ti σ H1 fun i H2 => te σ H2 fun y H3 => mInsert x i y H3 Q
def mTruth (K : PySem.W.Frag) (ta : TE) : TT := fun σ H Q => ta σ H fun x H1 => mTru K x H1 Q
@[irreducible] def mWhile (c : TT) (tb : TS) : TS := fun D σ H => ∃ (Pv : L2.St → Hp → Prop) (μ : L2.St → Hp → Nat), Pv σ H ∧ ∀ σ H, Pv σ H → c σ H fun b H1 => Br b (tb { D with nx := fun σ' H' => Pv σ' H' ∧ μ σ' H' < μ σ H, ct := fun σ' H' => Pv σ' H' ∧ μ σ' H' < μ σ H, bk := D.nx } σ H1) (D.nx σ H1)
theorem rd_while {c : TT} {tb : TS} {D : Ends} {σ : L2.St} {H : Hp} (Pv : L2.St → Hp → Prop) (μ : L2.St → Hp → Nat) (h0 : Pv σ H) (hs : ∀ σ H, Pv σ H → c σ H fun b H1 => Br b (tb { D with nx := fun σ' H' => Pv σ' H' ∧ μ σ' H' < μ σ H, ct := fun σ' H' => Pv σ' H' ∧ μ σ' H' < μ σ H, bk := D.nx } σ H1) (D.nx σ H1)) : mWhile c tb D σ H := by
  unfold mWhile
  exact ⟨Pv, μ, h0, hs⟩
section
variable {C a : Addr} {f m : Str} {H : Hp} {Q : VK} {dx : Addr} {fs : List (Str × V)} {v y : V} {kvs : List (Key × V)} {n : Int} {t : Str} {xs : List V}
theorem rd_getF (h : H a = some (.ins C dx fs)) (hl : fs.lookup f = some v) (q : Q v H) : mGetF C f (.ref a) H Q := by
  unfold mGetF
  exact ⟨a, dx, fs, v, rfl, h, hl, q⟩
theorem rd_putF {k : Hp → Prop} {fs' : List (Str × V)} (h : H a = some (.ins C dx fs)) (hz : fs.length < 1000) (e : putF f y fs = fs') (q : k (upd H a (.ins C dx fs'))) : mPutF C f (.ref a) y H k := by
  unfold mPutF
  exact ⟨a, dx, fs, rfl, h, hz, e ▸ q⟩
theorem rd_ins {A : Prop} (h : H a = some (.ins C dx fs)) (hl : fs.lookup m = none) (q : A) : mIns C m (.ref a) H A := by
  unfold mIns
  exact ⟨a, dx, fs, rfl, h, hl, q⟩
theorem rd_din (h : H a = some (.dK kvs)) (q : Q (.bl (valV kvs (.inl n)).isSome) H) : mDIn (.ref a) (.int n) H Q := by
  unfold mDIn
  exact ⟨a, kvs, .inl n, rfl, rfl, h, q⟩
theorem rd_dnotin (h : H a = some (.dK kvs)) (q : Q (.bl (!(valV kvs (.inl n)).isSome)) H) : mDNotIn (.ref a) (.int n) H Q := by
  unfold mDNotIn
  exact ⟨a, kvs, .inl n, rfl, rfl, h, q⟩
theorem rd_dget (h : H a = some (.dK kvs)) (e : valV kvs (.inl n) = some v) (q : Q v H) : mDGet (.ref a) (.int n) H Q := by
  unfold mDGet
  exact ⟨a, kvs, .inl n, v, rfl, rfl, .inl h, e, q⟩
theorem rd_dgetR (h : Rd H a (.dK kvs)) (e : valV kvs (.inl n) = some v) (q : Q v H) : mDGet (.ref a) (.int n) H Q := by
  unfold mDGet
  exact ⟨a, kvs, .inl n, v, rfl, rfl, h, e, q⟩
theorem rd_dgetS (h : H a = some (.dK kvs)) (e : valV kvs (.inr t) = some v) (q : Q v H) : mDGet (.ref a) (.str t) H Q := by
  unfold mDGet
  exact ⟨a, kvs, .inr t, v, rfl, rfl, .inl h, e, q⟩
theorem rd_dput {k : Hp → Prop} (h : H a = some (.dK kvs)) (hz : kvs.length < 1000000) (q : k (upd H a (.dK (putK kvs (.inl n) y)))) : mDPut (.ref a) (.int n) y H k := by
  unfold mDPut
  exact ⟨a, kvs, .inl n, rfl, rfl, h, hz, q⟩
theorem rd_dputS {k : Hp → Prop} (h : H a = some (.dK kvs)) (hz : kvs.length < 1000000) (q : k (upd H a (.dK (putK kvs (.inr t) y)))) : mDPut (.ref a) (.str t) y H k := by
  unfold mDPut
  exact ⟨a, kvs, .inr t, rfl, rfl, h, hz, q⟩
theorem rd_ddel {k : Hp → Prop} (h : H a = some (.dK kvs)) (e : (valV kvs (.inl n)).isSome = true) (q : k (upd H a (.dK (dropK kvs (.inl n))))) : mDDel (.ref a) (.int n) H k := by
  unfold mDDel
  exact ⟨a, kvs, .inl n, rfl, rfl, h, e, q⟩
theorem rd_pop0 {xs : List V} (h : H a = some (.lst (y :: xs))) (q : Q y (upd H a (.lst xs))) : mPopAt (.ref a) (.int 0) H Q := by
  unfold mPopAt
  exact ⟨a, y :: xs, 0, y, rfl, rfl, h, Int.le_refl 0, by rw [List.length_cons]; omega, by decide, rfl, q⟩
theorem rd_popAt (h : H a = some (.lst xs)) (h0 : 0 ≤ n) (h1 : n < (xs.length : Int)) (h2 : n ≤ 1000000) (e : xs[n.toNat]? = some y) (q : Q y (upd H a (.lst (xs.eraseIdx n.toNat)))) : mPopAt (.ref a) (.int n) H Q := by
  unfold mPopAt
  exact ⟨a, xs, n, y, rfl, rfl, h, h0, h1, h2, e, q⟩
theorem rd_insert (h : H a = some (.lst xs)) (hz : xs.length < 1000000) (h0 : 0 ≤ n) (h1 : n ≤ 1000000) (q : Q .non (upd H a (.lst (xs.take n.toNat ++ [y] ++ xs.drop n.toNat)))) : mInsert (.ref a) (.int n) y H Q := by
  unfold mInsert
  exact ⟨a, xs, n, rfl, rfl, h, hz, h0, h1, q⟩
theorem rd_truL {K : PySem.W.Frag} {R : Bool → Hp → Prop} (h : SqL K H a xs) (q : R (!xs.isEmpty) H) : mTru K (.ref a) H R := by
  unfold mTru
  exact ⟨_, .inl ⟨xs, h, rfl⟩, q⟩
theorem rd_truD {K : PySem.W.Frag} {R : Bool → Hp → Prop} (h : H a = some (.dK kvs)) (q : R (!kvs.isEmpty) H) : mTru K (.ref a) H R := by
  unfold mTru
  exact ⟨_, .inr (.inr ⟨kvs, h, rfl⟩), q⟩
theorem rd_truB {K : PySem.W.Frag} {R : Bool → Hp → Prop} {b : Bool} (q : R b H) : mTru K (.bl b) H R := by
  unfold mTru
  exact ⟨b, rfl, q⟩
end
section
variable {X : Cx} {e o value i c : Expr} {f m : Str} {pos pos' tpos apos cpos : Pos} {ta tv td ty te ti to : TE} {C : Addr}
theorem pe_fldM (he : PE X e ta) (c : Cls X.K C) (n : NoAttr X.K C f) (hb : attributeBase e f X.env (eval e X.env) = eval e X.env := by rfl) : PE X (.Attribute e f pos) (mFld C ta f) :=
  pe_weak (pe_fld (pe_c he) hb) fun σ H Q q => ⟨_, q, fun x H1 r => by
    unfold mGetF at r
    obtain ⟨a, dx, fs, v, e1, h, hl, r⟩ := r
    exact ⟨a, C, dx, fs, v, e1, h, c, n, hl, r⟩⟩
theorem ps_fldM (ha : PE X o ta) (hv : PE X value tv) (c : Cls X.K C) (n : NoAttr X.K C f) (hs : swapsWith value (some (.Attribute o f pos')) pos.line X.env = pure false := by rfl) : PS X (.Assign [.Attribute o f pos'] value pos) (mSFld C ta tv f) :=
  ps_weak (ps_fld (pe_c ha) (pe_c hv) hs) fun D σ H q => ⟨_, q, fun y H1 r => ⟨_, r, fun x H2 r => by
    unfold mPutF at r
    obtain ⟨a, dx, fs, e1, h, hz, r⟩ := r
    exact ⟨a, C, dx, fs, e1, h, c, n, hz, r⟩⟩⟩
theorem inop_c {op : Operator} {rd : R2} (h : InOp X op rd) : InOp X op (cR2 rd) := fun pins s σ H x y u v Q I rx ry ⟨R, h1, h2⟩ => thn (h pins s σ H x y u v R I rx ry h1) fun w s1 ⟨z, H1, I1, rz, q⟩ => ⟨z, H1, I1, rz, h2 _ _ q⟩
theorem ps_fldaugM {op : Operator} {rd : R2} (ha : PE X o ta) (hv : PE X value tv) (hop : InOp X op rd) (c : Cls X.K C) (n : NoAttr X.K C f) : PS X (.AugAssign (.Attribute o f tpos) op value pos) (mSFldAug C ta tv rd f) :=
  ps_weak (ps_fldaug (pe_c ha) (pe_c hv) (inop_c hop)) fun D σ H q => ⟨_, q, fun x H1 r => by
    unfold mGetF at r
    obtain ⟨a, dx, fs, v, e1, h, hl, r⟩ := r
    subst e1
    refine ⟨a, C, dx, fs, v, rfl, h, c, n, hl, _, r, fun y H2 r => ⟨_, r, fun z H3 r => ?_⟩⟩
    unfold mPutF at r
    obtain ⟨a', dx', fs', e1, h', hz, r⟩ := r
    cases e1
    exact ⟨dx', fs', h', hz, r⟩⟩
theorem pc_weak {op : CmpOp} {a b : Expr} {t t' : TE} (h : PC X op a b t) (w : ∀ σ H Q, t' σ H Q → t σ H Q) : PC X op a b t' := ⟨fun pins s σ H Q I q => h.run pins s σ H Q I (w σ H Q q)⟩
theorem pc_dinM (hu : X.A.units + 1 < cLine) (hi : PE X i ty) (ho : PE X o td) : PC X .In i o (mDInE ty td) :=
  pc_weak (pc_din hu (pe_c hi) (pe_c ho)) fun σ H Q q => ⟨_, q, fun y H1 r => ⟨_, r, fun x H2 r => by
    unfold mDIn at r
    obtain ⟨a, kvs, k, e1, e2, h, r⟩ := r
    exact ⟨a, _, e1, e2 ▸ DGet.k h, r⟩⟩⟩
theorem pc_dnotinM (hu : X.A.units + 1 < cLine) (hi : PE X i ty) (ho : PE X o td) : PC X .NotIn i o (mDNotInE ty td) :=
  pc_weak (pc_dnotin hu (pe_c hi) (pe_c ho)) fun σ H Q q => ⟨_, q, fun y H1 r => ⟨_, r, fun x H2 r => by
    unfold mDNotIn at r
    obtain ⟨a, kvs, k, e1, e2, h, r⟩ := r
    exact ⟨a, _, e1, e2 ▸ DGet.k h, r⟩⟩⟩
theorem pe_dgetM (hu : X.A.units + 1 < cLine) (ho : PE X o td) (hi : PE X i ty) (hs : NoSl i := by exact fun _ _ => rfl) : PE X (.Subscript o i pos) (mDGetE td ty) :=
  pe_weak (pe_dget hu (pe_c ho) (pe_c hi) hs) fun σ H Q q => ⟨_, q, fun x H1 r => ⟨_, r, fun y H2 r => by
    unfold mDGet at r
    obtain ⟨a, kvs, k, v, e1, e2, h, e, r⟩ := r
    exact ⟨a, v, e1, .inl ⟨kvs, k, h, e2, e.symm⟩, r⟩⟩⟩
theorem ps_dputM (hu : X.A.units + 1 < cLine) (ho : PE X o td) (hi : PE X i ty) (hv : PE X value tv) (hs : swapsWith value (some (.Subscript o i pos')) pos.line X.env = pure false := by rfl) : PS X (.Assign [.Subscript o i pos'] value pos) (mSDPut td ty tv) :=
  ps_weak (ps_dput hu (pe_c ho) (pe_c hi) (pe_c hv) hs) fun D σ H q => ⟨_, q, fun v H1 r => ⟨_, r, fun x H2 r => ⟨_, r, fun y H3 r => by
    unfold mDPut at r
    obtain ⟨a, kvs, k, e1, e2, h, hz, r⟩ := r
    exact ⟨a, _, e1, e2 ▸ DPut.k h (szl hz), r⟩⟩⟩⟩
theorem ps_ddelM (ho : PE X o td) (hi : PE X i ty) : PS X (.Delete [.Subscript o i tpos] pos) (mSDDel td ty) :=
  ps_weak (ps_ddel (pe_c ho) (pe_c hi)) fun D σ H q => ⟨_, q, fun x H1 r => ⟨_, r, fun y H2 r => by
    unfold mDDel at r
    obtain ⟨a, kvs, k, e1, e2, h, e, r⟩ := r
    exact ⟨a, kvs, k, e1, h, e2, e, r⟩⟩⟩
theorem pt_truthM (ha : PE X e ta) (he : ∀ whole, isTrue e X.env whole = (do let v ← whole; standAt e.pos; holding [v] (truthy v))) : PT X e (mTruth X.K ta) :=
  pt_weak (pt_truth (pe_c ha) he) fun σ H Q q => ⟨_, q, fun x H1 r => by
    unfold mTru at r
    exact r⟩
theorem ps_whileM {body : List Stmt} {tc : TT} {tb : TS} (hp : PassesOwn (model X.prog X.w) X.A X.env X.xe) (hc : PT X c tc) (hb : PSs X body tb) : PS X (.While c body [] pos) (mWhile tc tb) :=
  ps_weak (ps_while hp (pt_c hc) hb) fun D σ H q => by
    unfold mWhile at q
    obtain ⟨Pv, μ, h0, hs⟩ := q
    exact while_by Pv μ h0 (fun σ H p => ⟨_, hs σ H p, fun b H1 r => r.un⟩) fun σ H Q Q' h ⟨R, h1, h2⟩ => ⟨R, h1, fun b H1 r => h _ _ (h2 _ _ r)⟩
theorem pe_pop {o e : Expr} (ho : PE X o to) (he : PE X e te) (hbase : attributeBase o "pop" X.env (eval o X.env) = eval o X.env := by rfl)
    (hfew : ((backTo cpos (starEach [e] X.env)).all (fun x => !x.1) && (backToKw cpos (keywordEach [] X.env)).all (fun x => x.1.isSome)
      && decide ([e].length + ([] : List Keyword).length + (if ([] : List Keyword).isEmpty then 0 else 1) < 30)) = true := by rfl)
    (hline : (apos.endLine == cpos.line) = true := by rfl) (hs : starEach [e] X.env = (false, eval e X.env) :: starEach [] X.env := by rfl) (hplain : (backTo cpos (starEach [] X.env)).any (·.1) = false := by rfl) :
    PE X (.Call (.Attribute o "pop" apos) [e] [] cpos) (mPopE to te) :=
  pe_weak (pe_bm PySem.F.plainAttrs_list PySem.F.slot_list_pop PySem.F.type_list_pop mt_popAt (pe_c ho) (pa_cons (pe_c he) pa_nil hs) hbase hfew hline hs hplain) fun σ H Q q => by
    refine ⟨_, q, fun x H1 r => ?_⟩
    obtain ⟨l, xs, rfl, h, r⟩ := r
    refine ⟨Or.inl ⟨rfl, _, SqL.of h⟩, _, r, fun y H2 r2 => ?_⟩
    unfold mPopAt at r2
    obtain ⟨l2, ys, k, z, e2, e3, h2, h0, h1, hk, hy, q2⟩ := r2
    have big : (2 : Int) ^ 63 = 9223372036854775808 := by decide
    exact ⟨l2, ys, k, k.toNat, z, e2, congrArg (fun u => [u]) e3, h2, by omega, by omega, seqIndex_of h0 h1, hy, q2⟩
end
section
variable {X : Cx} {e o i : Expr} {m : Str} {apos cpos : Pos} {ta te ti to : TE} {C : Addr} {t : TA} {sp : Sp} {dvs : List V} {E : XK}
theorem meth_weak (h : PE X e (tMeth C m sp dvs E (cTE ta) t)) : PE X e (mMeth C m sp dvs E ta t) := pe_weak h fun σ H Q q => ⟨_, q, fun x H1 r => by
  unfold mIns at r
  exact r⟩
theorem pe_insert {o i e : Expr} (ho : PE X o to) (hi : PE X i ti) (he : PE X e te) (hbase : attributeBase o "insert" X.env (eval o X.env) = eval o X.env := by rfl)
    (hfew : ((backTo cpos (starEach [i, e] X.env)).all (fun x => !x.1) && (backToKw cpos (keywordEach [] X.env)).all (fun x => x.1.isSome)
      && decide ([i, e].length + ([] : List Keyword).length + (if ([] : List Keyword).isEmpty then 0 else 1) < 30)) = true := by rfl)
    (hline : (apos.endLine == cpos.line) = true := by rfl) (hs1 : starEach [e] X.env = (false, eval e X.env) :: starEach [] X.env := by rfl) (hs : starEach [i, e] X.env = (false, eval i X.env) :: starEach [e] X.env := by rfl) (hplain : (backTo cpos (starEach [e] X.env)).any (·.1) = false := by rfl) :
    PE X (.Call (.Attribute o "insert" apos) [i, e] [] cpos) (mInsE to ti te) :=
  pe_weak (pe_bm PySem.F.plainAttrs_list PySem.F.slot_list_insert PySem.F.type_list_insert mt_insert (pe_c ho) (pa_cons (pe_c hi) (pa_cons (pe_c he) pa_nil hs1) hs) hbase hfew hline hs hplain) fun σ H Q q => by
    refine ⟨_, q, fun x H1 r => ?_⟩
    obtain ⟨l, xs, rfl, h, r⟩ := r
    refine ⟨Or.inl ⟨rfl, _, SqL.of h⟩, _, r, fun y H2 r => ⟨_, r, fun z H3 r2 => ?_⟩⟩
    unfold mInsert at r2
    obtain ⟨l2, ys, k, e2, e3, h2, hz, h0, h1, q2⟩ := r2
    have big : (2 : Int) ^ 63 = 9223372036854775808 := by decide
    exact ⟨l2, ys, k, z, e2, congrArg (fun u => [u, z]) e3, h2, szl hz, h0, by omega, q2⟩
end
/-! ### an if whose ways meet again: told once by what holds behind it -/
def cTSs (t : TS) : TS := fun D σ H => ∃ P : L2.St → Hp → Prop, t { D with nx := P } σ H ∧ ∀ σ' H', P σ' H' → D.nx σ' H'
theorem pss_c {X : Cx} {sts : List Stmt} {t : TS} (h : PSs X sts t) : PSs X sts (cTSs t) := ⟨fun pins s σ H D I ⟨P, h1, h2⟩ => thn (h.run pins s σ H { D with nx := P } I h1) fun f s' q => by
  cases f with
  | next =>
    obtain ⟨σ', H', I', q⟩ := q
    exact ⟨σ', H', I', h2 _ _ q⟩
  | brk => exact q
  | cont => exact q
  | ret u => exact q⟩
@[irreducible] def IfJ (b : Bool) (t u : TS) (D : Ends) (σ : L2.St) (H : Hp) : Prop := ∃ P : L2.St → Hp → Prop, (b = true → t { D with nx := P } σ H) ∧ (b = false → u { D with nx := P } σ H) ∧ ∀ σ' H', P σ' H' → D.nx σ' H'
def mIfJ (c : TT) (t u : TS) : TS := fun D σ H => c σ H fun b H1 => IfJ b t u D σ H1
theorem rd_ifJ {b : Bool} {t u : TS} {D : Ends} {σ : L2.St} {H : Hp} (P : L2.St → Hp → Prop) (h1 : b = true → t { D with nx := P } σ H) (h2 : b = false → u { D with nx := P } σ H) (k : ∀ σ' H', P σ' H' → D.nx σ' H') : IfJ b t u D σ H := by
  unfold IfJ
  exact ⟨P, h1, h2, k⟩
theorem ps_ifJ {X : Cx} {c : Expr} {bs us : List Stmt} {pos : Pos} {tt : TT} {t u : TS} (hc : PT X c tt) (ha : PSs X bs t) (hb : PSs X us u) : PS X (.If c bs us pos) (mIfJ tt t u) :=
  ps_weak (ps_if (pt_c hc) (pss_c ha) (pss_c hb)) fun D σ H q => ⟨_, q, fun b H1 r => by
    unfold IfJ at r
    obtain ⟨P, h1, h2, k⟩ := r
    cases b with
    | true => exact iteT ⟨P, h1 rfl, k⟩
    | false => exact iteF ⟨P, h2 rfl, k⟩⟩
end My
namespace My
open PySem L2

section
open PySem.Spec PyProof.Rows
variable {prog : Program} {w : World} {A : Around} {E : Value → Shared → Prop} {s : Shared}
def bestA (b : Option (Int × Tok)) : Array Value := match b with | none => #[] | some p => #[Value.int p.1 p.2, Value.int p.1 p.2]
def bestO (b : Option (Int × Tok)) (c : Nat) : Obj := { cls := .type "list", dict := none, data := .seq (bestA b) c, slots := #[] }
def endsIn (o : Option Int) (dv v : Value) : Prop := match o with | none => v = dv | some m => ∃ t, v = Value.int m t
theorem kw_tree {id : String} {b : Builtin} {args : List Value} {kw : List (Str × Value)} {Q : Value → Shared → Prop} (hk : builtinKind id = none) (hp : plainId id = true) (hb : entryFor table id = some b) (ha : argsOk id ⟨args, kw⟩)
    (hc : wpAny (model prog w) A.in1 (b ⟨args, kw⟩) (fun fin s' => match fin with
      | .done f => (match (Except.ok f : Result) with | .ok (.ret v) => Q v s' | .ok _ => False | .error e => E e s')
      | .again d => d.quiet = true ∧ codeAny (model prog w) A d (fun r s' => match r with | .ok (.ret v) => Q v s' | .ok _ => False | .error e => E e s') s') E s) : wpAny (model prog w) A (call (.builtin id) args kw) Q E s := by
  refine wpAny_call (codeAny_call_builtin hp hb ?_)
  simp only [checkBuiltinCall, hk]
  cases hs : Manifest.signature? id with
  | none => exact wpAny_pure hc
  | some sig =>
    have h2 : Bind.checkArgs id sig ⟨args, kw⟩ = pure () := by simpa only [argsOk, hs] using ha
    show wpAny _ A.in1 (Bind.checkArgs id sig ⟨args, kw⟩) _ _ s
    rw [h2]
    exact wpAny_pure hc
end

section
open PySem.Spec PyProof.Rows
variable {prog : Program} {w : World} {A : Around} {R : Result → Shared → Prop} {I : Addr} {fp wr : List Addr} {G : Array GenState → Array GenState → Prop} {n : Nat} {P : Nat → Value → Prop} {St : Nat → Shared → Prop}
def mxTo (val : Nat → Int) : Nat → Option Int
  | 0 => none
  | i + 1 => some (match mxTo val i with | none => val i | some m => if val i > m then val i else m)
theorem mx_loop (W : WalksS prog w A.in1 I fp wr G n P St) (val : Nat → Int) (hv : ∀ i v, P i v → ∃ t, v = Value.int (val i) t) (S : Addr) (hSf : S ∉ fp) (dv : Value) :
    ∀ (k i : Nat) (s : Shared) (c : Nat) (b : Option (Int × Tok)), n - i = k → i ≤ n → St i s → b.map Prod.fst = mxTo val i → s.heap.get? S = some (bestO b c) →
      (∀ v s', Moved (S :: wr) G s s' → endsIn (mxTo val n) dv v → R (.ok (.ret v)) s') → codeAny (model prog w) A (.builtin "max.loop" ⟨[.ref I, .none, .ref S], [(Str.ofString "default", dv)]⟩) R s := by
  have nw : S ∉ wr := fun z => hSf (W.sub _ z)
  have up : ∀ b ∈ wr, b ∈ S :: wr := fun b z => .tail _ z
  have hN : (toString "max" ++ toString ".loop" : String) = "max.loop" := by decide
  have hne : ∀ {b : Addr}, b ∉ S :: wr → S ≠ b := fun z e => z (e ▸ .head _)
  intro k
  induction k with
  | zero =>
    intro i s c b hk hi st hb hS fin
    have en : i = n := by omega
    subst en
    refine codeAny_builtin F.entry_max_loop ?_
    rw [Around.under_plainId F.plain_max_loop _]
    show wpAny _ A.in1 (seqItems? (.ref S) >>= _) _ _ s
    refine wpAny_bind (wpAny_seqItems hS (show (bestO b c).data = .seq (bestA b) c from rfl) ?_)
    show wpAny _ A.in1 (tryCatch (pyNext (.ref I)) _ >>= _) _ _ s
    refine wpAny_bind (wpAny_tryCatch (W.done s _ _ st fun s' mv => ?_))
    have hS2 := mv.heap S _ nw hS
    cases b with
    | none =>
      refine wpAny_bind (m := rule _) (wpAny_rule (wpAny_pure (fin _ _ (mv.mono up) ?_)))
      rw [← hb]
      rfl
    | some p =>
      obtain ⟨m, t⟩ := p
      show wpAny _ A.in1 (updateSeq S (fun _ => #[]) >>= _) _ _ _
      refine wpAny_bind ?_
      refine wpAny_updateSeq (hz := by show 2 ≤ sizeLine; rw [sizeLine_eq]; decide) hS2 rfl (wpAny_bind (wpAny_letGo (wpAny_pure ?_)))
      refine fin (.int m t) _ ((mv.mono up).then_heap (tk := s'.toks) (Nat.le_refl _) fun b o z e => (Heap.get?_update_other _ _ (hne z)).trans e) ?_
      rw [← hb]
      exact ⟨t, rfl⟩
  | succ k ih =>
    intro i s c b hk hi st hb hS fin
    have hlt : i < n := by omega
    refine codeAny_builtin F.entry_max_loop ?_
    rw [Around.under_plainId F.plain_max_loop _]
    show wpAny _ A.in1 (seqItems? (.ref S) >>= _) _ _ s
    refine wpAny_bind (wpAny_seqItems hS (show (bestO b c).data = .seq (bestA b) c from rfl) ?_)
    show wpAny _ A.in1 (tryCatch (pyNext (.ref I)) _ >>= _) _ _ s
    refine wpAny_bind (wpAny_tryCatch (W.item i s _ _ hlt st fun v s' pv st' mv => ?_))
    obtain ⟨u, rfl⟩ := hv i v pv
    have hS2 := mv.heap S _ nw hS
    have stay : ∀ (h' : Heap) (tk : Nat), s'.toks ≤ tk → (∀ b, b ≠ S → h'.get? b = s'.heap.get? b) → St (i + 1) { s' with heap := h', toks := tk } := fun h' tk htk hh => W.frame _ s' _ _ st' htk fun b zb o e => (hh b fun z => hSf (z ▸ zb)).trans e
    cases b with
    | none =>
      show wpAny _ A.in1 (updateSeq S (fun _ => #[Value.int (val i) u, Value.int (val i) u]) >>= _) _ _ _
      refine wpAny_bind ?_
      refine wpAny_updateSeq hS2 rfl ?_
      rw [hN]
      refine wpAny_pure ⟨plainId_quiet F.plain_max_loop _, ih (i + 1) _ _ (some (val i, u)) (by omega) hlt (stay _ s'.toks (Nat.le_refl _) fun b z => Heap.get?_update_other _ _ (Ne.symm z)) ?_ (Heap.get?_update_self _ hS2 rfl) fun v' s'' mv' hv' => ?_⟩
      · show some (val i) = mxTo val (i + 1)
        unfold mxTo
        rw [← hb]
        rfl
      · exact fin v' s'' (Moved.trans W.gtrans ((mv.mono up).then_heap (tk := s'.toks) (Nat.le_refl _) fun b o z e => (Heap.get?_update_other _ _ (hne z)).trans e) mv') hv'
    | some p =>
      obtain ⟨m, t⟩ := p
      have eb : mxTo val (i + 1) = some (if val i > m then val i else m) := by
        have hb2 : some m = mxTo val i := hb
        show some (match mxTo val i with | none => val i | some m => if val i > m then val i else m) = _
        rw [← hb2]
      show wpAny _ A.in1 (tryCatch (holding [Value.int (val i) u, Value.int (val i) u] (richCompare .Gt (Value.int (val i) u) (Value.int m t) >>= _)) _ >>= _) _ _ _
      refine wpAny_bind (wpAny_tryCatch (wpAny_holding (wpAny_bind ((CmpOf.ints_gt (P := fun a v => ∃ t, v = Value.int (if a = 0 then val i else m) t) (fun j : Nat => if j = 0 then val i else m) fun _ _ z => z) 0 1 _ _ _ _ _ ⟨u, rfl⟩ ⟨t, rfl⟩ ?_))))
      refine wpAny_bind (wpAny_holding (wpAny_truthy_bool ?_))
      refine wpAny_bind (wpAny_letGo (wpAny_pure ?_))
      show wpAny _ _ (if decide (val i > m) = true then _ else _) _ _ _
      by_cases hc : val i > m
      · rw [decide_eq_true hc]
        simp only [if_true]
        refine wpAny_bind ?_
        refine wpAny_updateSeq (hz := by show 2 ≤ sizeLine; rw [sizeLine_eq]; decide) hS2 rfl (wpAny_bind (wpAny_letGo ?_))
        rw [hN]
        refine wpAny_pure ⟨plainId_quiet F.plain_max_loop _, ih (i + 1) _ _ (some (val i, u)) (by omega) hlt (stay _ s'.toks (Nat.le_refl _) fun b z => Heap.get?_update_other _ _ (Ne.symm z)) (by rw [eb, if_pos hc]; rfl) (Heap.get?_update_self _ hS2 rfl) fun v' s'' mv' hv' => ?_⟩
        exact fin v' s'' (Moved.trans W.gtrans ((mv.mono up).then_heap (tk := s'.toks) (Nat.le_refl _) fun b o z e => (Heap.get?_update_other _ _ (hne z)).trans e) mv') hv'
      · rw [decide_eq_false hc]
        simp only [Bool.false_eq_true, if_false]
        refine wpAny_bind (wpAny_letGo ?_)
        rw [hN]
        refine wpAny_pure ⟨plainId_quiet F.plain_max_loop _, ih (i + 1) _ _ (some (m, t)) (by omega) hlt st' (by rw [eb, if_neg hc]; rfl) hS2 fun v' s'' mv' hv' => ?_⟩
        exact fin v' s'' (Moved.trans W.gtrans (mv.mono up) mv') hv'
theorem mx_kw {A : Around} {E : Value → Shared → Prop} {s : Shared} {x dv : Value} {Q : Value → Shared → Prop}
    (h : wpAny (model prog w) A.in1 (pyIter x) (fun it s2 => ∃ I fp wr G n P St val, it = .ref I ∧ WalksS prog w A.in1 I fp wr G n P St ∧ St 0 s2 ∧ (∀ b ∈ fp, b < s2.heap.objs.size) ∧ (∀ i v, P i v → ∃ t, v = Value.int (val i) t) ∧
      ∀ v s', Moved wr G s2 s' → endsIn (mxTo val n) dv v → Q v s') E s) : wpAny (model prog w) A (call (.builtin "max") [x] [(Str.ofString "default", dv)]) Q E s := by
  have hN : (toString "max" ++ toString ".loop" : String) = "max.loop" := by decide
  refine kw_tree F.kind_max F.plain_max F.entry_max (by unfold argsOk; kernel_rfl) ?_
  show wpAny _ A.in1 (Builtin.Builtins.bindParams "max" ["key", "default"] 0 ⟨[], [(Str.ofString "default", dv)]⟩ >>= _) _ _ s
  refine wpAny_bind (wpAny_of_eq (show Builtin.Builtins.bindParams "max" ["key", "default"] 0 ⟨[], [(Str.ofString "default", dv)]⟩ = pure [none, some dv] from by kernel_rfl) ?_)
  refine wpAny_bind (wpAny_pure ?_)
  refine wpAny_bind (wpAny_mono h (fun it s2 h2 => ?_) fun _ _ e => e)
  obtain ⟨I, fp, wr, G, n, P, St, val, rfl, W, st, hfp, hval, fin⟩ := h2
  refine wpAny_bind (wpAny_newObj_type ?_)
  have hSf : s2.heap.objs.size ∉ fp := fun z => Nat.lt_irrefl _ (hfp _ z)
  rw [hN]
  refine wpAny_pure ⟨plainId_quiet F.plain_max_loop _, mx_loop W val hval s2.heap.objs.size hSf dv n 0 _ 0 none (Nat.sub_zero n) (Nat.zero_le _) (W.frame 0 s2 _ s2.toks st (Nat.le_refl _) fun b _ o e => Heap.get?_push_of_some _ e) rfl (Heap.get?_push_size _ rfl) fun v s' mv hv => ?_⟩
  exact fin v s' (Moved.drop_new (tk := s2.toks) mv (Nat.le_refl _)) hv
end

section
open PySem.Spec PyProof.Rows
variable {prog : Program} {w : World} {A : Around} {R : Result → Shared → Prop} {I : Addr} {fp wr : List Addr} {G : Array GenState → Array GenState → Prop} {n : Nat} {P : Nat → Value → Prop} {St : Nat → Shared → Prop}
def mnTo (val : Nat → Int) : Nat → Option Int
  | 0 => none
  | i + 1 => some (match mnTo val i with | none => val i | some m => if val i < m then val i else m)
theorem mn_loop (W : WalksS prog w A.in1 I fp wr G n P St) (val : Nat → Int) (hv : ∀ i v, P i v → ∃ t, v = Value.int (val i) t) (S : Addr) (hSf : S ∉ fp) (dv : Value) :
    ∀ (k i : Nat) (s : Shared) (c : Nat) (b : Option (Int × Tok)), n - i = k → i ≤ n → St i s → b.map Prod.fst = mnTo val i → s.heap.get? S = some (bestO b c) →
      (∀ v s', Moved (S :: wr) G s s' → endsIn (mnTo val n) dv v → R (.ok (.ret v)) s') → codeAny (model prog w) A (.builtin "min.loop" ⟨[.ref I, .none, .ref S], [(Str.ofString "default", dv)]⟩) R s := by
  have nw : S ∉ wr := fun z => hSf (W.sub _ z)
  have up : ∀ b ∈ wr, b ∈ S :: wr := fun b z => .tail _ z
  have hN : (toString "min" ++ toString ".loop" : String) = "min.loop" := by decide
  have hne : ∀ {b : Addr}, b ∉ S :: wr → S ≠ b := fun z e => z (e ▸ .head _)
  intro k
  induction k with
  | zero =>
    intro i s c b hk hi st hb hS fin
    have en : i = n := by omega
    subst en
    refine codeAny_builtin F.entry_min_loop ?_
    rw [Around.under_plainId F.plain_min_loop _]
    show wpAny _ A.in1 (seqItems? (.ref S) >>= _) _ _ s
    refine wpAny_bind (wpAny_seqItems hS (show (bestO b c).data = .seq (bestA b) c from rfl) ?_)
    show wpAny _ A.in1 (tryCatch (pyNext (.ref I)) _ >>= _) _ _ s
    refine wpAny_bind (wpAny_tryCatch (W.done s _ _ st fun s' mv => ?_))
    have hS2 := mv.heap S _ nw hS
    cases b with
    | none =>
      refine wpAny_bind (m := rule _) (wpAny_rule (wpAny_pure (fin _ _ (mv.mono up) ?_)))
      rw [← hb]
      rfl
    | some p =>
      obtain ⟨m, t⟩ := p
      show wpAny _ A.in1 (updateSeq S (fun _ => #[]) >>= _) _ _ _
      refine wpAny_bind ?_
      refine wpAny_updateSeq (hz := by show 2 ≤ sizeLine; rw [sizeLine_eq]; decide) hS2 rfl (wpAny_bind (wpAny_letGo (wpAny_pure ?_)))
      refine fin (.int m t) _ ((mv.mono up).then_heap (tk := s'.toks) (Nat.le_refl _) fun b o z e => (Heap.get?_update_other _ _ (hne z)).trans e) ?_
      rw [← hb]
      exact ⟨t, rfl⟩
  | succ k ih =>
    intro i s c b hk hi st hb hS fin
    have hlt : i < n := by omega
    refine codeAny_builtin F.entry_min_loop ?_
    rw [Around.under_plainId F.plain_min_loop _]
    show wpAny _ A.in1 (seqItems? (.ref S) >>= _) _ _ s
    refine wpAny_bind (wpAny_seqItems hS (show (bestO b c).data = .seq (bestA b) c from rfl) ?_)
    show wpAny _ A.in1 (tryCatch (pyNext (.ref I)) _ >>= _) _ _ s
    refine wpAny_bind (wpAny_tryCatch (W.item i s _ _ hlt st fun v s' pv st' mv => ?_))
    obtain ⟨u, rfl⟩ := hv i v pv
    have hS2 := mv.heap S _ nw hS
    have stay : ∀ (h' : Heap) (tk : Nat), s'.toks ≤ tk → (∀ b, b ≠ S → h'.get? b = s'.heap.get? b) → St (i + 1) { s' with heap := h', toks := tk } := fun h' tk htk hh => W.frame _ s' _ _ st' htk fun b zb o e => (hh b fun z => hSf (z ▸ zb)).trans e
    cases b with
    | none =>
      show wpAny _ A.in1 (updateSeq S (fun _ => #[Value.int (val i) u, Value.int (val i) u]) >>= _) _ _ _
      refine wpAny_bind ?_
      refine wpAny_updateSeq hS2 rfl ?_
      rw [hN]
      refine wpAny_pure ⟨plainId_quiet F.plain_min_loop _, ih (i + 1) _ _ (some (val i, u)) (by omega) hlt (stay _ s'.toks (Nat.le_refl _) fun b z => Heap.get?_update_other _ _ (Ne.symm z)) ?_ (Heap.get?_update_self _ hS2 rfl) fun v' s'' mv' hv' => ?_⟩
      · show some (val i) = mnTo val (i + 1)
        unfold mnTo
        rw [← hb]
        rfl
      · exact fin v' s'' (Moved.trans W.gtrans ((mv.mono up).then_heap (tk := s'.toks) (Nat.le_refl _) fun b o z e => (Heap.get?_update_other _ _ (hne z)).trans e) mv') hv'
    | some p =>
      obtain ⟨m, t⟩ := p
      have eb : mnTo val (i + 1) = some (if val i < m then val i else m) := by
        have hb2 : some m = mnTo val i := hb
        show some (match mnTo val i with | none => val i | some m => if val i < m then val i else m) = _
        rw [← hb2]
      show wpAny _ A.in1 (tryCatch (holding [Value.int (val i) u, Value.int (val i) u] (richCompare .Lt (Value.int (val i) u) (Value.int m t) >>= _)) _ >>= _) _ _ _
      refine wpAny_bind (wpAny_tryCatch (wpAny_holding (wpAny_bind ((CmpOf.ints_lt (P := fun a v => ∃ t, v = Value.int (if a = 0 then val i else m) t) (fun j : Nat => if j = 0 then val i else m) fun _ _ z => z) 0 1 _ _ _ _ _ ⟨u, rfl⟩ ⟨t, rfl⟩ ?_))))
      refine wpAny_bind (wpAny_holding (wpAny_truthy_bool ?_))
      refine wpAny_bind (wpAny_letGo (wpAny_pure ?_))
      show wpAny _ _ (if decide (val i < m) = true then _ else _) _ _ _
      by_cases hc : val i < m
      · rw [decide_eq_true hc]
        simp only [if_true]
        refine wpAny_bind ?_
        refine wpAny_updateSeq (hz := by show 2 ≤ sizeLine; rw [sizeLine_eq]; decide) hS2 rfl (wpAny_bind (wpAny_letGo ?_))
        rw [hN]
        refine wpAny_pure ⟨plainId_quiet F.plain_min_loop _, ih (i + 1) _ _ (some (val i, u)) (by omega) hlt (stay _ s'.toks (Nat.le_refl _) fun b z => Heap.get?_update_other _ _ (Ne.symm z)) (by rw [eb, if_pos hc]; rfl) (Heap.get?_update_self _ hS2 rfl) fun v' s'' mv' hv' => ?_⟩
        exact fin v' s'' (Moved.trans W.gtrans ((mv.mono up).then_heap (tk := s'.toks) (Nat.le_refl _) fun b o z e => (Heap.get?_update_other _ _ (hne z)).trans e) mv') hv'
      · rw [decide_eq_false hc]
        simp only [Bool.false_eq_true, if_false]
        refine wpAny_bind (wpAny_letGo ?_)
        rw [hN]
        refine wpAny_pure ⟨plainId_quiet F.plain_min_loop _, ih (i + 1) _ _ (some (m, t)) (by omega) hlt st' (by rw [eb, if_neg hc]; rfl) hS2 fun v' s'' mv' hv' => ?_⟩
        exact fin v' s'' (Moved.trans W.gtrans (mv.mono up) mv') hv'
theorem mn_kw {A : Around} {E : Value → Shared → Prop} {s : Shared} {x dv : Value} {Q : Value → Shared → Prop}
    (h : wpAny (model prog w) A.in1 (pyIter x) (fun it s2 => ∃ I fp wr G n P St val, it = .ref I ∧ WalksS prog w A.in1 I fp wr G n P St ∧ St 0 s2 ∧ (∀ b ∈ fp, b < s2.heap.objs.size) ∧ (∀ i v, P i v → ∃ t, v = Value.int (val i) t) ∧
      ∀ v s', Moved wr G s2 s' → endsIn (mnTo val n) dv v → Q v s') E s) : wpAny (model prog w) A (call (.builtin "min") [x] [(Str.ofString "default", dv)]) Q E s := by
  have hN : (toString "min" ++ toString ".loop" : String) = "min.loop" := by decide
  refine kw_tree F.kind_min F.plain_min F.entry_min (by unfold argsOk; kernel_rfl) ?_
  show wpAny _ A.in1 (Builtin.Builtins.bindParams "min" ["key", "default"] 0 ⟨[], [(Str.ofString "default", dv)]⟩ >>= _) _ _ s
  refine wpAny_bind (wpAny_of_eq (show Builtin.Builtins.bindParams "min" ["key", "default"] 0 ⟨[], [(Str.ofString "default", dv)]⟩ = pure [none, some dv] from by kernel_rfl) ?_)
  refine wpAny_bind (wpAny_pure ?_)
  refine wpAny_bind (wpAny_mono h (fun it s2 h2 => ?_) fun _ _ e => e)
  obtain ⟨I, fp, wr, G, n, P, St, val, rfl, W, st, hfp, hval, fin⟩ := h2
  refine wpAny_bind (wpAny_newObj_type ?_)
  have hSf : s2.heap.objs.size ∉ fp := fun z => Nat.lt_irrefl _ (hfp _ z)
  rw [hN]
  refine wpAny_pure ⟨plainId_quiet F.plain_min_loop _, mn_loop W val hval s2.heap.objs.size hSf dv n 0 _ 0 none (Nat.sub_zero n) (Nat.zero_le _) (W.frame 0 s2 _ s2.toks st (Nat.le_refl _) fun b _ o e => Heap.get?_push_of_some _ e) rfl (Heap.get?_push_size _ rfl) fun v s' mv hv => ?_⟩
  exact fin v s' (Moved.drop_new (tk := s2.toks) mv (Nat.le_refl _)) hv
end
theorem ints_nth {its : List Value} {ns : List Int} (h : PyProof.Rows.IntsAre its ns) : ∀ {i : Nat} {v : Value}, its[i]? = some v → ∃ t, v = Value.int (ns.getD i 0) t := by
  induction h with
  | nil => intro i v e; cases i <;> cases e
  | cons x t h ih =>
    intro i v e
    cases i with
    | zero =>
      cases e
      exact ⟨_, rfl⟩
    | succ i =>
      obtain ⟨t2, e2⟩ := ih e
      exact ⟨t2, e2⟩
theorem snocG {α : Type} {P : List α → Prop} (h0 : P []) (hs : ∀ l x, P l → P (l ++ [x])) (l : List α) : P l := by
  have key : ∀ m : List α, P m.reverse := by
    intro m
    induction m with
    | nil => exact h0
    | cons x r ih =>
      rw [List.reverse_cons]
      exact hs _ _ ih
  have := key l.reverse
  rwa [List.reverse_reverse] at this
section
open PySem.Spec PyProof.Rows
def mxL (d : Int) (ns : List Int) : Int := (mxTo (fun i => ns.getD i 0) ns.length).getD d
def mnL (d : Int) (ns : List Int) : Int := (mnTo (fun i => ns.getD i 0) ns.length).getD d
/-- the whole numbers that a walk over it gives -/
def IntsAt (K : PySem.W.Frag) (H : Hp) (a : Addr) (ns : List Int) : Prop := SqL K H a (ns.map V.int) ∨ ∃ kvs : List (Key × V), H a = some (.dK kvs) ∧ kvs.map Prod.fst = ns.map Sum.inl
@[irreducible] def mMaxD (K : PySem.W.Frag) : List V → List V → Hp → VK → Prop := fun vs zs H Q => ∃ (a : Addr) (ns : List Int) (d : Int), vs = [.ref a] ∧ zs = [.int d] ∧ IntsAt K H a ns ∧ Q (.int (mxL d ns)) H
@[irreducible] def mMinD (K : PySem.W.Frag) : List V → List V → Hp → VK → Prop := fun vs zs H Q => ∃ (a : Addr) (ns : List Int) (d : Int), vs = [.ref a] ∧ zs = [.int d] ∧ IntsAt K H a ns ∧ Q (.int (mnL d ns)) H
section
variable {K : PySem.W.Frag} {H : Hp} {Q : VK} {a : Addr} {ns : List Int} {d : Int}
theorem rd_maxD (h : IntsAt K H a ns) (q : Q (.int (mxL d ns)) H) : mMaxD K [.ref a] [.int d] H Q := by
  unfold mMaxD
  exact ⟨a, ns, d, rfl, rfl, h, q⟩
theorem rd_minD (h : IntsAt K H a ns) (q : Q (.int (mnL d ns)) H) : mMinD K [.ref a] [.int d] H Q := by
  unfold mMinD
  exact ⟨a, ns, d, rfl, rfl, h, q⟩
end
/-- such a walk, laid -/
theorem ints_walk {X : Cx} {pins : List (Addr × Obj)} {σ : L2.St} {H : Hp} {s : Shared} {a : Addr} {ns : List Int} {R : Value → Shared → Prop} {Er : Value → Shared → Prop} (hc : X.calm = true) (I : Inv X pins σ H s) (h : IntsAt X.K H a ns)
    (k : ∀ (J : Addr) (fp wr : List Addr) (n : Nat) (P : Nat → Value → Prop) (St : Nat → Shared → Prop) (s2 : Shared), n = ns.length → WalksS X.prog X.w X.A.in1 J fp wr (fun x y => y = x) n P St → St 0 s2 → (∀ b ∈ fp, b < s2.heap.objs.size) → (∀ i v, P i v → ∃ t, v = Value.int (ns.getD i 0) t) →
      (∀ s', Moved wr (fun x y => y = x) s2 s' → Inv X pins σ H s') → R (.ref J) s2) : wpAny (model X.prog X.w) X.A.in1 (pyIter (.ref a)) R Er s := by
  have hh : X.A.in1.handled = none := I.ok.hd hc
  -- the walk's own new object is all that moves
  have old : ∀ (o : Obj) (s' : Shared), Moved [s.heap.objs.size] (fun x y => y = x) { s with heap := s.heap.push o } s' → Inv X pins σ H s' := fun o s' mv => by
    obtain ⟨hp, gs, dr, tk, os⟩ := s'
    obtain ⟨h1, h2, h3, h4, h5⟩ := mv
    dsimp only at h1 h2 h3 h4 h5
    subst h2 h3 h4
    exact I.kept (t' := tk) fun b ob e => h1 b ob (fun z => by
      have := Heap.lt_size e
      rw [List.mem_singleton.mp z] at this
      exact Nat.lt_irrefl _ this) (Heap.get?_push_of_some _ e)
  rcases h with h | ⟨kvs, h, hk⟩
  · obtain ⟨its, rv, hl, _⟩ := I.list h
    have hI := rv.ints
    have ha : a < s.heap.objs.size := by
      obtain ⟨_, _, e, _⟩ := hl
      exact Heap.lt_size e
    have hlen : its.length = ns.length := hI.length
    refine wpAny_pyIter_list hl.isList ?_
    have W := (Walks.list (prog := X.prog) (w := X.w) (A := X.A.in1) hh s.heap.objs.size a (Nat.ne_of_lt ha) its.toArray).toS
    have en : its.toArray.size = ns.length := by
      rw [List.size_toArray]
      exact hlen
    refine k s.heap.objs.size _ _ _ _ _ _ en W ⟨⟨_, Heap.get?_push_size _ rfl, rfl, rfl⟩, hl.isList.push _⟩ (fun b hb => ?_) (fun i v e => ?_) (old _)
    · show b < (s.heap.push _).objs.size
      rw [Heap.size_push]
      rcases List.mem_cons.mp hb with z | z
      · exact z ▸ Nat.lt_succ_self _
      · exact List.mem_singleton.mp z ▸ Nat.lt_succ_of_lt ha
    · rw [List.getElem?_toArray] at e
      have hi : i < its.length := (List.getElem?_eq_some_iff.mp e).1
      obtain ⟨t, e2⟩ := ints_nth hI e
      exact ⟨t, e2⟩
  · obtain ⟨hz, hd, vs, rel, dd⟩ := dk_of I.hok h
    obtain ⟨es, ep, hr, hsz, hen⟩ := Heap.DictOf.raw dd
    have hkeys : vs.map Prod.fst = ns.map Sum.inl := rel.keys.symm.trans hk
    have hl : vs.length = ns.length := by
      have e := congrArg List.length hkeys
      rw [List.length_map, List.length_map] at e
      exact e
    have ha : a < s.heap.objs.size := by
      obtain ⟨o, e, _⟩ := id hr
      exact Heap.lt_size e
    refine wpAny_pyIter_dict_raw hd hr ?_
    have W := (Walks.rawKeys (prog := X.prog) (w := X.w) (A := X.A.in1) hh s.heap.objs.size a (Nat.ne_of_lt ha) es ep).toS
    refine k s.heap.objs.size _ _ _ _ _ _ (hsz.trans hl) W ⟨?_, ?_⟩ (fun b hb => ?_) (fun i v e => ?_) (old _)
    · exact ⟨_, Heap.get?_push_size _ rfl, rfl, rfl⟩
    · exact hr.at fun o e => Heap.get?_push_of_some _ e
    · show b < (s.heap.push _).objs.size
      rw [Heap.size_push]
      rcases List.mem_cons.mp hb with z | z
      · exact z ▸ Nat.lt_succ_self _
      · exact List.mem_singleton.mp z ▸ Nat.lt_succ_of_lt ha
    · obtain ⟨hi, rfl⟩ := e
      have hi2 : i < vs.length := by omega
      have hi3 : i < ns.length := by omega
      have h1 : (mixKind X.prog X.w).is vs[i].1 es[i].key = true := (hen i hi _ _ (List.getElem?_eq_getElem hi2)).1
      have e3 : vs[i].1 = Sum.inl ns[i] := by
        have z : (vs.map Prod.fst)[i]? = (ns.map (Sum.inl (β := Str)))[i]? := by rw [hkeys]
        rw [List.getElem?_map, List.getElem?_map, List.getElem?_eq_getElem hi2, List.getElem?_eq_getElem hi3] at z
        exact Option.some.inj z
      rw [e3] at h1
      obtain ⟨t, e4⟩ := relV_key (k := .inl ns[i]) h1
      refine ⟨t, ?_⟩
      rw [e4, List.getD_eq_getElem?_getD, List.getElem?_eq_getElem hi3]
      rfl
section
variable {X : Cx}
theorem cr_maxDf (hc : X.calm = true) : CallRK X (.builtin "max") [Str.ofString "default"] (mMaxD X.K) := by
  intro pins s σ H vs zs us ws Q I r rz h
  unfold mMaxD at h
  obtain ⟨a, ns, d, rfl, rfl, hn, q⟩ := h
  obtain rfl := Vals.ref1 r
  obtain ⟨w1, rfl, t1, e1⟩ := vals1 rz
  subst e1
  refine mx_kw (dv := .int d t1) (ints_walk hc I hn fun J fp wr n P St s2 en W st hfp hv hI => ⟨J, fp, wr, _, n, P, St, fun i => ns.getD i 0, rfl, W, st, hfp, hv, fun v s' mv hv' => ?_⟩)
  refine ⟨.int (mxL d ns), H, hI _ mv, ?_, q⟩
  unfold mxL
  unfold endsIn at hv'
  rw [en] at hv'
  split at hv'
  · rename_i e
    rw [e]
    exact ⟨t1, hv'⟩
  · rename_i m e
    rw [e]
    exact hv'
theorem cr_minDf (hc : X.calm = true) : CallRK X (.builtin "min") [Str.ofString "default"] (mMinD X.K) := by
  intro pins s σ H vs zs us ws Q I r rz h
  unfold mMinD at h
  obtain ⟨a, ns, d, rfl, rfl, hn, q⟩ := h
  obtain rfl := Vals.ref1 r
  obtain ⟨w1, rfl, t1, e1⟩ := vals1 rz
  subst e1
  refine mn_kw (dv := .int d t1) (ints_walk hc I hn fun J fp wr n P St s2 en W st hfp hv hI => ⟨J, fp, wr, _, n, P, St, fun i => ns.getD i 0, rfl, W, st, hfp, hv, fun v s' mv hv' => ?_⟩)
  refine ⟨.int (mnL d ns), H, hI _ mv, ?_, q⟩
  unfold mnL
  unfold endsIn at hv'
  rw [en] at hv'
  split at hv'
  · rename_i e
    rw [e]
    exact ⟨t1, hv'⟩
  · rename_i m e
    rw [e]
    exact hv'
end
theorem mxTo_ok (val : Nat → Int) : ∀ n : Nat, 0 < n → ∃ m, mxTo val n = some m ∧ (∃ i, i < n ∧ m = val i) ∧ ∀ i, i < n → val i ≤ m := by
  intro n
  induction n with
  | zero => exact fun h => absurd h (Nat.lt_irrefl _)
  | succ n ih =>
    intro _
    by_cases hn : 0 < n
    · obtain ⟨m, e, ⟨i, hi, ei⟩, hm⟩ := ih hn
      refine ⟨if val n > m then val n else m, ?_, ?_, fun j hj => ?_⟩
      · show some (match mxTo val n with | none => val n | some m => if val n > m then val n else m) = _
        rw [e]
      · split
        · exact ⟨n, by omega, rfl⟩
        · exact ⟨i, by omega, ei⟩
      · by_cases hjn : j < n
        · have := hm j hjn
          split <;> omega
        · have : j = n := by omega
          subst this
          split <;> omega
    · have : n = 0 := by omega
      subst this
      refine ⟨val 0, rfl, ⟨0, by omega, rfl⟩, fun j hj => ?_⟩
      obtain rfl : j = 0 := by omega
      exact Int.le_refl _
theorem mnTo_ok (val : Nat → Int) : ∀ n : Nat, 0 < n → ∃ m, mnTo val n = some m ∧ (∃ i, i < n ∧ m = val i) ∧ ∀ i, i < n → m ≤ val i := by
  intro n
  induction n with
  | zero => exact fun h => absurd h (Nat.lt_irrefl _)
  | succ n ih =>
    intro _
    by_cases hn : 0 < n
    · obtain ⟨m, e, ⟨i, hi, ei⟩, hm⟩ := ih hn
      refine ⟨if val n < m then val n else m, ?_, ?_, fun j hj => ?_⟩
      · show some (match mnTo val n with | none => val n | some m => if val n < m then val n else m) = _
        rw [e]
      · split
        · exact ⟨n, by omega, rfl⟩
        · exact ⟨i, by omega, ei⟩
      · by_cases hjn : j < n
        · have := hm j hjn
          split <;> omega
        · have : j = n := by omega
          subst this
          split <;> omega
    · have : n = 0 := by omega
      subst this
      refine ⟨val 0, rfl, ⟨0, by omega, rfl⟩, fun j hj => ?_⟩
      obtain rfl : j = 0 := by omega
      exact Int.le_refl _
theorem mxL_nil {d : Int} : mxL d [] = d := rfl
theorem mnL_nil {d : Int} : mnL d [] = d := rfl
theorem mxL_ok {d : Int} {ns : List Int} (h : ns ≠ []) : mxL d ns ∈ ns ∧ ∀ y ∈ ns, y ≤ mxL d ns := by
  obtain ⟨m, e, ⟨i, hi, ei⟩, hm⟩ := mxTo_ok (fun i => ns.getD i 0) ns.length (List.length_pos_iff.mpr h)
  unfold mxL
  rw [e]
  refine ⟨?_, fun y hy => ?_⟩
  · show m ∈ ns
    rw [ei]
    show ns.getD i 0 ∈ ns
    rw [List.getD_eq_getElem?_getD, List.getElem?_eq_getElem hi]
    exact List.getElem_mem hi
  · obtain ⟨j, hj, ej⟩ := List.mem_iff_getElem.mp hy
    have := hm j hj
    rw [List.getD_eq_getElem?_getD, List.getElem?_eq_getElem hj, Option.getD_some, ej] at this
    exact this
theorem mnL_ok {d : Int} {ns : List Int} (h : ns ≠ []) : mnL d ns ∈ ns ∧ ∀ y ∈ ns, mnL d ns ≤ y := by
  obtain ⟨m, e, ⟨i, hi, ei⟩, hm⟩ := mnTo_ok (fun i => ns.getD i 0) ns.length (List.length_pos_iff.mpr h)
  unfold mnL
  rw [e]
  refine ⟨?_, fun y hy => ?_⟩
  · show m ∈ ns
    rw [ei]
    show ns.getD i 0 ∈ ns
    rw [List.getD_eq_getElem?_getD, List.getElem?_eq_getElem hi]
    exact List.getElem_mem hi
  · obtain ⟨j, hj, ej⟩ := List.mem_iff_getElem.mp hy
    have := hm j hj
    rw [List.getD_eq_getElem?_getD, List.getElem?_eq_getElem hj, Option.getD_some, ej] at this
    exact this
end
/-! ### lists of a dict's keys; sorted; get and setdefault -/
section
open PySem.Spec PyProof.Rows
variable {X : Cx} {K : PySem.W.Frag} {H : Hp} {Q : VK} {a : Addr} {kvs : List (Key × V)} {ns : List Int} {n : Int} {z v : V}
@[irreducible] def mListD : List V → Hp → VK → Prop := fun xs H Q => ∃ (a : Addr) (kvs : List (Key × V)) (ns : List Int), xs = [.ref a] ∧ H a = some (.dK kvs) ∧ kvs.map Prod.fst = ns.map Sum.inl ∧ NewO (.lst (ns.map V.int)) H Q
theorem rd_listD (h : H a = some (.dK kvs)) (hk : kvs.map Prod.fst = ns.map Sum.inl) (q : NewO (.lst (ns.map V.int)) H Q) : mListD [.ref a] H Q := by
  unfold mListD
  exact ⟨a, kvs, ns, rfl, h, hk, q⟩
theorem keys_vals : ∀ {kvs : List (Key × V)} {ns : List Int}, kvs.map Prod.fst = ns.map Sum.inl → (kvs.map fun kv => kV kv.1) = ns.map V.int
  | [], [], _ => rfl
  | [], _ :: _, h => nomatch h
  | _ :: _, [], h => nomatch h
  | x :: r, n :: ns, h => by
    injection h with h1 h2
    rw [List.map_cons, List.map_cons, keys_vals h2, h1]
    rfl
theorem call_listDM (hc : X.calm = true) : CallR X (.type "list") mListD := fun pins s σ H xs us Q I r q => call_listD hc pins s σ H xs us Q I r (by
  unfold mListD at q
  obtain ⟨a, kvs, ns, e, h, hk, q⟩ := q
  refine ⟨a, kvs, e, .inl h, ?_⟩
  rw [keys_vals hk]
  exact q.go)
@[irreducible] def mSortD : List V → Hp → VK → Prop := fun xs H Q => ∃ (a : Addr) (kvs : List (Key × V)) (ns : List Int), xs = [.ref a] ∧ H a = some (.dK kvs) ∧ kvs.map Prod.fst = ns.map Sum.inl ∧ ns.length < 64 ∧ ∀ ys : List Int, ys.Perm ns → ys.Pairwise (· ≤ ·) → NewO (.lst (ys.map V.int)) H Q
theorem rd_sortD (h : H a = some (.dK kvs)) (hk : kvs.map Prod.fst = ns.map Sum.inl) (hl : ns.length < 64) (q : ∀ ys : List Int, ys.Perm ns → ys.Pairwise (· ≤ ·) → NewO (.lst (ys.map V.int)) H Q) : mSortD [.ref a] H Q := by
  unfold mSortD
  exact ⟨a, kvs, ns, rfl, h, hk, hl, q⟩
theorem call_sortDM (hc : X.calm = true) : CallR X (.builtin "sorted") mSortD := fun pins s σ H xs us Q I r q => call_sortedDI hc pins s σ H xs us Q I r (by
  unfold mSortD at q
  obtain ⟨a, kvs, ns, e, h, hk, hl, q⟩ := q
  exact ⟨a, kvs, ns, e, .inl h, hk, hl, fun ys p hp ho => (q ys hp ho).go p⟩)
@[irreducible] def mSortL (K : PySem.W.Frag) : List V → Hp → VK → Prop := fun xs H Q => ∃ (a : Addr) (ns : List Int), xs = [.ref a] ∧ SqL K H a (ns.map V.int) ∧ ns.length < 64 ∧ ∀ ys : List Int, ys.Perm ns → ys.Pairwise (· ≤ ·) → NewO (.lst (ys.map V.int)) H Q
theorem rd_sortL (h : SqL K H a (ns.map V.int)) (hl : ns.length < 64) (q : ∀ ys : List Int, ys.Perm ns → ys.Pairwise (· ≤ ·) → NewO (.lst (ys.map V.int)) H Q) : mSortL K [.ref a] H Q := by
  unfold mSortL
  exact ⟨a, ns, rfl, h, hl, q⟩
theorem call_sortLM : CallR X (.builtin "sorted") (mSortL X.K) := fun pins s σ H xs us Q I r q => cr_sorted pins s σ H xs us Q I r (by
  unfold mSortL at q
  obtain ⟨a, ns, e, h, hl, q⟩ := q
  exact ⟨a, ns, e, h, hl, fun ys p hp ho => (q ys hp ho).go p⟩)
@[irreducible] def mDGet2 (x y z : V) (H : Hp) (Q : VK) : Prop := ∃ a kvs k, x = .ref a ∧ y = kV k ∧ H a = some (.dK kvs) ∧ Q ((valV kvs k).getD z) H
theorem rd_dget2 (h : H a = some (.dK kvs)) (q : Q ((valV kvs (.inl n)).getD z) H) : mDGet2 (.ref a) (.int n) z H Q := by
  unfold mDGet2
  exact ⟨a, kvs, .inl n, rfl, rfl, h, q⟩
def mDGet2E (td ty tz : TE) : TE := fun σ H Q => td σ H fun x H1 => ∃ a kvs, x = .ref a ∧ H1 a = some (.dK kvs) ∧ ty σ H1 fun y H2 => tz σ H2 fun z H3 => mDGet2 x y z H3 Q
@[irreducible] def mDSetd (x y z : V) (H : Hp) (Q : VK) : Prop := ∃ a kvs k, x = .ref a ∧ y = kV k ∧ H a = some (.dK kvs) ∧ kvs.length < 1000000 ∧ (∀ v, valV kvs k = some v → Q v H) ∧ (valV kvs k = none → Q z (upd H a (.dK (putK kvs k z))))
theorem rd_dsetd (h : H a = some (.dK kvs)) (hl : kvs.length < 1000000) (q1 : ∀ v, valV kvs (.inl n) = some v → Q v H) (q2 : valV kvs (.inl n) = none → Q z (upd H a (.dK (putK kvs (.inl n) z)))) : mDSetd (.ref a) (.int n) z H Q := by
  unfold mDSetd
  exact ⟨a, kvs, .inl n, rfl, rfl, h, hl, q1, q2⟩
def mDSetdE (td ty tz : TE) : TE := fun σ H Q => td σ H fun x H1 => ∃ a kvs, x = .ref a ∧ H1 a = some (.dK kvs) ∧ ty σ H1 fun y H2 => tz σ H2 fun z H3 => mDSetd x y z H3 Q
theorem pe_dget2M {o e f : Expr} {td ty tz : TE} {apos cpos : Pos} (hu : X.A.units + 1 < cLine) (ho : PE X o td) (he : PE X e ty) (hf : PE X f tz) (hbase : attributeBase o "get" X.env (eval o X.env) = eval o X.env := by rfl)
    (hfew : ((backTo cpos (starEach [e, f] X.env)).all (fun x => !x.1) && (backToKw cpos (keywordEach [] X.env)).all (fun x => x.1.isSome) && decide (([e, f] : List Expr).length + ([] : List Keyword).length + (if ([] : List Keyword).isEmpty then 0 else 1) < 30)) = true := by rfl)
    (hline : (apos.endLine == cpos.line) = true := by rfl) (htr : backTo cpos (starEach [e, f] X.env) = [(false, eval e X.env), (false, eval f X.env)] := by rfl) : PE X (.Call (.Attribute o "get" apos) [e, f] [] cpos) (mDGet2E td ty tz) :=
  pe_weak (pe_dget2 hu (pe_c ho) (pe_c he) (pe_c hf) ⟨hbase, hfew, hline, htr⟩) fun σ H Q q => ⟨_, q, fun x H1 r => by
    obtain ⟨a, kvs, rfl, h, r⟩ := r
    refine ⟨a, rfl, .inl ⟨kvs, .inl h⟩, _, r, fun y H2 r => ⟨_, r, fun z H3 r => ?_⟩⟩
    unfold mDGet2 at r
    obtain ⟨a2, kvs2, k, e1, e2, h2, r⟩ := r
    cases e1
    exact ⟨_, e2 ▸ DGet.k h2, r⟩⟩
theorem pe_dsetdM {o e f : Expr} {td ty tz : TE} {apos cpos : Pos} (ho : PE X o td) (he : PE X e ty) (hf : PE X f tz) (hbase : attributeBase o "setdefault" X.env (eval o X.env) = eval o X.env := by rfl)
    (hfew : ((backTo cpos (starEach [e, f] X.env)).all (fun x => !x.1) && (backToKw cpos (keywordEach [] X.env)).all (fun x => x.1.isSome) && decide (([e, f] : List Expr).length + ([] : List Keyword).length + (if ([] : List Keyword).isEmpty then 0 else 1) < 30)) = true := by rfl)
    (hline : (apos.endLine == cpos.line) = true := by rfl) (htr : backTo cpos (starEach [e, f] X.env) = [(false, eval e X.env), (false, eval f X.env)] := by rfl) : PE X (.Call (.Attribute o "setdefault" apos) [e, f] [] cpos) (mDSetdE td ty tz) :=
  pe_weak (pe_dsetd (pe_c ho) (pe_c he) (pe_c hf) ⟨hbase, hfew, hline, htr⟩) fun σ H Q q => ⟨_, q, fun x H1 r => by
    obtain ⟨a, kvs, rfl, h, r⟩ := r
    refine ⟨a, rfl, .inl ⟨kvs, .inl h⟩, _, r, fun y H2 r => ⟨_, r, fun z H3 r => ?_⟩⟩
    unfold mDSetd at r
    obtain ⟨a2, kvs2, k, e1, e2, h2, hl, q1, q2⟩ := r
    cases e1
    exact ⟨kvs2, k, h2, e2, szl hl, q1, q2⟩⟩
/-! ### in, not in: lists of data -/
@[irreducible] def mInD (K : PySem.W.Frag) : R2 := rInD K
@[irreducible] def mNotInD (K : PySem.W.Frag) : R2 := rNotInD K
theorem hu65 {A : Around} {k : Nat} (r : Room k A) : A.units + 65 < cLine := by
  have := r.un
  omega
theorem op_inDM (hu : X.A.units + 65 < cLine) : OpR X (compareOp .In) (mInD X.K) := fun pins s σ H x y v u Q I rx ry q => op_inD hu pins s σ H x y v u Q I rx ry (by
  unfold mInD at q
  exact q)
theorem op_notInDM (hu : X.A.units + 65 < cLine) : OpR X (compareOp .NotIn) (mNotInD X.K) := fun pins s σ H x y v u Q I rx ry q => op_notInD hu pins s σ H x y v u Q I rx ry (by
  unfold mNotInD at q
  exact q)
theorem op_inDK (h : X.K = K) (hu : X.A.units + 65 < cLine) : OpR X (compareOp .In) (mInD K) := h ▸ op_inDM hu
theorem op_notInDK (h : X.K = K) (hu : X.A.units + 65 < cLine) : OpR X (compareOp .NotIn) (mNotInD K) := h ▸ op_notInDM hu
theorem rd_inD {x y : V} {m k : Nat} (d : PyData) (ds : List PyData) (h1 : Dp K H x d) (h2 : Dp K H y (.list ds)) (s1 : Sh m d) (s2 : ShA k ds) (q : Q (.bl (ds.any fun z => PyData.eqv z d)) H) (hm : m ≤ 64 := by decide) (hk : k + 1 ≤ 64 := by decide) : mInD K x y H Q := by
  unfold mInD
  exact ⟨d, ds, h1, h2, s1.shaped hm, (sh_lst s2).shaped hk, q⟩
theorem rd_notInD {x y : V} {m k : Nat} (d : PyData) (ds : List PyData) (h1 : Dp K H x d) (h2 : Dp K H y (.list ds)) (s1 : Sh m d) (s2 : ShA k ds) (q : Q (.bl (!ds.any fun z => PyData.eqv z d)) H) (hm : m ≤ 64 := by decide) (hk : k + 1 ≤ 64 := by decide) : mNotInD K x y H Q := by
  unfold mNotInD
  exact ⟨d, ds, h1, h2, s1.shaped hm, (sh_lst s2).shaped hk, q⟩
theorem any_ints (n : Int) : ∀ ns : List Int, ((ns.map PyData.int).any fun z => PyData.eqv z (.int n)) = decide (n ∈ ns)
  | [] => by simp
  | m :: r => by
    rw [List.map_cons, List.any_cons, any_ints n r, PyData.eqv]
    by_cases h : m = n
    · subst h
      simp
    · have h2 : ¬ n = m := fun e => h e.symm
      simp [h, h2]
theorem rd_inI (h : SqL K H a (ns.map V.int)) (q : Q (.bl (decide (n ∈ ns))) H) : mInD K (.int n) (.ref a) H Q :=
  rd_inD (m := 0) (k := 0) (.int n) (ns.map PyData.int) (.int n) (dp_ints h) sh_int (sh_ints ns) (by rw [any_ints]; exact q)
theorem rd_notInI (h : SqL K H a (ns.map V.int)) (q : Q (.bl (!decide (n ∈ ns))) H) : mNotInD K (.int n) (.ref a) H Q :=
  rd_notInD (m := 0) (k := 0) (.int n) (ns.map PyData.int) (.int n) (dp_ints h) sh_int (sh_ints ns) (by rw [any_ints]; exact q)
end
/-! ### for i, x in enumerate(xs) -/
@[irreducible] def mForE (K : PySem.W.Frag) (ta : TA) (i1 i2 : Nat) (tb : TS) : TS := fun D σ H => ta σ H fun ws H1 => ∃ (a : Addr) (xs : List V) (Pv : Nat → L2.St → Hp → Prop), ws = [.ref a] ∧ SqL K H1 a xs ∧ Pv 0 σ H1 ∧ (∀ i σ' H', i ≤ xs.length → Pv i σ' H' → SqL K H' a xs) ∧
  (∀ i x σ' H' H'', xs[i]? = some x → Pv i σ' H' → Same H' H'' → tb { D with nx := Pv (i + 1), ct := Pv (i + 1), bk := D.nx } ((σ'.set i1 (some (.int (i : Nat)))).set i2 (some x)) H'') ∧ ∀ σ' H', Pv xs.length σ' H' → D.nx σ' H'
theorem rd_forE {K : PySem.W.Frag} {ta : TA} {i1 i2 : Nat} {tb : TS} {D : Ends} {σ : L2.St} {H : Hp} (h : ta σ H fun ws H1 => ∃ (a : Addr) (xs : List V) (Pv : Nat → L2.St → Hp → Prop), ws = [.ref a] ∧ SqL K H1 a xs ∧ Pv 0 σ H1 ∧ (∀ i σ' H', i ≤ xs.length → Pv i σ' H' → SqL K H' a xs) ∧
  (∀ i x σ' H' H'', xs[i]? = some x → Pv i σ' H' → Same H' H'' → tb { D with nx := Pv (i + 1), ct := Pv (i + 1), bk := D.nx } ((σ'.set i1 (some (.int (i : Nat)))).set i2 (some x)) H'') ∧ ∀ σ' H', Pv xs.length σ' H' → D.nx σ' H') : mForE K ta i1 i2 tb D σ H := by
  unfold mForE
  exact h
theorem ps_forE {X : Cx} {ta : TA} {pos : Pos} {e : Expr} {kk : Nat} {p p2 tpos : Pos} {i1 i2 : Nat} {body : List Stmt} {tb : TS} {t1 t2 : Expr} (hp : PassesOwn (model X.prog X.w) X.A X.env X.xe) (hc : X.calm = true) (hg : Gl X "enumerate") (hm : X.mg "enumerate" = none) (ha : PA X [e] ta)
    (hgt : PG X (.Tuple [t1, t2] kk tpos) (gTup X.K 2 (gCons (gName i1) (gCons (gName i2) gNil)))) (hb : PSs X body tb)
    (hs : starEach [e] X.env = [(false, eval e X.env)] := by rfl) (hs2 : ∀ y, foldedSetIterable (.Call (.Name "enumerate" p) [e] [] p2) X.env y = pure y := by intro _; rfl) :
    PS X (.For (.Tuple [t1, t2] kk tpos) (.Call (.Name "enumerate" p) [e] [] p2) body [] pos) (mForE X.K ta i1 i2 tb) :=
  ps_weak (ps_for hp hc (pi_enum hg hm (pa_c ha) hs) hgt hb hs2) fun D σ H q => by
    unfold mForE at q
    refine ⟨_, q, fun ws H1 r => ?_⟩
    obtain ⟨a, xs, Pv, rfl, hx, h0, hq, hs, hd⟩ := r
    refine ⟨a, xs, rfl, hx, ?_⟩
    refine for_it (walk_enum (K := X.K) (a := a) (xs := xs)) Pv h0 hq (fun i x σ' H' H'' hi p y => ?_) hd
    obtain ⟨T, u, v, rfl, hT, rfl, e1, e2⟩ := y
    cases e1
    exact ⟨T, [.int (i : Nat), v], rfl, st_of upd_same, rfl, .int (i : Nat), [v], rfl, v, [], rfl, rfl, hs i v σ' H' _ e2 p (same_upd hT)⟩
/-! ### [e for k in d if t], d a local's dict -/
section
variable {X : Cx} {K : PySem.W.Frag}
theorem im_keys {td : TE} : IMono (iKeys td) (iKeys (cTE td)) := fun σ H R R' h q => ⟨_, q, fun v H' r => by
  obtain ⟨d, o, e, r⟩ := r
  refine ⟨d, o, e, ?_⟩
  rcases r with ⟨kvs, h1, r⟩ | ⟨kvs, h1, r⟩
  · exact .inl ⟨kvs, h1, h _ _ r⟩
  · exact .inr ⟨kvs, h1, h _ _ r⟩⟩
@[irreducible] def mLcK (i j : Nat) (tt : TT) (te : TE) : TE := fun σ H Q => ∃ (d : Addr) (kvs : List (Key × V)) (ns : List Int) (keep : Int → Bool) (f : Int → V), σ[i]? = some (some (.ref d)) ∧ H d = some (.dK kvs) ∧ kvs.map Prod.fst = ns.map Sum.inl ∧ ns.length ≤ 100000 ∧
  (∀ n, n ∈ ns → ∀ H', (∀ b o, b ≠ d → H b = some o → H' b = some o) → tt ((wipe σ [j]).set j (some (.int n))) H' fun b H2 => Same H' H2 ∧ b = keep n ∧ (b = true → te ((wipe σ [j]).set j (some (.int n))) H2 fun v H3 => Same H2 H3 ∧ v = f n)) ∧ NewO (.lst ((ns.filter keep).map f)) H Q
theorem rd_lcK {i j : Nat} {tt : TT} {te : TE} {σ : L2.St} {H : Hp} {Q : VK} (d : Addr) (kvs : List (Key × V)) (ns : List Int) (keep : Int → Bool) (f : Int → V) (h1 : σ[i]? = some (some (.ref d))) (h2 : H d = some (.dK kvs)) (h3 : kvs.map Prod.fst = ns.map Sum.inl) (h4 : ns.length ≤ 100000)
    (h5 : ∀ n, n ∈ ns → ∀ H', (∀ b o, b ≠ d → H b = some o → H' b = some o) → tt ((wipe σ [j]).set j (some (.int n))) H' fun b H2 => Same H' H2 ∧ b = keep n ∧ (b = true → te ((wipe σ [j]).set j (some (.int n))) H2 fun v H3 => Same H2 H3 ∧ v = f n))
    (q : NewO (.lst ((ns.filter keep).map f)) H Q) : mLcK i j tt te σ H Q := by
  unfold mLcK
  exact ⟨d, kvs, ns, keep, f, h1, h2, h3, h4, h5, q⟩
theorem filter_idx {α β : Type} (keep : α → Bool) (f : α → β) (d : α) : ∀ l : List α, ((List.range l.length).filter fun i => keep (l.getD i d)).map (fun i => f (l.getD i d)) = (l.filter keep).map f := by
  refine snocG ?_ ?_
  · rfl
  · intro l x ih
    rw [List.length_append, List.length_singleton, List.range_succ, List.filter_append, List.map_append, List.filter_append, List.map_append, ← ih]
    have hx : (l ++ [x]).getD l.length d = x := by
      rw [List.getD_eq_getElem?_getD, List.getElem?_append_right (Nat.le_refl _), Nat.sub_self]
      rfl
    have hl : ∀ i, i ∈ List.range l.length → (l ++ [x]).getD i d = l.getD i d := fun i hi => by
      rw [List.getD_eq_getElem?_getD, List.getD_eq_getElem?_getD, List.getElem?_append_left (List.mem_range.mp hi)]
    congr 1
    · have e1 : (List.range l.length).filter (fun i => keep ((l ++ [x]).getD i d)) = (List.range l.length).filter (fun i => keep (l.getD i d)) := List.filter_congr fun i hi => by rw [hl i hi]
      rw [e1]
      exact List.map_congr_left fun i hi => by rw [hl i (List.mem_filter.mp hi).1]
    · rw [List.filter_cons, List.filter_cons, hx]
      cases keep x with
      | true => simp only [if_true, List.filter_nil, List.map_cons, List.map_nil, hx]
      | false => rfl
theorem pe_lcK {elt it : Expr} {scope : Scope} {i j : Nat} {x : Str} {xpos pos : Pos} {ifs : List Expr} {tt : TT} {te : TE} (hc : X.calm = true) (hN : X.N.Nodup) (ha : PE X it (fun σ H Q => ∃ v, σ[i]? = some (some v) ∧ Q v H)) (ok : BlkOk X.N X.env.scope scope [(x, j)])
    (hgt : ∀ (s : Shared) (H : Hp) (C : Addr) (cl : List (Str × Addr)) (fp : List Addr), PG (X.blk s H scope (compEnvC scope cl C X.env) fp) (.Name x xpos) (gName j))
    (ht : ∀ (s : Shared) (H : Hp) (C : Addr) (cl : List (Str × Addr)) (fp : List Addr), PTs (X.blk s H scope (compEnvC scope cl C X.env) fp) ifs tt)
    (he : ∀ (s : Shared) (H : Hp) (C : Addr) (cl : List (Str × Addr)) (fp : List Addr), PE (X.blk s H scope (compEnvC scope cl C X.env) fp) elt te) (hs2 : ∀ y, foldedSetIterable it X.env y = pure y := by intro _; rfl) :
    PE X (.ListComp elt [⟨.Name x xpos, it, ifs, 0⟩] scope pos) (mLcK i j tt te) :=
  pe_weak (pe_lock (pe_lcP (wi' := iKeys fun σ H Q => ∃ v, σ[i]? = some (some v) ∧ Q v H) [j] im_keys hc hN (pi_keys (pe_c ha)) ok hgt (fun s H C cl fp => pts_c (ht s H C cl fp)) (fun s H C cl fp => pe_c (he s H C cl fp)) rfl hs2)) fun σ H Q q => by
    unfold mLcK at q
    obtain ⟨d, kvs, ns, keep, f, h1, h2, h3, h4, h5, q⟩ := q
    have hkl : kvs.length = ns.length := by
      have e := congrArg List.length h3
      rw [List.length_map, List.length_map] at e
      exact e
    refine ⟨d, .dK kvs, h2, trivial, fun od => ?_⟩
    unfold mLcP
    refine ⟨.ref d, h1, d, od, rfl, .inl ⟨kvs, upd_same, ?_⟩⟩
    have nd : ∀ {p : Addr}, (upd H d (.frz od (.dK kvs))) p = none → p ≠ d := fun z e => by
      rw [e, upd_same] at z
      cases z
    refine ⟨kvs.length, _, _, fun k => keep (ns.getD k 0), fun k => f (ns.getD k 0), walk_keys (d := d) (o := od) (kvs := kvs), by omega, fun H' s => s _ _ upd_same, fun D hD k y H' H'' hk p w => ?_, fun p H' np s e => ?_⟩
    · obtain ⟨rfl, ky, vy, hkv, rfl⟩ := w
      have hk2 : k < ns.length := by omega
      have ek : ky = Sum.inl (ns.getD k 0) := by
        have z : (kvs.map Prod.fst)[k]? = (ns.map (Sum.inl (β := Str)))[k]? := by rw [h3]
        rw [List.getElem?_map, List.getElem?_map, hkv, List.getElem?_eq_getElem hk2] at z
        rw [List.getD_eq_getElem?_getD, List.getElem?_eq_getElem hk2]
        exact Option.some.inj z
      subst ek
      have hin : ns.getD k 0 ∈ ns := by
        rw [List.getD_eq_getElem?_getD, List.getElem?_eq_getElem hk2]
        exact List.getElem_mem hk2
      have base : ∀ b o, b ≠ d → H b = some o → H'' b = some o := fun b o hb e => p.sm _ _ (by rw [upd_ne hb]; exact e)
      have hh := h5 _ hin H'' base
      refine ⟨wipe_set rfl, _, hh, fun b H2 r => ?_⟩
      obtain ⟨s1, rfl, r⟩ := r
      cases hb : keep (ns.getD k 0) with
      | true =>
        refine br_T ⟨_, r hb, fun v H3 r2 => ?_⟩
        obtain ⟨s2, rfl⟩ := r2
        exact p.put hD (by omega) (s1.trans s2) hb rfl
      | false => exact br_F (p.skip s1 hb)
    · have hpd : p ≠ d := nd np
      rw [hkl, filter_idx keep f 0 ns] at e
      refine ⟨s _ _ upd_same, q p (upd H' d (.dK kvs)) (by rw [upd_ne hpd] at np; exact np) (fun b o hb => ?_) (by rw [upd_ne hpd]; exact e)⟩
      by_cases hbd : b = d
      · subst hbd
        rw [upd_same]
        rw [h2] at hb
        exact hb
      · rw [upd_ne hbd]
        exact s _ _ (by rw [upd_ne hbd]; exact hb)
end
/-! ### new tuples, told to be new -/
def EltF (te : TE) (σ : L2.St) (H : Hp) (xs : List V) : Prop := ∀ H', Same H H' → te σ H' fun v H'' => Same H' H'' ∧ ∃ p, v = .ref p ∧ H' p = none ∧ H'' p = some (.tup xs)
def NewTF (n : Nat) (f : Nat → List V) (H : Hp) (Q : VK) : Prop := ∀ (D : Addr) (H' : Hp) (ps : List Addr), H D = none → Same H H' → H' D = some (.lst (ps.map V.ref)) → ps.length = n → (∀ i p, ps[i]? = some p → H p = none ∧ H' p = some (.tup (f i))) → Q (.ref D) H'
def TsF (H1 : Hp) (D : Addr) (f : Nat → List V) (i : Nat) (H' : Hp) : Prop := Same H1 H' ∧ ∃ ps : List Addr, H' D = some (.lst (ps.map V.ref)) ∧ ps.length = i ∧ ∀ k p, ps[k]? = some p → H1 p = none ∧ H' p = some (.tup (f k))
theorem TsF.next {H1 H' H'' : Hp} {D p : Addr} {f : Nat → List V} {i : Nat} (hD : H1 D = none) (w : TsF H1 D f i H') (s : Same H' H'') (hn : H' p = none) (hp : H'' p = some (.tup (f i))) : ∃ acc, H'' D = some (.lst acc) ∧ acc.length = i ∧ TsF H1 D f (i + 1) (upd H'' D (.lst (acc ++ [.ref p]))) := by
  obtain ⟨sm, ps, hd, hl, ht⟩ := w
  have hd2 := s _ _ hd
  have ne : ∀ {q : Addr} {xs : List V}, H'' q = some (.tup xs) → q ≠ D := fun {q xs} h e => by
    rw [e, hd2] at h
    cases h
  refine ⟨_, hd2, by rw [List.length_map, hl], same_mut (sm.trans s) hD, ps ++ [p], ?_, by rw [List.length_append, List.length_singleton, hl], fun k q hk => ?_⟩
  · rw [upd_same, List.map_append]
    rfl
  · by_cases h : k < ps.length
    · rw [List.getElem?_append_left h] at hk
      have h2 := ht k q hk
      have h3 := s _ _ h2.2
      refine ⟨h2.1, ?_⟩
      rw [upd_ne (ne h3)]
      exact h3
    · rw [List.getElem?_append_right (by omega)] at hk
      have h0 : k - ps.length = 0 := by
        cases e : k - ps.length with
        | zero => rfl
        | succ m => rw [e] at hk; simp at hk
      rw [h0] at hk
      have e : p = q := Option.some.inj hk
      have ek : k = i := by omega
      subst e
      rw [ek, upd_ne (ne hp)]
      exact ⟨same_none sm hn, hp⟩
/-! ### [(..) for x in range(a, b)] -/
@[irreducible] def mLcTR2 (ta : TA) (j : Nat) (te : TE) (vs : List Nat) : TE := fun σ H Q => ta σ H fun ws H1 => ∃ (lo hi : Int) (f : Nat → List V), ws = [.int lo, .int hi] ∧ (-100000 ≤ lo ∧ lo ≤ 100000 ∧ -100000 ≤ hi ∧ hi ≤ 100000) ∧ (∀ i, i < (hi - lo).toNat → EltF te ((wipe σ vs).set j (some (.int (lo + (i : Int))))) H1 (f i)) ∧ NewTF (hi - lo).toNat f H1 Q
theorem rd_lcTR2 {ta : TA} {j : Nat} {te : TE} {vs : List Nat} {σ : L2.St} {H : Hp} {Q : VK} (h : ta σ H fun ws H1 => ∃ (lo hi : Int) (f : Nat → List V), ws = [.int lo, .int hi] ∧ (-100000 ≤ lo ∧ lo ≤ 100000 ∧ -100000 ≤ hi ∧ hi ≤ 100000) ∧ (∀ i, i < (hi - lo).toNat → EltF te ((wipe σ vs).set j (some (.int (lo + (i : Int))))) H1 (f i)) ∧ NewTF (hi - lo).toNat f H1 Q) : mLcTR2 ta j te vs σ H Q := by
  unfold mLcTR2
  exact h
theorem lcTR2_of {ta : TA} {j : Nat} {te : TE} {vs : List Nat} {σ : L2.St} {H : Hp} {Q : VK} (hj : vs = [j]) (q : mLcTR2 ta j te vs σ H Q) : tLc (iRng2 (cTA ta)) (gName j) tYes (cTE te) vs σ H Q := by
  unfold mLcTR2 at q
  refine ⟨_, q, fun ws H1 r => ?_⟩
  obtain ⟨lo, hi, f, rfl, ⟨h1, h2, h3, h4⟩, he, hq⟩ := r
  have big : (2 : Int) ^ 62 = 4611686018427387904 := by decide
  refine ⟨lo, hi, rfl, ⟨by omega, by omega, by omega, by omega⟩, fun D hD => ?_⟩
  refine lc_range (lo := lo) (n := (hi - lo).toNat) (fun i H' => TsF H1 D f i H') ⟨same_upd hD, [], upd_same, rfl, fun k p h => by cases h⟩ (fun i H' hi w => ⟨wipe_set hj, _, he i hi H' w.1, fun v H'' r => ?_⟩) fun H' w => ?_
  · obtain ⟨s, p, rfl, hn, hp⟩ := r
    obtain ⟨acc, k1, k2, k3⟩ := w.next hD s hn hp
    exact ⟨acc, k1, szl (by omega), k3⟩
  · obtain ⟨sm, ps, hd, hl, ht⟩ := w
    exact hq D H' ps hD sm hd hl ht
section
variable {X : Cx} {te : TE} {ta : TA} {pos : Pos}
theorem pe_lcTR2 {elt : Expr} {scope : Scope} {j : Nat} {x : Str} {a b : Expr} {p p2 xpos : Pos} (hc : X.calm = true) (hN : X.N.Nodup) (hg : Gl X "range") (hm : X.mg "range" = none) (ha : PA X [a, b] ta) (ok : BlkOk X.N X.env.scope scope [(x, j)])
    (hgt : ∀ (s : Shared) (H : Hp) (C : Addr) (cl : List (Str × Addr)) (fp : List Addr), PG (X.blk s H scope (compEnvC scope cl C X.env) fp) (.Name x xpos) (gName j))
    (he : ∀ (s : Shared) (H : Hp) (C : Addr) (cl : List (Str × Addr)) (fp : List Addr), PE (X.blk s H scope (compEnvC scope cl C X.env) fp) elt te)
    (hs : starEach [a, b] X.env = [(false, eval a X.env), (false, eval b X.env)] := by rfl) (hs3 : starEach [b] X.env = [(false, eval b X.env)] := by rfl) (hs2 : ∀ y, foldedSetIterable (.Call (.Name "range" p) [a, b] [] p2) X.env y = pure y := by intro _; rfl) :
    PE X (.ListComp elt [⟨.Name x xpos, .Call (.Name "range" p) [a, b] [] p2, [], 0⟩] scope pos) (mLcTR2 ta j te [j]) :=
  pe_weak (pe_lc hc hN (pi_range2 hg hm (pa_c ha) hs hs3) ok hgt (fun _ _ _ _ _ => pts_nil) (fun s H C cl fp => pe_c (he s H C cl fp)) hs2) fun _ _ _ q => lcTR2_of rfl q
end
/-- new objects join what stays -/
theorem Own.adopt {S B0 B H H' : Hp} {as : List Addr} {l : List (Addr × HO)} (w : Own S B0 as B l H) (s : Same H H') (ps : List Addr) (hp : ∀ p ∈ ps, H p = none ∧ H' p ≠ none) : ∃ B', Same B B' ∧ (∀ p ∈ ps, B' p = H' p) ∧ Own S B0 as B' l H' := by
  have hB : ∀ p ∈ ps, B p = none := fun p h => w.frB (hp p h).1
  have sb : Same B (fun b => if b ∈ ps then H' b else B b) := fun b o h => by
    show (if b ∈ ps then H' b else B b) = some o
    rw [if_neg (fun z => by rw [hB b z] at h; cases h)]
    exact h
  refine ⟨fun b => if b ∈ ps then H' b else B b, sb, fun p h => if_pos h, ⟨fun a u h => s _ _ (w.c.cell a u h), w.c.nd, fun b u h => ?_, fun a u h => ?_⟩, fun b u hb h => s _ _ (w.kept b u hb h), w.own, w.grow.trans sb, fun b h k => ?_, fun a h e => w.there a h (same_none s e)⟩
  · have h2 : (if b ∈ ps then H' b else B b) = some u := h
    split at h2
    · exact h2
    · exact s _ _ (w.c.imm _ _ h2)
  · show (if a ∈ ps then H' a else B a) = none
    rw [if_neg (fun z => w.notin (hp a z).1 h)]
    exact w.c.dis a u h
  · by_cases hb : b ∈ ps
    · exact (w.frS (hp b hb).1).1
    · have k2 : (if b ∈ ps then H' b else B b) ≠ none := k
      rw [if_neg hb] at k2
      exact w.new b h k2
theorem br_or {c d : Bool} {Q : VK} {H : Hp} {B : Prop} (hB : Q (.bl d) H → B) (q : Q (.bl (c || d)) H) : Br c (Q (.bl true) H) B := by
  cases c with
  | true => exact br_T q
  | false => exact br_F (hB q)
theorem rd_dget2P {a : Addr} {kvs : List (Key × V)} {n : Int} {z : V} {H : Hp} {Q : VK} (P : V → Hp → Prop) (h : H a = some (.dK kvs)) (p : P ((valV kvs (.inl n)).getD z) H) (k : ∀ v H', P v H' → Q v H') : mDGet2 (.ref a) (.int n) z H Q := rd_dget2 h (k _ _ p)
theorem Own.perm {S B0 B H : Hp} {as : List Addr} {l l' : List (Addr × HO)} (w : Own S B0 as B l H) (h : l'.Perm l) : Own S B0 as B l' H := w.sub (fun _ hc => h.mem_iff.mp hc) ((h.map _).nodup_iff.mpr w.c.nd)
/-! ### [(..) for target in xs]: new tuples -/
@[irreducible] def mLcTG (K : PySem.W.Frag) (tl : TE) (g : TG) (te : TE) (vs : List Nat) : TE := fun σ H Q => tl σ H fun x H1 => ∃ (a : Addr) (xs : List V) (f : Nat → List V), x = .ref a ∧ SqL K H1 a xs ∧ xs.length ≤ 1000 ∧
  (∀ i y, xs[i]? = some y → ∀ H', Same H1 H' → g y (wipe σ vs) H' fun σ2 H2 => wipe σ2 vs = wipe σ vs ∧ te σ2 H2 fun v H3 => Same H' H3 ∧ ∃ p, v = .ref p ∧ H3 p = some (.tup (f i))) ∧ NewTs xs.length f H1 Q
theorem rd_lcTG {K : PySem.W.Frag} {tl : TE} {g : TG} {te : TE} {vs : List Nat} {σ : L2.St} {H : Hp} {Q : VK} (h : tl σ H fun x H1 => ∃ (a : Addr) (xs : List V) (f : Nat → List V), x = .ref a ∧ SqL K H1 a xs ∧ xs.length ≤ 1000 ∧
  (∀ i y, xs[i]? = some y → ∀ H', Same H1 H' → g y (wipe σ vs) H' fun σ2 H2 => wipe σ2 vs = wipe σ vs ∧ te σ2 H2 fun v H3 => Same H' H3 ∧ ∃ p, v = .ref p ∧ H3 p = some (.tup (f i))) ∧ NewTs xs.length f H1 Q) : mLcTG K tl g te vs σ H Q := by
  unfold mLcTG
  exact h
theorem lcTG_of {K : PySem.W.Frag} {tl : TE} {g : TG} {te : TE} {vs : List Nat} {σ : L2.St} {H : Hp} {Q : VK} (q : mLcTG K tl g te vs σ H Q) : tLc (iList K (cTE tl)) (cTG g) tYes (cTE te) vs σ H Q := by
  unfold mLcTG at q
  refine ⟨_, q, fun x H1 r => ?_⟩
  obtain ⟨a, xs, f, rfl, hx, hn, he, hq⟩ := r
  refine ⟨a, rfl, ⟨xs, hx⟩, fun D hD => ?_⟩
  refine lc_list (xs := xs) (fun i H' => TsW H1 D f i H') ⟨same_upd hD, [], upd_same, rfl, fun k p h => by cases h⟩ (fun i H' _ w => w.1.seq hx) (fun i y H' hi w => ⟨_, he i y hi H' w.1, fun σ2 H2 r => ⟨r.1, _, r.2, fun v H3 r2 => ?_⟩⟩) fun H' w => ?_
  · obtain ⟨s, p, rfl, hp⟩ := r2
    obtain ⟨acc, h1, h2, h3⟩ := w.next hD s hp
    have hl : i < xs.length := (List.getElem?_eq_some_iff.mp hi).1
    exact ⟨acc, h1, szl (by omega), h3⟩
  · obtain ⟨sm, ps, hd, hl, ht⟩ := w
    exact hq D H' ps hD sm hd hl ht
theorem pe_lcTG {X : Cx} {tg elt it : Expr} {scope : Scope} {own : List (Str × Nat)} {g : TG} {te tl : TE} {pos : Pos} (vs : List Nat) (hc : X.calm = true) (hN : X.N.Nodup) (ha : PE X it tl) (ok : BlkOk X.N X.env.scope scope own)
    (hgt : ∀ (s : Shared) (H : Hp) (C : Addr) (cl : List (Str × Addr)) (fp : List Addr), PG (X.blk s H scope (compEnvC scope cl C X.env) fp) tg g)
    (he : ∀ (s : Shared) (H : Hp) (C : Addr) (cl : List (Str × Addr)) (fp : List Addr), PE (X.blk s H scope (compEnvC scope cl C X.env) fp) elt te) (hvs : own.map (·.2) = vs := by rfl) (hs2 : ∀ y, foldedSetIterable it X.env y = pure y := by intro _; rfl) :
    PE X (.ListComp elt [⟨tg, it, [], 0⟩] scope pos) (mLcTG X.K tl g te vs) :=
  pe_weak (pe_lc hc hN (pi_list (pe_c ha)) ok (fun s H C cl fp => pg_c (hgt s H C cl fp)) (fun _ _ _ _ _ => pts_nil) (fun s H C cl fp => pe_c (he s H C cl fp)) hs2) fun _ _ _ q => by
    rw [hvs]
    exact lcTG_of q
/-! ### x or y as a value, y a name -/
@[irreducible] def OrB (x : V) (σ : L2.St) (j : Nat) (H : Hp) (Q : VK) : Prop := ∃ c d, x = .bl c ∧ σ[j]? = some (some (.bl d)) ∧ Q (.bl (c || d)) H
def mOrB (ta : TE) (j : Nat) : TE := fun σ H Q => ta σ H fun x H1 => OrB x σ j H1 Q
theorem pe_orB {X : Cx} {a b : Expr} {ta : TE} {j : Nat} {pos : Pos} (ha : PE X a ta) (hb : PE X b (fun σ H Q => ∃ v, σ[j]? = some (some v) ∧ Q v H)) : PE X (.BoolOp .Or [a, b] pos) (mOrB ta j) :=
  pe_weak (pe_orM (pe_c ha) (pe_one hb)) fun σ H Q q => ⟨_, q, fun x H1 r => by
    unfold OrB at r
    obtain ⟨c, d, e, hd, r⟩ := r
    cases c with
    | true => exact ⟨true, e, br_T r⟩
    | false => exact ⟨false, e, br_F ⟨.bl d, hd, r⟩⟩⟩
theorem rd_orB {c d : Bool} {σ : L2.St} {j : Nat} {H : Hp} {Q : VK} (hd : σ[j]? = some (some (.bl d))) (q : Q (.bl (c || d)) H) : OrB (.bl c) σ j H Q := by
  unfold OrB
  exact ⟨c, d, rfl, hd, q⟩
/-- a and b as a test, told as one truth value -/
@[irreducible] def AndP (c : Bool) (u : TT) (σ : L2.St) (H : Hp) (Q : Bool → Hp → Prop) : Prop := ∃ d : Bool, (c = true → u σ H fun d' H2 => d' = d ∧ H2 = H) ∧ Q (c && d) H
def mAndP (t u : TT) : TT := fun σ H Q => t σ H fun c H1 => AndP c u σ H1 Q
theorem pw_andP {X : Cx} {a b : Expr} {tA tB : TT} {pos : Pos} (ha : PT X a tA) (hb : PT X b tB) : PW X (.BoolOp .And [a, b] pos) (mAndP tA tB) :=
  pw_weak (pw_andM (pt_c ha) (pw_and1 (pt_c hb))) fun σ H Q q => ⟨_, q, fun c H1 r => by
    unfold AndP at r
    obtain ⟨d, h1, h2⟩ := r
    cases c with
    | true => exact br_T ⟨_, h1 rfl, fun d' H2 z => by
        obtain ⟨rfl, rfl⟩ := z
        exact h2⟩
    | false => exact br_F h2⟩
theorem rd_andP {c : Bool} {u : TT} {σ : L2.St} {H : Hp} {Q : Bool → Hp → Prop} (d : Bool) (h : c = true → u σ H fun d' H2 => d' = d ∧ H2 = H) (q : Q (c && d) H) : AndP c u σ H Q := by
  unfold AndP
  exact ⟨d, h, q⟩
end My
namespace My
open PySem L2
/-! ### a comprehension told by what holds between its turns -/
theorem im_rng3 {ta : TA} : IMono (iRng3 ta) (iRng3 (cTA ta)) := fun σ H R R' h q => ⟨_, q, fun v H' r => by
  obtain ⟨i, j, c, n, e, h1, r⟩ := r
  exact ⟨i, j, c, n, e, h1, h _ _ r⟩⟩
/-- acc: what the new list holds so far; the turn may change the heap, the new list aside -/
def LcWT (D : Addr) (acc : List V) (P : List V → Hp → Prop) (y : V) (H4 : Hp) : Prop := H4 D = some (.lst acc) ∧ P (acc ++ [y]) (upd H4 D (.lst (acc ++ [y])))
def LcWS (D : Addr) (acc : List V) (P : List V → Hp → Prop) (H4 : Hp) : Prop := H4 D = some (.lst acc) ∧ P acc H4
@[irreducible] def LcWP (J : It) (g : TG) (tt : TT) (te : TE) (vs : List Nat) (σ : L2.St) (Q : VK) (H1 : Hp) : Prop := ∃ (n : Nat) (G : Hp → Prop) (Y : Nat → Hp → V → Hp → Prop), Walk J n G Y ∧ n ≤ 100000 ∧ ∀ D, H1 D = none → ∃ Pv : Nat → List V → Hp → Prop, Pv 0 [] (upd H1 D (.lst [])) ∧
  (∀ i acc H', i ≤ n → acc.length ≤ i → H' D = some (.lst acc) → Pv i acc H' → G H') ∧
  (∀ i acc x H' H'', i < n → acc.length ≤ i → H' D = some (.lst acc) → Pv i acc H' → Y i H' x H'' → g x (wipe σ vs) H'' fun σ2 H2 => wipe σ2 vs = wipe σ vs ∧ tt σ2 H2 fun b H3 => Br b (te σ2 H3 fun y H4 => LcWT D acc (Pv (i + 1)) y H4) (LcWS D acc (Pv (i + 1)) H3)) ∧
  ∀ acc H', acc.length ≤ n → H' D = some (.lst acc) → Pv n acc H' → Q (.ref D) H'
@[irreducible] def mLcW (wi : TI) (g : TG) (tt : TT) (te : TE) (vs : List Nat) : TE := fun σ H Q => wi σ H fun J H1 => LcWP J g tt te vs σ Q H1
theorem lcW_of {g : TG} {tt : TT} {te : TE} {wi wi' : TI} {vs : List Nat} {σ : L2.St} {H : Hp} {Q : VK} (hw : IMono wi' wi) (q : mLcW wi' g tt te vs σ H Q) : tLc wi (cTG g) (cTT tt) (cTE te) vs σ H Q := by
  unfold mLcW at q
  refine hw _ _ _ _ (fun J H1 r => ?_) q
  unfold LcWP at r
  obtain ⟨n, G, Y, w, hn, r⟩ := r
  intro D hD
  obtain ⟨Pv, h0, hG, ht, hq⟩ := r D hD
  refine lc_it w (fun i H' => ∃ acc : List V, acc.length ≤ i ∧ H' D = some (.lst acc) ∧ Pv i acc H') ⟨[], Nat.le_refl _, upd_same, h0⟩ (fun i H' hi p => ?_) (fun i x H' H'' hi p y => ?_) fun H' p => ?_
  · obtain ⟨acc, h1, h2, h3⟩ := p
    exact hG i acc H' hi h1 h2 h3
  · obtain ⟨acc, h1, h2, h3⟩ := p
    refine ⟨_, ht i acc x H' H'' hi h1 h2 h3 y, fun σ2 H2 r => ⟨r.1, _, r.2, fun b H3 r => ?_⟩⟩
    cases b with
    | true =>
      refine iteT ⟨_, (r.un : if true = true then _ else _), fun y2 H4 z => ⟨acc, z.1, szl (by omega), acc ++ [y2], ?_, upd_same, z.2⟩⟩
      rw [List.length_append, List.length_singleton]
      omega
    | false => exact iteF (by
        have z : LcWS D acc (Pv (i + 1)) H3 := (r.un : if false = true then _ else _)
        exact ⟨acc, by omega, z.1, z.2⟩)
  · obtain ⟨acc, h1, h2, h3⟩ := p
    exact hq acc H' h1 h2 h3
section
variable {X : Cx} {e tg : Expr} {ifs : List Expr} {g : TG} {tt : TT} {te : TE}
theorem pe_lcW {iter elt : Expr} {scope : Scope} {own : List (Str × Nat)} {pos : Pos} {wi wi' : TI} (vs : List Nat) (hw : IMono wi' wi) (hc : X.calm = true) (hN : X.N.Nodup) (hi : PI X tg iter wi) (ok : BlkOk X.N X.env.scope scope own)
    (hg : ∀ (s : Shared) (H : Hp) (C : Addr) (cl : List (Str × Addr)) (fp : List Addr), PG (X.blk s H scope (compEnvC scope cl C X.env) fp) tg g) (ht : ∀ (s : Shared) (H : Hp) (C : Addr) (cl : List (Str × Addr)) (fp : List Addr), PTs (X.blk s H scope (compEnvC scope cl C X.env) fp) ifs tt)
    (he : ∀ (s : Shared) (H : Hp) (C : Addr) (cl : List (Str × Addr)) (fp : List Addr), PE (X.blk s H scope (compEnvC scope cl C X.env) fp) elt te) (hvs : own.map (·.2) = vs := by rfl) (hs : ∀ x, foldedSetIterable iter X.env x = pure x := by intro _; rfl) :
    PE X (.ListComp elt [⟨tg, iter, ifs, 0⟩] scope pos) (mLcW wi' g tt te vs) :=
  pe_weak (pe_lc hc hN hi ok (fun s H C cl fp => pg_c (hg s H C cl fp)) (fun s H C cl fp => pts_c (ht s H C cl fp)) (fun s H C cl fp => pe_c (he s H C cl fp)) hs) fun _ _ _ q => by
    rw [hvs]
    exact lcW_of hw q
theorem ps_setLcW {i : Nat} {y : Str} {py : Pos} {iter elt : Expr} {scope : Scope} {own : List (Str × Nat)} {pos spos : Pos} {wi wi' : TI} (vs : List Nat) (hw : IMono wi' wi) (hc : X.calm = true) (hN : X.N.Nodup) (hy : X.N[i]? = some y) (hyl : X.env.scope.names.lookup y = some .local)
    (hsw : swapsWith (.ListComp elt [⟨tg, iter, ifs, 0⟩] scope pos) (some (.Name y py)) spos.line X.env = pure true) (hi : PI X tg iter wi) (ok : BlkOk X.N X.env.scope scope own)
    (hg : ∀ (s : Shared) (H : Hp) (C : Addr) (cl : List (Str × Addr)) (fp : List Addr), PG (X.blk s H scope (compEnvC scope cl C X.env) fp) tg g) (ht : ∀ (s : Shared) (H : Hp) (C : Addr) (cl : List (Str × Addr)) (fp : List Addr), PTs (X.blk s H scope (compEnvC scope cl C X.env) fp) ifs tt)
    (he : ∀ (s : Shared) (H : Hp) (C : Addr) (cl : List (Str × Addr)) (fp : List Addr), PE (X.blk s H scope (compEnvC scope cl C X.env) fp) elt te) (hvs : own.map (·.2) = vs := by rfl) (hs : ∀ x, foldedSetIterable iter X.env x = pure x := by intro _; rfl) :
    PS X (.Assign [.Name y py] (.ListComp elt [⟨tg, iter, ifs, 0⟩] scope pos) spos) (tAsg (mLcW wi' g tt te vs) (gName i)) :=
  ps_weak (ps_setLc hc hN hy hyl hsw hi ok (fun s H C cl fp => pg_c (hg s H C cl fp)) (fun s H C cl fp => pts_c (ht s H C cl fp)) (fun s H C cl fp => pe_c (he s H C cl fp)) hs) fun _ _ _ q => by
    rw [hvs]
    exact lcW_of hw q
end
/-! ### its walks: a list, a range -/
theorem rd_lcW {wi : TI} {g : TG} {tt : TT} {te : TE} {vs : List Nat} {σ : L2.St} {H : Hp} {Q : VK} (h : wi σ H fun J H1 => LcWP J g tt te vs σ Q H1) : mLcW wi g tt te vs σ H Q := by
  unfold mLcW
  exact h
section
variable {K : PySem.W.Frag} {g : TG} {tt : TT} {te : TE} {vs : List Nat} {σ : L2.St} {H1 : Hp} {Q : VK}
theorem wl_list {a : Addr} (xs : List V) (hn : xs.length ≤ 100000) (r : ∀ D, H1 D = none → ∃ Pv : Nat → List V → Hp → Prop, Pv 0 [] (upd H1 D (.lst [])) ∧
    (∀ i acc H', i ≤ xs.length → acc.length ≤ i → H' D = some (.lst acc) → Pv i acc H' → SqL K H' a xs) ∧
    (∀ i acc x H', xs[i]? = some x → acc.length ≤ i → H' D = some (.lst acc) → Pv i acc H' → g x (wipe σ vs) H' fun σ2 H2 => wipe σ2 vs = wipe σ vs ∧ tt σ2 H2 fun b H3 => Br b (te σ2 H3 fun y H4 => LcWT D acc (Pv (i + 1)) y H4) (LcWS D acc (Pv (i + 1)) H3)) ∧
    ∀ acc H', acc.length ≤ xs.length → H' D = some (.lst acc) → Pv xs.length acc H' → Q (.ref D) H') :
    LcWP (Itl K a) g tt te vs σ Q H1 := by
  unfold LcWP
  refine ⟨xs.length, _, _, walk_list (K := K) (a := a) (xs := xs), hn, fun D hD => ?_⟩
  obtain ⟨Pv, h0, hG, ht, hq⟩ := r D hD
  refine ⟨Pv, h0, hG, fun i acc x H' H'' hi h1 h2 h3 y => ?_, hq⟩
  obtain ⟨rfl, hx2⟩ := y
  exact ht i acc x _ hx2 h1 h2 h3
/-- for x in range(lo, ..), n turns -/
theorem wl_rng {lo : Int} {n : Nat} (hn : n ≤ 100000) (r : ∀ D, H1 D = none → ∃ Pv : Nat → List V → Hp → Prop, Pv 0 [] (upd H1 D (.lst [])) ∧
    (∀ (i : Nat) acc H', i < n → acc.length ≤ i → H' D = some (.lst acc) → Pv i acc H' → g (.int (lo + (i : Nat))) (wipe σ vs) H' fun σ2 H2 => wipe σ2 vs = wipe σ vs ∧ tt σ2 H2 fun b H3 => Br b (te σ2 H3 fun y H4 => LcWT D acc (Pv (i + 1)) y H4) (LcWS D acc (Pv (i + 1)) H3)) ∧
    ∀ acc H', acc.length ≤ n → H' D = some (.lst acc) → Pv n acc H' → Q (.ref D) H') :
    LcWP (Itr lo n) g tt te vs σ Q H1 := by
  unfold LcWP
  refine ⟨n, _, _, walk_range (lo := lo) (n := n), hn, fun D hD => ?_⟩
  obtain ⟨Pv, h0, ht, hq⟩ := r D hD
  refine ⟨Pv, h0, fun _ _ _ _ _ _ _ => trivial, fun i acc x H' H'' hi h1 h2 h3 y => ?_, hq⟩
  obtain ⟨rfl, rfl⟩ := y
  exact ht i acc _ hi h1 h2 h3
end
/-! ### lists of lists of whole numbers -/
inductive LLs (H : Hp) : List Addr → List (List Int) → Prop
  | nil : LLs H [] []
  | cons {p : Addr} {ps : List Addr} {x : List Int} {r : List (List Int)} (h : H p = some (.lst (x.map V.int))) (t : LLs H ps r) : LLs H (p :: ps) (x :: r)
section
variable {H H' : Hp} {ps : List Addr} {xss : List (List Int)} {p : Addr} {x : List Int}
theorem LLs.mono (h : LLs H ps xss) (s : Same H H') : LLs H' ps xss := by
  induction h with
  | nil => exact .nil
  | cons h _ ih => exact .cons (s _ _ h) ih
/-- where only the addresses told stay as they were -/
theorem LLs.stay (h : LLs H ps xss) (s : ∀ p ∈ ps, H' p = H p) : LLs H' ps xss := by
  induction h with
  | nil => exact .nil
  | cons h _ ih => exact .cons ((s _ List.mem_cons_self).trans h) (ih fun p hp => s p (List.mem_cons_of_mem _ hp))
theorem LLs.snoc (h : LLs H ps xss) (e : H p = some (.lst (x.map V.int))) : LLs H (ps ++ [p]) (xss ++ [x]) := by
  induction h with
  | nil => exact .cons e .nil
  | cons h _ ih => exact .cons h ih
theorem LLs.len (h : LLs H ps xss) : ps.length = xss.length := by
  induction h with
  | nil => rfl
  | cons _ _ ih => rw [List.length_cons, List.length_cons, ih]
theorem LLs.at (h : LLs H ps xss) {i : Nat} (hp : ps[i]? = some p) : ∃ x, xss[i]? = some x ∧ H p = some (.lst (x.map V.int)) := by
  induction h generalizing i with
  | nil => cases hp
  | cons h _ ih =>
    cases i with
    | zero => exact ⟨_, rfl, (Option.some.inj hp) ▸ h⟩
    | succ i => exact ih hp
theorem LLs.mem (h : LLs H ps xss) (hp : p ∈ ps) : ∃ x ∈ xss, H p = some (.lst (x.map V.int)) := by
  obtain ⟨i, hi⟩ := List.getElem?_of_mem hp
  obtain ⟨x, h1, h2⟩ := h.at hi
  exact ⟨x, List.mem_of_getElem? h1, h2⟩
theorem LLs.take (h : LLs H ps xss) (n : Nat) : LLs H (ps.take n) (xss.take n) := by
  induction h generalizing n with
  | nil => rw [List.take_nil, List.take_nil]; exact .nil
  | cons h _ ih =>
    cases n with
    | zero => exact .nil
    | succ n => exact .cons h (ih n)
theorem LLs.drop (h : LLs H ps xss) (n : Nat) : LLs H (ps.drop n) (xss.drop n) := by
  induction h generalizing n with
  | nil => rw [List.drop_nil, List.drop_nil]; exact .nil
  | cons h t ih =>
    cases n with
    | zero => exact .cons h t
    | succ n => exact ih n
theorem LLs.app {qs : List Addr} {yss : List (List Int)} (h : LLs H ps xss) (k : LLs H qs yss) : LLs H (ps ++ qs) (xss ++ yss) := by
  induction h with
  | nil => exact k
  | cons h _ ih => exact .cons h ih
theorem LLs.dps {K : PySem.W.Frag} (h : LLs H ps xss) : DpAll K H (ps.map V.ref) (xss.map fun l => PyData.list (l.map PyData.int)) := by
  induction h with
  | nil => exact .nil
  | cons h _ ih => exact .cons (dp_ints (sq_of h)) ih
theorem dp_lls {K : PySem.W.Frag} {a : Addr} (ha : SqL K H a (ps.map V.ref)) (h : LLs H ps xss) : Dp K H (.ref a) (.list (xss.map fun l => PyData.list (l.map PyData.int))) := .lst ha h.dps
end
def llD (xss : List (List Int)) : PyData := .list (xss.map fun l => PyData.list (l.map PyData.int))
theorem sh_lls {n : Nat} (xss : List (List Int)) : Sh (n + 2) (llD xss) := sh_lst (sh_map (fun l => sh_lst (sh_ints l)) xss)
theorem eqvLL : ∀ xss yss : List (List Int), PyData.eqvAll (xss.map fun l => PyData.list (l.map PyData.int)) (yss.map fun l => PyData.list (l.map PyData.int)) = decide (xss = yss)
  | [], [] => rfl
  | [], _ :: _ => rfl
  | _ :: _, [] => rfl
  | x :: xs, y :: ys => by
    show ((PyData.eqv (.list (x.map PyData.int)) (.list (y.map PyData.int))) && PyData.eqvAll (xs.map fun l => PyData.list (l.map PyData.int)) (ys.map fun l => PyData.list (l.map PyData.int))) = _
    rw [eqvLL xs ys]
    have e : PyData.eqv (.list (x.map PyData.int)) (.list (y.map PyData.int)) = decide (x = y) := eqvAll_ints x y
    rw [e]
    by_cases h1 : x = y
    · by_cases h2 : xs = ys
      · rw [decide_eq_true h1, decide_eq_true h2, h1, h2]
        exact (decide_eq_true rfl).symm
      · rw [decide_eq_false h2, Bool.and_false]
        exact (decide_eq_false fun z => h2 (List.cons.inj z).2).symm
    · rw [decide_eq_false h1, Bool.false_and]
      exact (decide_eq_false fun z => h1 (List.cons.inj z).1).symm
theorem eqv_llD (xss yss : List (List Int)) : PyData.eqv (llD xss) (llD yss) = decide (xss = yss) := eqvLL xss yss
section
variable {K : PySem.W.Frag} {H : Hp} {Q : VK} {a b : Addr} {ps qs : List Addr} {xss yss : List (List Int)}
theorem rd_eqLL (h1 : SqL K H a (ps.map V.ref)) (l1 : LLs H ps xss) (h2 : SqL K H b (qs.map V.ref)) (l2 : LLs H qs yss) (h : Q (.bl (decide (xss = yss))) H) : mEqD K (.ref a) (.ref b) H Q :=
  rd_eqA (n := 2) (m := 2) (llD xss) (llD yss) (dp_lls h1 l1) (dp_lls h2 l2) (sh_lls _) (sh_lls _) (by rw [eqv_llD]; exact h)
theorem rd_neLL (h1 : SqL K H a (ps.map V.ref)) (l1 : LLs H ps xss) (h2 : SqL K H b (qs.map V.ref)) (l2 : LLs H qs yss) (h : Q (.bl (!decide (xss = yss))) H) : mNeD K (.ref a) (.ref b) H Q :=
  rd_neA (n := 2) (m := 2) (llD xss) (llD yss) (dp_lls h1 l1) (dp_lls h2 l2) (sh_lls _) (sh_lls _) (by rw [eqv_llD]; exact h)
end
/-! ### [list(x) for x in xs], each a copy of its own -/
/-- the new list at D, the copies at qs -/
structure Cpy (H1 : Hp) (D : Addr) (qs : List Addr) (xss : List (List Int)) (H' : Hp) : Prop where
  sm : Same H1 H'
  at' : H' D = some (.lst (qs.map V.ref))
  ls : LLs H' qs xss
  fr : ∀ q ∈ qs, H1 q = none ∧ q ≠ D
  nd : qs.Nodup
theorem Cpy.next {H1 H' H'' : Hp} {D p : Addr} {qs : List Addr} {xss : List (List Int)} {x : List Int} (w : Cpy H1 D qs xss H') (hD : H1 D = none) (np : H' p = none) (s : Same H' H'') (e : H'' p = some (.lst (x.map V.int))) :
    Cpy H1 D (qs ++ [p]) (xss ++ [x]) (upd H'' D (.lst (qs.map V.ref ++ [.ref p]))) := by
  have hpD : p ≠ D := fun z => by
    rw [z, w.at'] at np
    cases np
  have hin : ∀ q ∈ qs, q ≠ p := fun q hq z => by
    obtain ⟨y, _, hy⟩ := w.ls.mem hq
    rw [z, np] at hy
    cases hy
  refine ⟨same_mut (w.sm.trans s) hD, ?_, ?_, fun q hq => ?_, ?_⟩
  · rw [upd_same, List.map_append]
    rfl
  · refine LLs.snoc ((w.ls.mono s).stay fun q hq => upd_ne (w.fr q hq).2) ?_
    rw [upd_ne hpD]
    exact e
  · rcases List.mem_append.mp hq with h | h
    · exact w.fr q h
    · rw [List.mem_singleton.mp h]
      exact ⟨same_none w.sm np, hpD⟩
  · refine List.nodup_append.mpr ⟨w.nd, List.nodup_cons.mpr ⟨fun h => (nomatch h), List.nodup_nil⟩, fun q hq r hr => ?_⟩
    rw [List.mem_singleton.mp hr]
    exact hin q hq
def cpOf (te : TE) (σ : L2.St) (H : Hp) (x : List Int) : Prop := ∀ (H' : Hp) (R : VK), Same H H' → NewO (.lst (x.map V.int)) H' R → te σ H' R
theorem wl_copy {K : PySem.W.Frag} {j : Nat} {te : TE} {σ : L2.St} {H1 : Hp} {Q : VK} {a : Addr} (xs : List V) (xss : List (List Int)) (hx : SqL K H1 a xs) (hl : xs.length = xss.length) (hn : xs.length ≤ 100000)
    (ht : ∀ (i : Nat) (y : V) (x : List Int), xs[i]? = some y → xss[i]? = some x → cpOf te ((wipe σ [j]).set j (some y)) H1 x) (hq : ∀ D qs H', H1 D = none → Cpy H1 D qs xss H' → Q (.ref D) H') :
    LcWP (Itl K a) (gName j) tYes te [j] σ Q H1 := by
  refine wl_list xs hn fun D hD => ⟨fun i acc H' => ∃ qs, acc = qs.map V.ref ∧ Cpy H1 D qs (xss.take i) H', ⟨[], rfl, same_upd hD, upd_same, .nil, fun q hq => (nomatch hq), List.nodup_nil⟩, fun i acc H' _ _ _ p => ?_, fun i acc y H' hi ha h2 p => ?_, fun acc H' ha h2 p => ?_⟩
  · obtain ⟨qs, rfl, p⟩ := p
    exact p.sm.seq hx
  · obtain ⟨qs, rfl, p⟩ := p
    have hi2 : i < xss.length := by
      have := (List.getElem?_eq_some_iff.mp hi).1
      omega
    have hi3 : xss[i]? = some xss[i] := List.getElem?_eq_getElem hi2
    show _ ∧ _
    refine ⟨wipe_set rfl, ?_⟩
    show Br true _ _
    refine br_T (ht i y _ hi hi3 H' _ p.sm fun q H'' nq s eq => ?_)
    refine ⟨s _ _ h2, qs ++ [q], by rw [List.map_append]; rfl, ?_⟩
    rw [take_snoc hi3]
    exact p.next hD nq s eq
  · obtain ⟨qs, rfl, p⟩ := p
    rw [hl, List.take_length] at p
    exact hq D qs H' hD p
/-! ### xs[lo:hi] = ys, the bounds left out or whole numbers -/
section
open PySem.Spec PyProof.Rows
theorem spl_arr (u v : List Value) (a c : Nat) : u.toArray.extract 0 a ++ v.toArray ++ u.toArray.extract c u.toArray.size = (u.take a ++ v ++ u.drop c).toArray := by
  apply Array.toList_inj.mp
  simp [List.take_of_length_le]
theorem setSl_at {prog : Program} {w : World} {A : Around} {E : Value → Shared → Prop} {s : Shared} {l b g : Addr} {us vs : Array Value} {n n2 : Nat} {v1 v2 : Value} {lo hi : Option Int} {Q : Unit → Shared → Prop}
    (hus : s.heap.get? l = some { cls := .type "list", data := .seq us n }) (hvs : s.heap.get? b = some { cls := .type "list", data := .seq vs n2 }) (hlb : l ≠ b)
    (hg : s.heap.IsSliceOf g v1 v2 .none) (p1 : IsPart v1 lo) (p2 : IsPart v2 hi) (hz : us.size + vs.size ≤ sizeLine)
    (k : Q () { s with heap := s.heap.update l (Obj.mapSeq fun xs => xs.extract 0 (PySem.W.kms_lo lo us.size) ++ vs ++ xs.extract (max (PySem.W.kms_lo lo us.size) (PySem.W.kms_hi hi us.size)) xs.size) }) :
    wpAny (model prog w) A (setItem (.ref l) (.ref g) (.ref b)) Q E s := by
  have tl : s.heap.IsList l us := PySem.IsL.isList hus
  have tb : s.heap.IsList b vs := PySem.IsL.isList hvs
  obtain ⟨og, hog, hgc, hgd⟩ := id hg
  have tg : s.TypeIs (.ref g) "slice" := ⟨og, hog, hgc⟩
  have hne : Builtin.List.listSameRef (.ref l) (.ref b) = false := by
    unfold Builtin.List.listSameRef
    exact beq_eq_false_iff_ne.mpr hlb
  have mx : ∀ a c : Nat, (max (a : Int) (c : Int)).toNat = max a c := fun a c => by omega
  generalize ha : PySem.W.kms_lo lo us.size = a at k
  generalize hc : PySem.W.kms_hi hi us.size = c at k
  have hb : sliceBounds lo hi none us.size = ((a : Int), (c : Int), 1) := by
    rw [← ha, ← hc]
    exact PySem.W.kms_bounds lo hi us.size
  have ham : a ≤ us.size := by
    rw [← ha]
    unfold PySem.W.kms_lo
    cases lo with
    | none => exact Nat.zero_le _
    | some x =>
      show (if x < 0 then us.size - (-x).toNat else min x.toNat us.size) ≤ us.size
      split <;> omega
  have hz2 : ((fun xs : Array Value => xs.extract 0 a ++ vs ++ xs.extract (max a c) xs.size) us).size ≤ sizeLine + 1 := by
    show (us.extract 0 a ++ vs ++ us.extract (max a c) us.size).size ≤ _
    rw [Array.size_append, Array.size_append, Array.size_extract, Array.size_extract]
    omega
  unfold setItem
  (try with_reducible refine wpAny_holding ?_)
  refine wpAny_bind (wpAny_sequenceKey tl.typeIs (by decide) ?_)
  refine wpAny_bind (wpAny_callSpecial?_slot (name := Str.ofString "__setitem__") tl.typeIs slot_list_setitem (wpAny_call_entry slot_list_setitem tl.typeIs entry_list_setitem ?_ (args_list_setitem _ _ _)))
  show wpAny _ _ (Builtin.List.listSubscript? (.ref g) >>= _) _ _ s
  refine wpAny_bind ?_
  unfold Builtin.List.listSubscript?
  refine wpAny_bind (wpAny_specialOf tg slice_no_index ?_)
  rw [if_pos (show (none : Option Value).isNone = true from rfl)]
  refine wpAny_pure ?_
  show wpAny _ _ (typeOf (.ref g) >>= _) _ _ s
  refine wpAny_bind (wpAny_typeOf tg ?_)
  rw [if_neg (by decide), listSliceParts_eq]
  refine wpAny_bind (wpAny_bind (wpAny_field hog hgd (x := .none) rfl (wpAny_bind (wpAny_listPart .none ?_))))
  rw [if_neg (show ¬ (rawPart none == rawInt 0) = true from Bool.false_ne_true)]
  refine wpAny_bind (wpAny_field hog hgd (x := v1) rfl (wpAny_bind (wpAny_listPart p1 ?_)))
  refine wpAny_bind (wpAny_field hog hgd (x := v2) rfl (wpAny_bind (wpAny_listPart p2 (wpAny_pure ?_))))
  refine PySem.W.KFB.if_not hne ?_
  refine wpAny_bind (m := Builtin.List.listAllItems (.ref b) "must assign iterable to extended slice") ?_
  unfold Builtin.List.listAllItems
  refine wpAny_bind (wpAny_typeOf tb.typeIs ?_)
  refine PySem.W.KFB.if_so (by decide) ?_
  unfold Builtin.List.listItems
  refine wpAny_bind (wpAny_seqItems hvs rfl (wpAny_pure ?_))
  refine wpAny_bind (wpAny_bind (wpAny_seqItems hus rfl (wpAny_pure ?_)))
  refine wpAny_bind (wpAny_of_eq ((sliceIndices_raw lo hi none us.size (by simp)).trans (congrArg (pure : Int × Int × Int → Sem (Int × Int × Int)) hb)) ?_)
  show wpAny _ _ (if ((1 : Int) == 1) = true then _ else _) _ _ s
  rw [if_pos (by decide)]
  refine wpAny_bind (wpAny_rule ?_)
  refine PySem.W.KFB.if_not (notLongL hz) ?_
  try refine wpAny_bind (wpAny_pure ?_)
  show wpAny _ _ (updateSeq l (fun xs => xs.extract 0 ((a : Int)).toNat ++ vs ++ xs.extract (max (a : Int) (c : Int)).toNat xs.size) >>= _) _ _ s
  rw [mx, Int.toNat_natCast]
  refine wpAny_bind (wpAny_updateSeq (hz := Nat.le_trans (Nat.le_add_right _ _) hz) (_hz' := hz2) hus rfl ?_)
  refine wpAny_bind (wpAny_letGo ?_)
  first
    | exact wpAny_pure ⟨.none, rfl, wpAny_pure k⟩
    | exact wpAny_bind (wpAny_pure (wpAny_pure ⟨.none, rfl, wpAny_pure k⟩))
/-- what becomes of a list -/
def splV (xs ys : List V) (lo hi : Option Int) : List V := xs.take (PySem.W.kms_lo lo xs.length) ++ ys ++ xs.drop (max (PySem.W.kms_lo lo xs.length) (PySem.W.kms_hi hi xs.length))
@[irreducible] def mSetSl (o : V) (lo hi : Option Int) (v : V) (H : Hp) (Q : Hp → Prop) : Prop := ∃ l b xs ys, o = .ref l ∧ v = .ref b ∧ H l = some (.lst xs) ∧ H b = some (.lst ys) ∧ l ≠ b ∧ xs.length + ys.length ≤ 1000000 ∧ Q (upd H l (.lst (splV xs ys lo hi)))
theorem rd_setSl {l b : Addr} {xs ys : List V} {lo hi : Option Int} {H : Hp} {Q : Hp → Prop} (h1 : H l = some (.lst xs)) (h2 : H b = some (.lst ys)) (h3 : l ≠ b) (hz : xs.length + ys.length ≤ 1000000) (q : Q (upd H l (.lst (splV xs ys lo hi)))) : mSetSl (.ref l) lo hi (.ref b) H Q := by
  unfold mSetSl
  exact ⟨l, b, xs, ys, rfl, rfl, h1, h2, h3, hz, q⟩
def gSl (to : TE) (tl th : TO) : TG := fun v σ H Q => to σ H fun o H1 => tl σ H1 fun lo H2 => th σ H2 fun hi H3 => mSetSl o lo hi v H3 fun H4 => Q σ H4
theorem pg_sl {X : Cx} {o : Expr} {lo hi : Option Expr} {to : TE} {tl th : TO} {pos p2 : Pos} (ho : PE X o to) (hl : PO X lo tl) (hu : PO X hi th)
    (ha : ∀ v, assign (.Subscript o (.Slice lo hi none p2) pos) X.env v = (do
      let a ← holding [v] (eval o X.env)
      let b ← holding [v, a] (eval (.Slice lo hi none p2) X.env)
      standAt pos
      holding [v, a, b] (setItem a b v)
      release [b, v, a] []) := by intro _; rfl) : PG X (.Subscript o (.Slice lo hi none p2) pos) (gSl to tl th) := by
  refine ⟨fun pins s σ H v u Q I r h => ?_⟩
  rw [ha]
  refine wpAny_bind (wpAny_holding (thn (ho.run pins s σ H _ I h) fun ov s1 ⟨x, H1, I1, r1, q1⟩ => ?_))
  refine wpAny_bind (wpAny_holding (wpAny_Slice (thn (hl.run pins s1 σ H1 _ I1 q1) fun vl s2 ⟨lo', H2, I2, pl, q2⟩ => thn (hu.run pins s2 σ H2 _ I2 q2) fun vu s3 ⟨hi', H3, I3, pu, q3⟩ => ?_)))
  rw [evalPart_none]
  refine wpAny_pure ?_
  unfold mSetSl at q3
  obtain ⟨l, b, xs, ys, rfl, rfl, h1, h2, h3, hz, q⟩ := q3
  have I4 : Inv X pins σ H3 { s3 with heap := s3.heap.push { cls := .type "slice", data := .fields #[vl, vu, .none] } } := I3.kept (t' := s3.toks) fun b ob q => Heap.get?_push_of_some _ q
  cases r1
  cases r
  obtain ⟨z, its, n, rv, hl1, e1⟩ := I4.lstM h1
  obtain ⟨z2, its2, n2, rv2, hl2, e2⟩ := I4.lstM h2
  have hn1 : its.toArray.size = xs.length := by rw [List.size_toArray]; exact rv.length.symm
  have hn2 : its2.toArray.size = ys.length := by rw [List.size_toArray]; exact rv2.length.symm
  refine wpAny_bind (wpAny_standAt (wpAny_bind (wpAny_holding ?_)))
  refine setSl_at e1 e2 h3 (Heap.IsSliceOf.new ..) pl pu (by rw [hn1, hn2]; exact sz hz) ?_
  rw [hn1]
  refine wpAny_release ⟨σ, _, I4.lset (its' := its.take (PySem.W.kms_lo lo' xs.length) ++ its2 ++ its.drop (max (PySem.W.kms_lo lo' xs.length) (PySem.W.kms_hi hi' xs.length))) (t' := s3.toks) h1 e1 ?_ (Vals.append (Vals.append (rv.take _) rv2) (rv.drop _)) ?_, q⟩
  · exact spl_arr its its2 _ _
  · have e3 := List.length_take_le (PySem.W.kms_lo lo' xs.length) xs
    refine sz ?_
    rw [List.length_append, List.length_append, List.length_take, List.length_drop]
    omega
end
theorem splV_all (xs ys : List V) : splV xs ys none none = ys := by
  show xs.take 0 ++ ys ++ xs.drop (max 0 xs.length) = ys
  rw [Nat.zero_max, List.drop_length, List.take_zero, List.append_nil, List.nil_append]
theorem splV_to (xs ys : List V) {k : Int} (h : 0 ≤ k) : splV xs ys none (some k) = ys ++ xs.drop k.toNat := by
  have e : PySem.W.kms_hi (some k) xs.length = min k.toNat xs.length := by
    show (if k < 0 then _ else _) = _
    rw [if_neg (by omega)]
  show xs.take 0 ++ ys ++ xs.drop (max 0 (PySem.W.kms_hi (some k) xs.length)) = _
  rw [e, Nat.zero_max, List.take_zero, List.nil_append]
  by_cases h2 : k.toNat ≤ xs.length
  · rw [Nat.min_eq_left h2]
  · rw [Nat.min_eq_right (by omega), List.drop_length, List.drop_of_length_le (by omega)]
/-- objects that came with the last step join what stays -/
theorem Own.adopt2 {S B0 B H : Hp} {as : List Addr} {l : List (Addr × HO)} (w : Own S B0 as B l H) (ps : List Addr) (hp : ∀ p ∈ ps, S p = none ∧ H p ≠ none ∧ p ∉ l.map Prod.fst) : ∃ B', Same B B' ∧ (∀ p ∈ ps, B' p = H p) ∧ Own S B0 as B' l H := by
  have sb : Same B (fun b => if b ∈ ps then H b else B b) := fun b o h => by
    show (if b ∈ ps then H b else B b) = some o
    split
    · exact w.c.imm _ _ h
    · exact h
  refine ⟨fun b => if b ∈ ps then H b else B b, sb, fun p h => if_pos h, ⟨w.c.cell, w.c.nd, fun b u h => ?_, fun a u h => ?_⟩, w.kept, w.own, w.grow.trans sb, fun b h k => ?_, w.there⟩
  · have h2 : (if b ∈ ps then H b else B b) = some u := h
    split at h2
    · exact h2
    · exact w.c.imm _ _ h2
  · show (if a ∈ ps then H a else B a) = none
    rw [if_neg (fun z => (hp a z).2.2 (mem_fst h))]
    exact w.c.dis a u h
  · by_cases hb : b ∈ ps
    · exact (hp b hb).1
    · have k2 : (if b ∈ ps then H b else B b) ≠ none := k
      rw [if_neg hb] at k2
      exact w.new b h k2
/-- a list of copies: it is a cell, the copies stay -/
theorem Own.cpy {S B0 B H H' : Hp} {as : List Addr} {l : List (Addr × HO)} {D : Addr} {qs : List Addr} {xss : List (List Int)} (w : Own S B0 as B l H) (hD : H D = none) (c : Cpy H D qs xss H') :
    ∃ B', Same B B' ∧ LLs B' qs xss ∧ Own S B0 as B' ((D, .lst (qs.map V.ref)) :: l) H' := by
  have w1 := w.add hD c.sm c.at'
  obtain ⟨B', s, e, w2⟩ := w1.adopt2 qs fun p hp => by
    refine ⟨(w.frS (c.fr p hp).1).1, ?_, fun h => ?_⟩
    · obtain ⟨x, _, hx⟩ := c.ls.mem hp
      rw [hx]
      exact fun z => (nomatch z)
    · rcases List.mem_cons.mp h with h | h
      · exact (c.fr p hp).2 h
      · obtain ⟨o, h⟩ := fst_mem h
        exact w.notin (c.fr p hp).1 h
  exact ⟨B', s, c.ls.stay e, w2⟩
/-- a list of copies, all of it stays -/
theorem Own.cpyR {S B0 B H H' : Hp} {as : List Addr} {l : List (Addr × HO)} {D : Addr} {qs : List Addr} {xss : List (List Int)} (w : Own S B0 as B l H) (hD : H D = none) (c : Cpy H D qs xss H') :
    ∃ B', Same B B' ∧ LLs B' qs xss ∧ B' D = some (.lst (qs.map V.ref)) ∧ Own S B0 as B' l H' := by
  obtain ⟨B', s, h, w2⟩ := w.cpy hD c
  obtain ⟨B2, s2, e2, w3⟩ := w2.ice (w.frS hD).1
  exact ⟨B2, s.trans s2, h.mono s2, e2, w3⟩
/-- [e for x in xs], each element a value, the heap grown at most -/
theorem wl_vals {K : PySem.W.Frag} {j : Nat} {te : TE} {σ : L2.St} {H1 : Hp} {Q : VK} {a : Addr} (xs : List V) (f : Nat → V) (hx : SqL K H1 a xs) (hn : xs.length ≤ 100000)
    (ht : ∀ (i : Nat) (y : V), xs[i]? = some y → ∀ (H' : Hp) (R : VK), Same H1 H' → (∀ H'', Same H' H'' → R (f i) H'') → te ((wipe σ [j]).set j (some y)) H' R) (hq : NewO (.lst ((List.range xs.length).map f)) H1 Q) :
    LcWP (Itl K a) (gName j) tYes te [j] σ Q H1 := by
  refine wl_list xs hn fun D hD => ⟨fun i acc H' => acc = (List.range i).map f ∧ Same H1 H', ⟨rfl, same_upd hD⟩, fun i acc H' _ _ _ p => p.2.seq hx, fun i acc y H' hi ha h2 p => ?_, fun acc H' ha h2 p => ?_⟩
  · obtain ⟨rfl, p⟩ := p
    show _ ∧ _
    refine ⟨wipe_set rfl, ?_⟩
    show Br true _ _
    refine br_T (ht i y hi H' _ p fun H'' s => ⟨s _ _ h2, ?_, same_mut (p.trans s) hD⟩)
    rw [List.range_succ, List.map_append]
    rfl
  · obtain ⟨rfl, p⟩ := p
    exact hq D H' hD p h2
section
variable {X : Cx} {K : PySem.W.Frag}
theorem call_listK (h : X.K = K) : CallR X (.type "list") (mListOf K) := h ▸ call_listM
theorem sl_listK (h : X.K = K) : SlR X (mSlL K) := h ▸ sl_listM
theorem call_tupOfK (h : X.K = K) : CallR X (.type "tuple") (mTupOf K) := h ▸ call_tupOfM
end
theorem snocI (ns : List Int) (n : Int) : ns.map V.int ++ [V.int n] = (ns ++ [n]).map V.int := by
  rw [List.map_append]
  rfl
theorem snocR (ns : List Addr) (n : Addr) : ns.map V.ref ++ [V.ref n] = (ns ++ [n]).map V.ref := by
  rw [List.map_append]
  rfl
/-- a name is set: the frame as it stands then -/
theorem frG {i : Nat} {v : V} {σ σ' : L2.St} {H : Hp} {D : L2.St → Hp → Prop} (e : σ.set i (some v) = σ') (h : D σ' H) : gName i v σ H D := by
  subst e
  exact h
/-! ### lists of new tuples -/
inductive TLs (H : Hp) : List Addr → List (List V) → Prop
  | nil : TLs H [] []
  | cons {p : Addr} {ps : List Addr} {x : List V} {r : List (List V)} (h : H p = some (.tup x)) (t : TLs H ps r) : TLs H (p :: ps) (x :: r)
section
variable {H H' : Hp} {ps : List Addr} {xs : List (List V)} {p : Addr} {x : List V}
theorem TLs.mono (h : TLs H ps xs) (s : Same H H') : TLs H' ps xs := by
  induction h with
  | nil => exact .nil
  | cons h _ ih => exact .cons (s _ _ h) ih
theorem TLs.stay (h : TLs H ps xs) (s : ∀ p ∈ ps, H' p = H p) : TLs H' ps xs := by
  induction h with
  | nil => exact .nil
  | cons h _ ih => exact .cons ((s _ List.mem_cons_self).trans h) (ih fun p hp => s p (List.mem_cons_of_mem _ hp))
theorem TLs.snoc (h : TLs H ps xs) (e : H p = some (.tup x)) : TLs H (ps ++ [p]) (xs ++ [x]) := by
  induction h with
  | nil => exact .cons e .nil
  | cons h _ ih => exact .cons h ih
theorem TLs.len (h : TLs H ps xs) : ps.length = xs.length := by
  induction h with
  | nil => rfl
  | cons _ _ ih => rw [List.length_cons, List.length_cons, ih]
theorem TLs.mem (h : TLs H ps xs) (hp : p ∈ ps) : ∃ x ∈ xs, H p = some (.tup x) := by
  induction h with
  | nil => cases hp
  | cons h _ ih =>
    rcases List.mem_cons.mp hp with e | z
    · rw [e]
      exact ⟨_, .head _, h⟩
    · obtain ⟨y, h1, h2⟩ := ih z
      exact ⟨y, .tail _ h1, h2⟩
theorem TLs.at (h : TLs H ps xs) {i : Nat} (hp : ps[i]? = some p) : ∃ x, xs[i]? = some x ∧ H p = some (.tup x) := by
  induction h generalizing i with
  | nil => cases hp
  | cons h _ ih =>
    cases i with
    | zero => exact ⟨_, rfl, (Option.some.inj hp) ▸ h⟩
    | succ i => exact ih hp
theorem TLs.app {qs : List Addr} {ys : List (List V)} (h : TLs H ps xs) (k : TLs H qs ys) : TLs H (ps ++ qs) (xs ++ ys) := by
  induction h with
  | nil => exact k
  | cons h _ ih => exact .cons h ih
end
structure NT (H1 : Hp) (D : Addr) (ps : List Addr) (xs : List (List V)) (H' : Hp) : Prop where
  sm : Same H1 H'
  at' : H' D = some (.lst (ps.map V.ref))
  ls : TLs H' ps xs
  fr : ∀ p ∈ ps, H1 p = none
theorem NT.start {H1 : Hp} {D : Addr} (hD : H1 D = none) : NT H1 D [] [] (upd H1 D (.lst [])) := ⟨same_upd hD, upd_same, .nil, fun p hp => (nomatch hp)⟩
theorem NT.next {H1 H' H2 : Hp} {D t : Addr} {ps : List Addr} {xs : List (List V)} {x : List V} (w : NT H1 D ps xs H') (hD : H1 D = none) (nt : H' t = none) (s : Same H' H2) (e : H2 t = some (.tup x)) :
    NT H1 D (ps ++ [t]) (xs ++ [x]) (upd H2 D (.lst (ps.map V.ref ++ [.ref t]))) := by
  have hD2 := s _ _ w.at'
  have htD : ∀ {q : Addr} {y : List V}, H2 q = some (.tup y) → q ≠ D := fun {q y} h z => by
    rw [z, hD2] at h
    cases h
  refine ⟨same_mut (w.sm.trans s) hD, ?_, ?_, fun y hy => ?_⟩
  · rw [upd_same, List.map_append]
    rfl
  · refine TLs.snoc ((w.ls.mono s).stay fun y hy => upd_ne ?_) ?_
    · obtain ⟨z, _, h⟩ := w.ls.mem hy
      exact htD (s _ _ h)
    · rw [upd_ne (htD e)]
      exact e
  · rcases List.mem_append.mp hy with h | h
    · exact w.fr y h
    · rw [List.mem_singleton.mp h]
      exact same_none w.sm nt
theorem NT.back {H0 H1 H' : Hp} {D : Addr} {ps : List Addr} {xs : List (List V)} (w : NT H1 D ps xs H') (s : Same H0 H1) : NT H0 D ps xs H' := ⟨s.trans w.sm, w.at', w.ls, fun p hp => same_none s (w.fr p hp)⟩
/-- all of a list of new tuples stays -/
theorem Own.nt {S B0 B H H' : Hp} {as : List Addr} {l : List (Addr × HO)} {D : Addr} {ps : List Addr} {xs : List (List V)} (w : Own S B0 as B l H) (hD : H D = none) (c : NT H D ps xs H') :
    ∃ B', Same B B' ∧ B' D = some (.lst (ps.map V.ref)) ∧ TLs B' ps xs ∧ Own S B0 as B' l H' := by
  obtain ⟨B', s, e, w2⟩ := (w.more c.sm).adopt2 (D :: ps) fun p hp => by
    have hn : H p = none ∧ H' p ≠ none := by
      rcases List.mem_cons.mp hp with h | h
      · rw [h]
        exact ⟨hD, by rw [c.at']; exact fun z => (nomatch z)⟩
      · obtain ⟨x, _, hx⟩ := c.ls.mem h
        exact ⟨c.fr p h, by rw [hx]; exact fun z => (nomatch z)⟩
    refine ⟨(w.frS hn.1).1, hn.2, fun h => ?_⟩
    obtain ⟨o, h⟩ := fst_mem h
    exact w.notin hn.1 h
  exact ⟨B', s, (e D (.head _)).trans c.at', c.ls.stay fun p hp => e p (.tail _ hp), w2⟩
/-- [(..) for x in xs]: the i-th tuple is f i -/
theorem wl_tups {K : PySem.W.Frag} {j : Nat} {te : TE} {σ : L2.St} {H1 : Hp} {Q : VK} {a : Addr} (xs : List V) (f : Nat → List V) (hx : SqL K H1 a xs) (hn : xs.length ≤ 100000)
    (ht : ∀ (i : Nat) (y : V), xs[i]? = some y → ∀ (H' : Hp) (R : VK), Same H1 H' → NewO (.tup (f i)) H' R → te ((wipe σ [j]).set j (some y)) H' R) (hq : ∀ D ps H', H1 D = none → NT H1 D ps ((List.range xs.length).map f) H' → Q (.ref D) H') :
    LcWP (Itl K a) (gName j) tYes te [j] σ Q H1 := by
  refine wl_list xs hn fun D hD => ⟨fun i acc H' => ∃ ps, acc = ps.map V.ref ∧ NT H1 D ps ((List.range i).map f) H', ⟨[], rfl, NT.start hD⟩, fun i acc H' _ _ _ p => ?_, fun i acc y H' hi ha h2 p => ?_, fun acc H' ha h2 p => ?_⟩
  · obtain ⟨ps, rfl, p⟩ := p
    exact p.sm.seq hx
  · obtain ⟨ps, rfl, p⟩ := p
    show _ ∧ _
    refine ⟨wipe_set rfl, ?_⟩
    show Br true _ _
    refine br_T (ht i y hi H' _ p.sm fun t H'' nt s e => ⟨s _ _ h2, ps ++ [t], by rw [List.map_append]; rfl, ?_⟩)
    rw [List.range_succ, List.map_append]
    exact p.next hD nt s e
  · obtain ⟨ps, rfl, p⟩ := p
    exact hq D ps H' hD p
/-! ### a comprehension over a dict, which is locked meanwhile -/
@[irreducible] def mLcD (i : Nat) (g : TG) (tt : TT) (te : TE) (vs : List Nat) : TE := tLockE (mLcW (iKeys fun σ H Q => ∃ v, σ[i]? = some (some v) ∧ Q v H) g tt te vs)
theorem pe_lcD {X : Cx} {tg it elt : Expr} {ifs : List Expr} {scope : Scope} {own : List (Str × Nat)} {g : TG} {tt : TT} {te : TE} {i : Nat} {pos : Pos} (vs : List Nat) (hc : X.calm = true) (hN : X.N.Nodup) (ha : PE X it (fun σ H Q => ∃ v, σ[i]? = some (some v) ∧ Q v H)) (ok : BlkOk X.N X.env.scope scope own)
    (hg : ∀ (s : Shared) (H : Hp) (C : Addr) (cl : List (Str × Addr)) (fp : List Addr), PG (X.blk s H scope (compEnvC scope cl C X.env) fp) tg g) (ht : ∀ (s : Shared) (H : Hp) (C : Addr) (cl : List (Str × Addr)) (fp : List Addr), PTs (X.blk s H scope (compEnvC scope cl C X.env) fp) ifs tt)
    (he : ∀ (s : Shared) (H : Hp) (C : Addr) (cl : List (Str × Addr)) (fp : List Addr), PE (X.blk s H scope (compEnvC scope cl C X.env) fp) elt te) (hvs : own.map (·.2) = vs := by rfl) (hs : ∀ x, foldedSetIterable it X.env x = pure x := by intro _; rfl) :
    PE X (.ListComp elt [⟨tg, it, ifs, 0⟩] scope pos) (mLcD i g tt te vs) :=
  pe_weak (pe_lock (pe_lcW vs im_keys hc hN (pi_keys (pe_c ha)) ok hg ht he hvs hs)) fun σ H Q q => by
    unfold mLcD at q
    exact q
/-- what the turns see: the dict to be read, all else that was there -/
structure DSee (d : Addr) (kvs : List (Key × V)) (H H' : Hp) : Prop where
  rd : Rd H' d (.dK kvs)
  but : ∀ b o, b ≠ d → H b = some o → H' b = some o
theorem DSee.more {d : Addr} {kvs : List (Key × V)} {H H' H2 : Hp} (w : DSee d kvs H H') (s : Same H' H2) : DSee d kvs H H2 := ⟨by
  rcases w.rd with h | ⟨o, h⟩
  · exact .inl (s _ _ h)
  · exact .inr ⟨o, s _ _ h⟩, fun b o hb h => s _ _ (w.but b o hb h)⟩
theorem rd_lcDT {i j : Nat} {tt : TT} {te : TE} {σ : L2.St} {H : Hp} {Q : VK} (d : Addr) (kvs : List (Key × V)) (ns : List Int) (keep : Int → Bool) (f : Int → List V) (h1 : σ[i]? = some (some (.ref d))) (h2 : H d = some (.dK kvs)) (h3 : kvs.map Prod.fst = ns.map Sum.inl) (h4 : ns.length ≤ 100000)
    (ht : ∀ n, n ∈ ns → ∀ (H' : Hp) (R : Bool → Hp → Prop), DSee d kvs H H' → (∀ H'', Same H' H'' → R (keep n) H'') → tt ((wipe σ [j]).set j (some (.int n))) H' R)
    (he : ∀ n, n ∈ ns → keep n = true → ∀ (H' : Hp) (R : VK), DSee d kvs H H' → NewO (.tup (f n)) H' R → te ((wipe σ [j]).set j (some (.int n))) H' R)
    (hq : ∀ D ps H', H D = none → NT H D ps ((ns.filter keep).map f) H' → Q (.ref D) H') : mLcD i (gName j) tt te [j] σ H Q := by
  unfold mLcD
  have hkl : kvs.length = ns.length := by
    have e := congrArg List.length h3
    rw [List.length_map, List.length_map] at e
    exact e
  refine ⟨d, .dK kvs, h2, trivial, fun od => ?_⟩
  unfold mLcW
  refine ⟨.ref d, h1, d, od, rfl, .inl ⟨kvs, upd_same, ?_⟩⟩
  have nd : ∀ {p : Addr}, (upd H d (.frz od (.dK kvs))) p = none → p ≠ d := fun z e => by
    rw [e, upd_same] at z
    cases z
  have see : ∀ {H'}, Same (upd H d (.frz od (.dK kvs))) H' → DSee d kvs H H' := fun s => ⟨.inr ⟨od, s _ _ upd_same⟩, fun b o hb h => s _ _ (by rw [upd_ne hb]; exact h)⟩
  unfold LcWP
  refine ⟨kvs.length, _, _, walk_keys (d := d) (o := od) (kvs := kvs), by omega, fun D hD => ⟨fun k acc H' => ∃ ps, acc = ps.map V.ref ∧ NT (upd H d (.frz od (.dK kvs))) D ps (((ns.take k).filter keep).map f) H', ⟨[], rfl, NT.start hD⟩, fun k acc H' _ _ _ p => ?_, fun k acc y H' H'' hk ha h5 p w => ?_, fun acc H' ha h5 p => ?_⟩⟩
  · obtain ⟨ps, rfl, p⟩ := p
    exact p.sm _ _ upd_same
  · obtain ⟨ps, rfl, p⟩ := p
    obtain ⟨rfl, ky, vy, hkv, rfl⟩ := w
    have hk2 : k < ns.length := by omega
    have hn : ns[k]? = some ns[k] := List.getElem?_eq_getElem hk2
    have ek : ky = Sum.inl ns[k] := by
      have z : (kvs.map Prod.fst)[k]? = (ns.map (Sum.inl (β := Str)))[k]? := by rw [h3]
      rw [List.getElem?_map, List.getElem?_map, hkv, hn] at z
      exact Option.some.inj z
    subst ek
    have hin : ns[k] ∈ ns := List.getElem_mem hk2
    show _ ∧ _
    refine ⟨wipe_set rfl, ?_⟩
    refine ht _ hin _ _ (see p.sm) fun H2 s2 => ?_
    have st : ns.take (k + 1) = ns.take k ++ [ns[k]] := take_snoc hn
    cases hb : keep ns[k] with
    | true =>
      refine br_T (he _ hin hb H2 _ (see (p.sm.trans s2)) fun t H3 nt s3 e3 => ⟨s3 _ _ (s2 _ _ h5), ps ++ [t], by rw [List.map_append]; rfl, ?_⟩)
      have p2 : NT (upd H d (.frz od (.dK kvs))) D ps (((ns.take k).filter keep).map f) H2 := ⟨p.sm.trans s2, s2 _ _ p.at', p.ls.mono s2, p.fr⟩
      have e4 : ((ns.take (k + 1)).filter keep).map f = ((ns.take k).filter keep).map f ++ [f ns[k]] := by
        rw [st, List.filter_append, List.map_append, List.filter_cons, if_pos hb]
        rfl
      rw [e4]
      exact p2.next hD nt s3 e3
    | false =>
      refine br_F ⟨s2 _ _ h5, ps, rfl, ?_⟩
      have e4 : ((ns.take (k + 1)).filter keep).map f = ((ns.take k).filter keep).map f := by
        rw [st, List.filter_append, List.filter_cons, if_neg (by rw [hb]; decide), List.filter_nil, List.append_nil]
      rw [e4]
      exact ⟨p.sm.trans s2, s2 _ _ p.at', p.ls.mono s2, p.fr⟩
  · obtain ⟨ps, rfl, p⟩ := p
    rw [hkl, List.take_length] at p
    have hDd : D ≠ d := nd hD
    have hps : ∀ q ∈ ps, q ≠ d := fun q hq => nd (p.fr q hq)
    refine ⟨p.sm _ _ upd_same, hq D ps _ (by rw [upd_ne hDd] at hD; exact hD) ⟨fun b o hb => ?_, ?_, ?_, fun q hq => ?_⟩⟩
    · by_cases hbd : b = d
      · subst hbd
        rw [upd_same]
        rw [h2] at hb
        exact hb
      · rw [upd_ne hbd]
        exact p.sm _ _ (by rw [upd_ne hbd]; exact hb)
    · rw [upd_ne hDd]
      exact p.at'
    · exact p.ls.stay fun q hq => upd_ne (hps q hq)
    · have := p.fr q hq
      rw [upd_ne (hps q hq)] at this
      exact this
/-- dict(ps), ps a list of pairs -/
@[irreducible] def mDictP (K : PySem.W.Frag) : List V → Hp → VK → Prop := fun xs H Q => ∃ (a : Addr) (ps : List Addr) (kvs : List (Key × V)), xs = [.ref a] ∧ SqL K H a (ps.map V.ref) ∧ Paired (fun p kv => SqT K H p [kV kv.1, kv.2]) ps kvs ∧ NewO (.dK (mergeK [] kvs)) H Q
theorem call_dictPM {X : Cx} (hc : X.calm = true) : CallR X (.type "dict") (mDictP X.K) := fun pins s σ H xs us Q I r q => call_dictP hc pins s σ H xs us Q I r (by
  unfold mDictP at q
  obtain ⟨a, ps, kvs, e, h1, h2, h3⟩ := q
  exact ⟨a, ps, kvs, e, h1, h2, h3.go⟩)
theorem paired_tls {K : PySem.W.Frag} {H : Hp} : ∀ {ps : List Addr} {kvs : List (Key × V)}, TLs H ps (kvs.map fun kv => [kV kv.1, kv.2]) → Paired (fun p kv => SqT K H p [kV kv.1, kv.2]) ps kvs
  | _, [], h => by
    cases h
    exact .nil
  | _, kv :: r, h => by
    cases h with
    | cons h t => exact .cons (st_of h) (paired_tls t)
theorem putK_app : ∀ {kvs more : List (Key × V)} {k : Key} {v : V}, k ∉ kvs.map Prod.fst → putK kvs k v = kvs ++ [(k, v)] := fun {kvs more k v} h => putK_new _ (by
  induction kvs with
  | nil => rfl
  | cons x r ih =>
    rw [List.map_cons] at h
    rw [valV_neg (fun e => h (e ▸ .head _))]
    exact ih fun z => h (.tail _ z))
theorem mergeK_app : ∀ (kvs more : List (Key × V)), ((kvs ++ more).map Prod.fst).Nodup → mergeK kvs more = kvs ++ more
  | kvs, [], _ => by rw [List.append_nil]; rfl
  | kvs, (k, v) :: r, nd => by
    have h : k ∉ kvs.map Prod.fst := fun z => by
      rw [List.map_append] at nd
      exact (List.nodup_append.mp nd).2.2 k z k (.head _) rfl
    show mergeK (putK kvs k v) r = _
    rw [putK_app (more := []) h]
    have e : kvs ++ (k, v) :: r = (kvs ++ [(k, v)]) ++ r := by rw [List.append_assoc]; rfl
    rw [e] at nd ⊢
    exact mergeK_app _ r nd
theorem rd_dictP {K : PySem.W.Frag} {H : Hp} {Q : VK} {a : Addr} {ps : List Addr} {kvs : List (Key × V)} (h1 : SqL K H a (ps.map V.ref)) (h2 : TLs H ps (kvs.map fun kv => [kV kv.1, kv.2])) (nd : (kvs.map Prod.fst).Nodup) (q : NewO (.dK kvs) H Q) : mDictP K [.ref a] H Q := by
  unfold mDictP
  refine ⟨a, ps, kvs, rfl, h1, paired_tls h2, ?_⟩
  rw [mergeK_app [] kvs nd]
  exact q
/-! ### o.m(e, ..) that may raise, within a try -/
def mMethT (C : Addr) (m : Str) (sp : Sp) (E : L2.St → XK) (ta : TE) (t : TA) : TE := fun σ H Q => ta σ H fun x H1 => mIns C m x H1 (t σ H1 fun vs H2 => sp (x :: vs) H2 Q (E σ))
section
open PySem.Spec PyProof.Rows
variable {X : Cx} {CX : CXT} {k : Nat} {C g : Addr} {fd : FuncData} {ps : List Str} {sp : Sp} {E : L2.St → XK} {m : Str} {e o : Expr} {es : List Expr} {ta : TE} {t : TA} {apos cpos : Pos} {pl : Sem Bool}
theorem pe_methT (ho : PE X o ta) (c : Cls X.K C) (hm : Meth X.K C m g) (F : FnOk X.prog X.w X.K X.mg X.base CX k g fd ps sp) (hr : Room k X.A) (hb : Binds X.K fd ps []) (hx : ∀ σ, PassesAt CX X σ (E σ)) (ha : PA X (e :: es) t)
    (hst : starEach (e :: es) X.env = (false, eval e X.env) :: starEach es X.env := by rfl) (hpl : (backTo cpos (starEach es X.env)).any (·.1) = false := by rfl)
    (ht : eval (.Call (.Attribute o m apos) (e :: es) [] cpos) X.env = (do
      let v ← eval o X.env
      standAt apos.atName
      let (a, b) ← holding [v] (getMethod v m pl)
      callWith cpos a b (backTo cpos (starEach (e :: es) X.env)) (backToKw cpos (keywordEach [] X.env))) := by rfl) : PE X (.Call (.Attribute o m apos) (e :: es) [] cpos) (mMethT C m sp E ta t) := by
  refine ⟨fun pins s σ H Q I z => ?_⟩
  refine PySem.W.methodCall_KW (pl := pl) (thn ((pe_c ho).run pins s σ H _ I ⟨_, z, fun v H' y => y⟩) fun u s1 ⟨v, H1, I1, rv, y⟩ => ?_) ht
  unfold mIns at y
  obtain ⟨a, dx, fs, rfl, ea, l, y⟩ := y
  obtain rfl : u = Value.ref a := rv
  refine getmeth_ok I1 ea c hm l ?_
  refine PySem.W.callWith_K (first := [.ref a]) (h₀ := X.base) I.ok.mod.kin hm.kp (thn (ha.run cpos pins s1 σ H1 _ I1 y) fun us s2 ⟨ws, H2, I2, r, y2⟩ => ⟨I2.kIn, ?_⟩) hst hpl
  exact run_fnS (us := .ref a :: us) (vs := .ref a :: ws) F hr hb (hx σ) I2 (.cons rfl r) y2
end
theorem Own.addR {S B0 B H H' : Hp} {as : List Addr} {l : List (Addr × HO)} {p : Addr} {o : HO} (w : Own S B0 as B l H) (n : H p = none) (s : Same H H') (e : H' p = some o) : Own S B0 as B (l ++ [(p, o)]) H' :=
  (w.add n s e).perm List.perm_append_comm
theorem Own.loose {S B0 B H H2 H3 : Hp} {as : List Addr} {l : List (Addr × HO)} (w : Own S B0 as B l H) (s : Same H H2) (ps : List Addr) (hp : ∀ p ∈ ps, H p = none) (k : ∀ b o, b ∉ ps → H2 b = some o → H3 b = some o) : Own S B0 as B l H3 := by
  have old : ∀ {b o}, H b = some o → H3 b = some o := fun {b o} h => k b o (fun z => by rw [hp b z] at h; cases h) (s _ _ h)
  refine ⟨⟨fun a u h => old (w.c.cell a u h), w.c.nd, fun b u h => old (w.c.imm b u h), w.c.dis⟩, fun b u hb h => old (w.kept b u hb h), w.own, w.grow, w.new, fun a h e => ?_⟩
  have h2 := w.there a h
  cases e2 : H a with
  | none => exact h2 e2
  | some u =>
    rw [old e2] at e
    cases e
theorem Own.dropR {S B0 B H : Hp} {as : List Addr} {l : List (Addr × HO)} {c : Addr × HO} (w : Own S B0 as B (l ++ [c]) H) : Own S B0 as B l H :=
  w.sub (fun _ h => List.mem_append_left _ h) (by
    have nd := w.c.nd
    rw [List.map_append] at nd
    exact (List.nodup_append.mp nd).1)
theorem LLs.nil_of {H : Hp} {xss : List (List Int)} (h : LLs H [] xss) : xss = [] := by
  cases h
  rfl
theorem LLs.nil_of' {H : Hp} {ps : List Addr} (h : LLs H ps []) : ps = [] := by
  cases h
  rfl
theorem LLs.un {H : Hp} {p : Addr} {ps : List Addr} {xss : List (List Int)} (h : LLs H (p :: ps) xss) : ∃ x r, xss = x :: r ∧ H p = some (.lst (x.map V.int)) ∧ LLs H ps r := by
  cases h with
  | cons h t => exact ⟨_, _, rfl, h, t⟩
theorem LLs.un' {H : Hp} {ps : List Addr} {x : List Int} {r : List (List Int)} (h : LLs H ps (x :: r)) : ∃ p ps', ps = p :: ps' ∧ H p = some (.lst (x.map V.int)) ∧ LLs H ps' r := by
  cases h with
  | cons h t => exact ⟨_, _, rfl, h, t⟩
theorem LLs.setAt {H : Hp} {ps : List Addr} {xss : List (List Int)} {p : Addr} {x : List Int} (h : LLs H ps xss) (e : H p = some (.lst (x.map V.int))) (i : Nat) : LLs H (ps.set i p) (xss.set i x) := by
  induction h generalizing i with
  | nil => exact .nil
  | cons h t ih =>
    cases i with
    | zero => exact .cons e t
    | succ i => exact .cons h (ih i)
theorem LLs.erase {H : Hp} {ps : List Addr} {xss : List (List Int)} (h : LLs H ps xss) (i : Nat) : LLs H (ps.eraseIdx i) (xss.eraseIdx i) := by
  induction h generalizing i with
  | nil => exact .nil
  | cons h t ih =>
    cases i with
    | zero => exact t
    | succ i => exact .cons h (ih i)
theorem LLs.get' {H : Hp} {ps : List Addr} {xss : List (List Int)} (h : LLs H ps xss) {i : Int} (h0 : 0 ≤ i) (h1 : i < (ps.length : Int)) : ∃ (p : Addr) (x : List Int), x ∈ xss ∧ ps[i.toNat]? = some p ∧ atI (ps.map V.ref) i = some (.ref p) ∧ H p = some (.lst (x.map V.int)) := by
  have h2 : i.toNat < ps.length := by omega
  have e := List.getElem?_eq_getElem h2
  obtain ⟨x, hm, hx⟩ := h.at e
  refine ⟨_, x, List.mem_of_getElem? hm, e, at_of (j := i.toNat) (by omega) ?_, hx⟩
  rw [List.getElem?_map, e]
  rfl
/-! ### min and max of one list of whole numbers -/
@[irreducible] def mMinL (K : PySem.W.Frag) : List V → Hp → VK → Prop := fun xs H Q => ∃ (a : Addr) (ns : List Int), xs = [.ref a] ∧ SqL K H a (ns.map V.int) ∧ 0 < ns.length ∧ ∀ m, m ∈ ns → (∀ y ∈ ns, m ≤ y) → Q (.int m) H
@[irreducible] def mMaxL (K : PySem.W.Frag) : List V → Hp → VK → Prop := fun xs H Q => ∃ (a : Addr) (ns : List Int), xs = [.ref a] ∧ SqL K H a (ns.map V.int) ∧ 0 < ns.length ∧ ∀ m, m ∈ ns → (∀ y ∈ ns, y ≤ m) → Q (.int m) H
theorem rd_minL {K : PySem.W.Frag} {H : Hp} {Q : VK} {a : Addr} {ns : List Int} (h : SqL K H a (ns.map V.int)) (hn : 0 < ns.length) (q : ∀ m, m ∈ ns → (∀ y ∈ ns, m ≤ y) → Q (.int m) H) : mMinL K [.ref a] H Q := by
  unfold mMinL
  exact ⟨a, ns, rfl, h, hn, q⟩
theorem rd_maxL {K : PySem.W.Frag} {H : Hp} {Q : VK} {a : Addr} {ns : List Int} (h : SqL K H a (ns.map V.int)) (hn : 0 < ns.length) (q : ∀ m, m ∈ ns → (∀ y ∈ ns, y ≤ m) → Q (.int m) H) : mMaxL K [.ref a] H Q := by
  unfold mMaxL
  exact ⟨a, ns, rfl, h, hn, q⟩
theorem call_minLM {X : Cx} (hc : X.calm = true) : CallR X (.builtin "min") (mMinL X.K) := fun pins s σ H xs us Q I r q => cr_min hc pins s σ H xs us Q I r (by
  unfold mMinL at q
  exact q)
theorem call_maxLM {X : Cx} (hc : X.calm = true) : CallR X (.builtin "max") (mMaxL X.K) := fun pins s σ H xs us Q I r q => cr_max hc pins s σ H xs us Q I r (by
  unfold mMaxL at q
  exact q)
/-! ### d.pop(k), k there -/
@[irreducible] def mDPop (x y : V) (H : Hp) (Q : VK) : Prop := ∃ a kvs k v, x = .ref a ∧ y = kV k ∧ H a = some (.dK kvs) ∧ valV kvs k = some v ∧ Q v (upd H a (.dK (dropK kvs k)))
theorem rd_dpop {a : Addr} {kvs : List (Key × V)} {n : Int} {v : V} {H : Hp} {Q : VK} (h : H a = some (.dK kvs)) (e : valV kvs (.inl n) = some v) (q : Q v (upd H a (.dK (dropK kvs (.inl n))))) : mDPop (.ref a) (.int n) H Q := by
  unfold mDPop
  exact ⟨a, kvs, .inl n, v, rfl, rfl, h, e, q⟩
def mDPopE (td ty : TE) : TE := fun σ H Q => td σ H fun x H1 => ∃ a kvs, x = .ref a ∧ H1 a = some (.dK kvs) ∧ ty σ H1 fun y H2 => mDPop x y H2 Q
theorem pe_dpopM {X : Cx} {o e : Expr} {td ty : TE} {apos cpos : Pos} (ho : PE X o td) (he : PE X e ty) (hbase : attributeBase o "pop" X.env (eval o X.env) = eval o X.env := by rfl)
    (hfew : ((backTo cpos (starEach [e] X.env)).all (fun x => !x.1) && (backToKw cpos (keywordEach [] X.env)).all (fun x => x.1.isSome) && decide (([e] : List Expr).length + ([] : List Keyword).length + (if ([] : List Keyword).isEmpty then 0 else 1) < 30)) = true := by rfl)
    (hline : (apos.endLine == cpos.line) = true := by rfl) (htr : backTo cpos (starEach [e] X.env) = [(false, eval e X.env)] := by rfl) : PE X (.Call (.Attribute o "pop" apos) [e] [] cpos) (mDPopE td ty) :=
  pe_weak (pe_dpop1 (pe_c ho) (pe_c he) ⟨hbase, hfew, hline, htr⟩) fun σ H Q q => ⟨_, q, fun x H1 r => by
    obtain ⟨a, kvs, rfl, h, r⟩ := r
    refine ⟨a, rfl, .inl ⟨kvs, .inl h⟩, _, r, fun y H2 r => ?_⟩
    unfold mDPop at r
    obtain ⟨a2, kvs2, k, v, e1, e2, h2, e3, r⟩ := r
    cases e1
    exact ⟨kvs2, k, v, h2, e2, e3, r⟩⟩
/-! ### more walks of a comprehension -/
section
variable {K : PySem.W.Frag} {tt : TT} {te : TE} {σ : L2.St} {H1 : Hp} {Q : VK} {j : Nat}
/-- [new list for x in range(lo, ..)] -/
theorem wl_newR {lo : Int} {n : Nat} (f : Nat → List Int) (hn : n ≤ 100000) (ht : ∀ i : Nat, i < n → ∀ (H' : Hp) (R : VK), Same H1 H' → NewO (.lst ((f i).map V.int)) H' R → te ((wipe σ [j]).set j (some (.int (lo + (i : Nat))))) H' R)
    (hq : ∀ D qs H', H1 D = none → Cpy H1 D qs ((List.range n).map f) H' → Q (.ref D) H') : LcWP (Itr lo n) (gName j) tYes te [j] σ Q H1 := by
  refine wl_rng hn fun D hD => ⟨fun i acc H' => ∃ qs, acc = qs.map V.ref ∧ Cpy H1 D qs ((List.range i).map f) H', ⟨[], rfl, same_upd hD, upd_same, .nil, fun q hq => (nomatch hq), List.nodup_nil⟩, fun i acc H' hi ha h2 p => ?_, fun acc H' ha h2 p => ?_⟩
  · obtain ⟨qs, rfl, p⟩ := p
    show _ ∧ _
    refine ⟨wipe_set rfl, ?_⟩
    show Br true _ _
    refine br_T (ht i hi H' _ p.sm fun q H'' nq s eq => ⟨s _ _ h2, qs ++ [q], by rw [List.map_append]; rfl, ?_⟩)
    rw [List.range_succ, List.map_append]
    exact p.next hD nq s eq
  · obtain ⟨qs, rfl, p⟩ := p
    exact hq D qs H' hD p
/-- [x for x in cs if t], whole numbers -/
theorem wl_filtI {a : Addr} (cs : List Int) (keep : Int → Bool) (hx : SqL K H1 a (cs.map V.int)) (hn : cs.length ≤ 100000) (ht : ∀ n, n ∈ cs → ∀ (H' : Hp) (R : Bool → Hp → Prop), Same H1 H' → (∀ H'', Same H' H'' → R (keep n) H'') → tt ((wipe σ [j]).set j (some (.int n))) H' R)
    (he : ∀ n, n ∈ cs → ∀ (H' : Hp) (R : VK), R (.int n) H' → te ((wipe σ [j]).set j (some (.int n))) H' R) (hq : NewO (.lst ((cs.filter keep).map V.int)) H1 Q) : LcWP (Itl K a) (gName j) tt te [j] σ Q H1 := by
  refine wl_list (cs.map V.int) (by rw [List.length_map]; exact hn) fun D hD => ⟨fun i acc H' => acc = ((cs.take i).filter keep).map V.int ∧ Same H1 H', ⟨rfl, same_upd hD⟩, fun i acc H' _ _ _ p => p.2.seq hx, fun i acc y H' hi ha h2 p => ?_, fun acc H' ha h2 p => ?_⟩
  · obtain ⟨rfl, p⟩ := p
    rw [List.getElem?_map] at hi
    obtain ⟨n, hn2, rfl⟩ := Option.map_eq_some_iff.mp hi
    have hin := List.mem_of_getElem? hn2
    show _ ∧ _
    refine ⟨wipe_set rfl, ht n hin H' _ p fun H2 s2 => ?_⟩
    cases hb : keep n with
    | true =>
      refine br_T (he n hin H2 _ ⟨s2 _ _ h2, ?_, same_mut (p.trans s2) hD⟩)
      rw [take_snoc hn2, List.filter_append, List.map_append, List.filter_cons, if_pos hb]
      rfl
    | false =>
      refine br_F ⟨s2 _ _ h2, ?_, p.trans s2⟩
      rw [take_snoc hn2, List.filter_append, List.filter_cons, if_neg (by rw [hb]; decide), List.filter_nil, List.append_nil]
  · obtain ⟨rfl, p⟩ := p
    rw [List.length_map, List.take_length] at h2
    exact hq D H' hD p h2
end
/-- all numbers below n stand in a list: it is as long -/
theorem below_len : ∀ (n : Nat) (cs : List Int), (∀ m : Nat, m < n → (m : Int) ∈ cs) → n ≤ cs.length
  | 0, _, _ => Nat.zero_le _
  | n + 1, cs, h => by
    have h1 : (n : Int) ∈ cs := h n (Nat.lt_succ_self n)
    have h2 := below_len n (cs.erase (n : Int)) fun m hm => (List.mem_erase_of_ne (by omega)).mpr (h m (by omega))
    have h3 := List.length_erase_of_mem h1
    have h4 : 0 < cs.length := List.length_pos_of_mem h1
    omega
/-! ### an if whose test is told by what it comes to -/
@[irreducible] def mIfC (c : TT) (t u : TS) : TS := fun D σ H => ∃ R : Bool → Hp → Prop, c σ H R ∧ ∀ b H1, R b H1 → Br b (t D σ H1) (u D σ H1)
theorem rd_ifC {c : TT} {t u : TS} {D : Ends} {σ : L2.St} {H : Hp} (R : Bool → Hp → Prop) (h : c σ H R) (k : ∀ b H1, R b H1 → Br b (t D σ H1) (u D σ H1)) : mIfC c t u D σ H := by
  unfold mIfC
  exact ⟨R, h, k⟩
theorem ps_ifC {X : Cx} {c : Expr} {bs us : List Stmt} {pos : Pos} {tt : TT} {t u : TS} (hc : PT X c tt) (ha : PSs X bs t) (hb : PSs X us u) : PS X (.If c bs us pos) (mIfC tt t u) := ps_weak (ps_if (pt_c hc) ha hb) fun D σ H q => by
  unfold mIfC at q
  obtain ⟨R, h, k⟩ := q
  exact ⟨R, h, fun b H1 r => (k b H1 r).un⟩
/-! ### an if whose test is told by what it comes to, and whose ends are joined -/
@[irreducible] def mIfCJ (c : TT) (t u : TS) : TS := fun D σ H => ∃ (R : Bool → Hp → Prop) (P : L2.St → Hp → Prop), c σ H R ∧ (∀ H1, R true H1 → t { D with nx := P } σ H1) ∧ (∀ H1, R false H1 → u { D with nx := P } σ H1) ∧ ∀ σ' H', P σ' H' → D.nx σ' H'
theorem rd_ifCJ {c : TT} {t u : TS} {D : Ends} {σ : L2.St} {H : Hp} (R : Bool → Hp → Prop) (P : L2.St → Hp → Prop) (h : c σ H R) (h1 : ∀ H1, R true H1 → t { D with nx := P } σ H1) (h2 : ∀ H1, R false H1 → u { D with nx := P } σ H1) (k : ∀ σ' H', P σ' H' → D.nx σ' H') : mIfCJ c t u D σ H := by
  unfold mIfCJ
  exact ⟨R, P, h, h1, h2, k⟩
theorem ps_ifCJ {X : Cx} {c : Expr} {bs us : List Stmt} {pos : Pos} {tt : TT} {t u : TS} (hc : PT X c tt) (ha : PSs X bs t) (hb : PSs X us u) : PS X (.If c bs us pos) (mIfCJ tt t u) := ps_weak (ps_if (pt_c hc) (pss_c ha) (pss_c hb)) fun D σ H q => by
  unfold mIfCJ at q
  obtain ⟨R, P, h, h1, h2, k⟩ := q
  refine ⟨R, h, fun b H1 r => ?_⟩
  cases b with
  | true => exact iteT ⟨P, h1 H1 r, k⟩
  | false => exact iteF ⟨P, h2 H1 r, k⟩
end My
namespace My
open PySem L2
/-! ### C(e, ..) that may raise, within a try -/
def tMakeS (C : Addr) (sp : Sp) (E : L2.St → XK) (t : TA) : TE := fun σ H Q => t σ H fun vs H1 => ∀ x dx, H1 x = none → H1 dx = none → dx ≠ x → sp (.ref x :: vs) (upd (upd H1 dx (.own x)) x (.ins C dx [])) (fun v H2 => v = .non ∧ Q (.ref x) H2) (E σ)
section
open PySem.Spec PyProof.Rows
variable {X : Cx} {CX : CXT} {k : Nat} {C f : Addr} {fd : FuncData} {ps : List Str} {sp : Sp} {E : L2.St → XK} {x : Str} {e : Expr} {es : List Expr} {t : TA} {p pos : Pos}
theorem run_makeS {pins : List (Addr × Obj)} {σ : L2.St} {H : Hp} {s : Shared} {Q : VK} {us : List Value} {vs : List V} (M : Mk X.K C f) (F : FnOk X.prog X.w X.K X.mg X.base CX k f fd ps sp) (hr : Room (k + 1) X.A) (hb : Binds X.K fd ps [])
    (hx : PassesAt CX X σ (E σ)) (I : Inv X pins σ H s) (r : Vals vs us)
    (h : ∀ x dx, H x = none → H dx = none → dx ≠ x → sp (.ref x :: vs) (upd (upd H dx (.own x)) x (.ins C dx [])) (fun v H2 => v = .non ∧ Q (.ref x) H2) (E σ)) :
    wpAny (model X.prog X.w) X.A (call (.ref C) us) (EP X pins σ Q) X.xe s := by
  have hq := h (s.heap.objs.size + 1) s.heap.objs.size (I.hok.fresh (Nat.le_succ _)) (I.hok.fresh (Nat.le_refl _)) (Nat.ne_of_lt (Nat.lt_succ_self _))
  have I2 := Inv.made (C := C) I
  have r2 : Vals (V.ref (s.heap.objs.size + 1) :: vs) (Value.ref (s.heap.objs.size + 1) :: us) := .cons rfl r
  have hl : (Value.ref (s.heap.objs.size + 1) :: us ++ []).length = ps.length := by
    have e := r2.length
    rw [F.len _ _ _ _ hq] at e
    rw [List.append_nil]
    exact e.symm
  have b := hb _ (Value.ref (s.heap.objs.size + 1) :: us) I2.kIn hl
  rw [List.append_nil] at b
  refine wpAny_call (make_map (f := f) I.kIn M.makes M.init (beq_iff_eq.mp M.fn) (codeAny_mono (F.run _ X.stack _ _ ⟨Value.ref (s.heap.objs.size + 1) :: us, []⟩ (Value.ref (s.heap.objs.size + 1) :: us) _ _ (E σ) (hr.make C us [])
    (I2.env0.make C us []) b r2 hq) fun r s' hq' => ?_))
  cases r with
  | error e => exact hx pins _ _ e s' I2 hq'
  | ok fl =>
    cases fl with
    | ret u =>
      obtain ⟨v, H', I3, rv, ev, q3⟩ := I2.after hq'
      subst ev
      exact ⟨rv, ⟨V.ref (s.heap.objs.size + 1), H', I3, rfl, q3⟩⟩
    | next => exact False.elim hq'
    | brk => exact False.elim hq'
    | cont => exact False.elim hq'
theorem pe_makeS (M : Mk X.K C f) (F : FnOk X.prog X.w X.K X.mg X.base CX k f fd ps sp) (hr : Room (k + 1) X.A) (hg : Gl X x) (hm : X.mg x = some (.ref C)) (hb : Binds X.K fd ps []) (hx : ∀ σ, PassesAt CX X σ (E σ))
    (ha : PA X (e :: es) t) (hdb : (x == ("__debug__" : Str)) = false := by decide) (he : starEach (e :: es) X.env = (false, eval e X.env) :: starEach es X.env := by rfl) (hpl : (backTo pos (starEach es X.env)).any (·.1) = false := by rfl) :
    PE X (.Call (.Name x p) (e :: es) [] pos) (tMakeS C sp E t) := by
  refine ⟨fun pins s σ H Q I h => ?_⟩
  refine wpAny_Call_Name_kw (ld_glob I hg hm ?_ hdb)
  refine PySem.W.callWith_K (h₀ := X.base) I.ok.mod.kin M.kp (thn (ha.run pos pins s σ H _ I h) fun us s1 ⟨vs, H1, I1, r, q⟩ => ⟨I1.kIn, ?_⟩) he hpl
  exact run_makeS M F hr hb (hx σ) I1 r q
end
/-! ### an expression told by what it comes to -/
@[irreducible] def mSay (te : TE) : TE := cTE te
theorem pe_say {X : Cx} {e : Expr} {te : TE} (h : PE X e te) : PE X e (mSay te) := by
  unfold mSay
  exact pe_c h
theorem rd_say {te : TE} {σ : L2.St} {H : Hp} {Q : VK} (P : VK) (h : te σ H P) (k : ∀ v H', P v H' → Q v H') : mSay te σ H Q := by
  unfold mSay
  exact ⟨P, h, k⟩
/-! ### the places of a list of truths that are true -/
def trues (ws : List Bool) : List Nat := (List.range ws.length).filter fun i => ws.getD i false
abbrev natI (as : List Nat) : List Int := as.map fun i : Nat => (i : Int)
theorem wl_enumB {K : PySem.W.Frag} {i1 i2 : Nat} {tt : TT} {te : TE} {σ : L2.St} {H1 : Hp} {Q : VK} {a : Addr} (ws : List Bool) (hx : SqL K H1 a (ws.map V.bl)) (hn : ws.length ≤ 100000) (h12 : i1 ≠ i2)
    (ht : ∀ (i : Nat) (b : Bool), ws[i]? = some b → ∀ (H' : Hp) (R : Bool → Hp → Prop), Same H1 H' → (∀ H'', Same H' H'' → R b H'') → tt (((wipe σ [i1, i2]).set i1 (some (.int (i : Nat)))).set i2 (some (.bl b))) H' R)
    (he : ∀ (i : Nat) (b : Bool), ws[i]? = some b → ∀ (H' : Hp) (R : VK), R (.int (i : Nat)) H' → te (((wipe σ [i1, i2]).set i1 (some (.int (i : Nat)))).set i2 (some (.bl b))) H' R)
    (hq : NewO (.lst ((natI (trues ws)).map V.int)) H1 Q) : LcWP (Ite K a) (gTup K 2 (gCons (gName i1) (gCons (gName i2) gNil))) tt te [i1, i2] σ Q H1 := by
  unfold LcWP
  refine ⟨(ws.map V.bl).length, _, _, walk_enum (K := K) (a := a) (xs := ws.map V.bl), by rw [List.length_map]; exact hn, fun D hD => ?_⟩
  refine ⟨fun i acc H' => acc = (natI ((List.range i).filter fun k => ws.getD k false)).map V.int ∧ Same H1 H', ⟨rfl, same_upd hD⟩, fun i acc H' _ _ _ p => p.2.seq hx, fun i acc x H' H'' hi ha h2 p y => ?_, fun acc H' ha h2 p => ?_⟩
  · obtain ⟨rfl, p⟩ := p
    obtain ⟨T, u, v, rfl, hT, rfl, e1, e2⟩ := y
    cases e1
    have e2 : (ws.map V.bl)[i]? = some v := e2
    rw [List.getElem?_map] at e2
    obtain ⟨b, hb, rfl⟩ := Option.map_eq_some_iff.mp e2
    have eb : ws.getD i false = b := by
      rw [List.getD_eq_getElem?_getD, hb]
      rfl
    have hDT : D ≠ T := fun e => by
      rw [e, hT] at h2
      cases h2
    refine ⟨T, [.int (i : Nat), .bl b], rfl, st_of upd_same, rfl, .int (i : Nat), [.bl b], rfl, .bl b, [], rfl, rfl, wipe2 h12, ?_⟩
    have s1 : Same H' (upd H' T (.tup [.int (i : Nat), .bl b])) := same_upd hT
    refine ht i b hb _ _ (p.trans s1) fun H2 s2 => ?_
    cases b with
    | true =>
      refine br_T (he i true hb H2 _ ⟨s2 _ _ (s1 _ _ h2), ?_, same_mut ((p.trans s1).trans s2) hD⟩)
      rw [List.range_succ, List.filter_append, List.filter_cons, if_pos eb]
      simp
    | false =>
      refine br_F ⟨s2 _ _ (s1 _ _ h2), ?_, (p.trans s1).trans s2⟩
      rw [List.range_succ, List.filter_append, List.filter_cons, if_neg (by rw [eb]; decide), List.filter_nil, List.append_nil]
  · obtain ⟨rfl, p⟩ := p
    rw [List.length_map] at h2
    exact hq D H' hD p h2
theorem nodup_lt : ∀ (n : Nat) (as : List Nat), as.Nodup → (∀ a ∈ as, a < n) → as.length ≤ n
  | 0, [], _, _ => Nat.le_refl _
  | 0, a :: _, _, h => absurd (h a (.head _)) (Nat.not_lt_zero _)
  | n + 1, as, nd, h => by
    have h2 := nodup_lt n (as.erase n) (nd.erase n) fun a ha => by
      have h3 := (nd.mem_erase_iff).mp ha
      have h4 := h a h3.2
      have h5 := h3.1
      omega
    by_cases hm : n ∈ as
    · rw [List.length_erase_of_mem hm] at h2
      omega
    · rw [List.erase_of_not_mem hm] at h2
      omega
theorem trues_nd (ws : List Bool) : (trues ws).Nodup := List.nodup_range.filter _
theorem trues_lt {ws : List Bool} {i : Nat} (h : i ∈ trues ws) : i < ws.length := List.mem_range.mp (List.mem_filter.mp h).1
theorem trues_at {ws : List Bool} {i : Nat} : i ∈ trues ws ↔ i < ws.length ∧ ws.getD i false = true := by
  unfold trues
  rw [List.mem_filter, List.mem_range]
theorem trues_len (ws : List Bool) : (trues ws).length ≤ ws.length := nodup_lt _ _ (trues_nd ws) fun a h => trues_lt h
theorem range_map_getD {α β : Type} (l : List α) (d : α) (f : α → β) : (List.range l.length).map (fun i => f (l.getD i d)) = l.map f := by
  apply List.ext_getElem?
  intro i
  rw [List.getElem?_map, List.getElem?_map]
  by_cases h : i < l.length
  · rw [List.getElem?_range h, List.getElem?_eq_getElem h]
    show some (f (l.getD i d)) = some (f l[i])
    rw [List.getD_eq_getElem?_getD, List.getElem?_eq_getElem h]
    rfl
  · rw [List.getElem?_eq_none (by rw [List.length_range]; omega), List.getElem?_eq_none (by omega)]
    rfl
theorem at_get {xs : List V} {k : Nat} {v : V} (h : xs[k]? = some v) : atI xs (k : Int) = some v := at_of (j := k) (by omega) h
theorem at_bl {ws : List Bool} {k : Nat} (h : k < ws.length) : atI (ws.map V.bl) (k : Int) = some (V.bl (ws.getD k false)) := by
  refine at_get ?_
  rw [List.getElem?_map, List.getElem?_eq_getElem h, List.getD_eq_getElem?_getD, List.getElem?_eq_getElem h]
  rfl
theorem wl_rngF {j : Nat} {tt : TT} {te : TE} {σ : L2.St} {H1 : Hp} {Q : VK} {n : Nat} (keep : Nat → Bool) (hn : n ≤ 100000) (ht : ∀ i : Nat, i < n → ∀ (H' : Hp) (R : Bool → Hp → Prop), Same H1 H' → (∀ H'', Same H' H'' → R (keep i) H'') → tt ((wipe σ [j]).set j (some (.int (i : Nat)))) H' R)
    (he : ∀ i : Nat, i < n → ∀ (H' : Hp) (R : VK), R (.int (i : Nat)) H' → te ((wipe σ [j]).set j (some (.int (i : Nat)))) H' R) (hq : NewO (.lst ((natI ((List.range n).filter keep)).map V.int)) H1 Q) : LcWP (Itr 0 n) (gName j) tt te [j] σ Q H1 := by
  refine wl_rng hn fun D hD => ⟨fun i acc H' => acc = (natI ((List.range i).filter keep)).map V.int ∧ Same H1 H', ⟨rfl, same_upd hD⟩, fun i acc H' hi ha h2 p => ?_, fun acc H' ha h2 p => ?_⟩
  · obtain ⟨rfl, p⟩ := p
    rw [Int.zero_add]
    show _ ∧ _
    refine ⟨wipe_set rfl, ht i hi H' _ p fun H2 s2 => ?_⟩
    cases hb : keep i with
    | true =>
      refine br_T (he i hi H2 _ ⟨s2 _ _ h2, ?_, same_mut (p.trans s2) hD⟩)
      rw [List.range_succ, List.filter_append, List.filter_cons, if_pos hb]
      simp
    | false =>
      refine br_F ⟨s2 _ _ h2, ?_, p.trans s2⟩
      rw [List.range_succ, List.filter_append, List.filter_cons, if_neg (by rw [hb]; decide), List.filter_nil, List.append_nil]
  · obtain ⟨rfl, p⟩ := p
    exact hq D H' hD p h2
theorem rd_isiNB {K : PySem.W.Frag} {H : Hp} {Q : VK} (h : Q (.bl false) H) : mIsi K [.non, .ty "bool"] H Q := by
  unfold mIsi
  exact ⟨_, _, _, _, false, rfl, ClsV.ty _, TyX.base TyOf.non, by rfl, h⟩
theorem sum_set : ∀ (l : List Int) (i : Nat) (x : Int), i < l.length → (l.set i x).sum = l.sum - l.getD i 0 + x
  | [], i, x, h => absurd h (Nat.not_lt_zero _)
  | a :: l, 0, x, _ => by
    rw [List.set_cons_zero, List.sum_cons, List.sum_cons]
    show x + l.sum = a + l.sum - a + x
    omega
  | a :: l, i + 1, x, h => by
    have h2 := sum_set l i x (Nat.lt_of_succ_lt_succ h)
    rw [List.set_cons_succ, List.sum_cons, List.sum_cons, h2]
    show a + (l.sum - l.getD i 0 + x) = a + l.sum - l.getD i 0 + x
    omega
theorem rng1_ok {n : Nat} {A : Prop} (h : n ≤ 100000) (hA : A) : -(2 ^ 62) ≤ (n : Int) ∧ (n : Int) < 2 ^ 62 ∧ A := by
  have big : (2 : Int) ^ 62 = 4611686018427387904 := by decide
  rw [big]
  exact ⟨by omega, by omega, hA⟩
theorem rng2_ok {i j : Int} {A : Prop} (h : -100000 ≤ i ∧ i ≤ 100000 ∧ -100000 ≤ j ∧ j ≤ 100000) (hA : A) : (-(2 ^ 62) ≤ i ∧ i < 2 ^ 62 ∧ -(2 ^ 62) ≤ j ∧ j < 2 ^ 62) ∧ A := by
  have big : (2 : Int) ^ 62 = 4611686018427387904 := by decide
  rw [big]
  exact ⟨⟨by omega, by omega, by omega, by omega⟩, hA⟩
theorem map_getD_range {α : Type} (l : List α) (d : α) : (List.range l.length).map (fun i => l.getD i d) = l := (range_map_getD l d id).trans (List.map_id l)
/-- what is owned, in another order (is: the places) -/
theorem Own.reorder {S B0 B H : Hp} {as : List Addr} {l : List (Addr × HO)} (w : Own S B0 as B l H) (is : List Nat) (hn : l.length = is.length := by rfl) (h : is.Perm (List.range is.length) := by decide +kernel) : Own S B0 as B (is.map fun i => l.getD i (0, .lst [])) H := by
  refine w.perm ((h.map _).trans ?_)
  rw [← hn, map_getD_range]
theorem Own.pre {S B0 B H : Hp} {as : List Addr} {l l2 : List (Addr × HO)} (w : Own S B0 as B (l ++ l2) H) : Own S B0 as B l H := w.sub (fun _ hc => List.mem_append_left _ hc) (by
  have nd := w.c.nd
  rw [List.map_append] at nd
  exact (List.nodup_append.mp nd).1)
/-- some of what is owned (is: their places; rest: the others') -/
theorem Own.pick {S B0 B H : Hp} {as : List Addr} {l : List (Addr × HO)} (w : Own S B0 as B l H) (is rest : List Nat) (hn : l.length = (is ++ rest).length := by rfl) (h : (is ++ rest).Perm (List.range (is ++ rest).length) := by decide +kernel) : Own S B0 as B (is.map fun i => l.getD i (0, .lst [])) H := by
  have w2 := w.reorder _ hn h
  rw [List.map_append] at w2
  exact w2.pre
/-! ### for x in range(lo, hi, c) -/
@[irreducible] def mForR3 (ta : TA) (j : Nat) (tb : TS) : TS := fun D σ H => ta σ H fun ws H1 => ∃ (lo hi c : Int) (n : Nat) (Pv : Nat → L2.St → Hp → Prop), ws = [.int lo, .int hi, .int c] ∧ RgC lo hi c n ∧ Pv 0 σ H1 ∧
  (∀ i σ' H', i < n → Pv i σ' H' → tb { D with nx := Pv (i + 1), ct := Pv (i + 1), bk := D.nx } (σ'.set j (some (.int (lo + (i : Nat) * c)))) H') ∧ ∀ σ' H', Pv n σ' H' → D.nx σ' H'
theorem rd_forR3 {ta : TA} {j : Nat} {tb : TS} {D : Ends} {σ : L2.St} {H : Hp} (h : ta σ H fun ws H1 => ∃ (lo hi c : Int) (n : Nat) (Pv : Nat → L2.St → Hp → Prop), ws = [.int lo, .int hi, .int c] ∧ RgC lo hi c n ∧ Pv 0 σ H1 ∧
  (∀ i σ' H', i < n → Pv i σ' H' → tb { D with nx := Pv (i + 1), ct := Pv (i + 1), bk := D.nx } (σ'.set j (some (.int (lo + (i : Nat) * c)))) H') ∧ ∀ σ' H', Pv n σ' H' → D.nx σ' H') : mForR3 ta j tb D σ H := by
  unfold mForR3
  exact h
theorem ps_forR3 {X : Cx} {ta : TA} {pos : Pos} {j : Nat} {x : Str} {a b c : Expr} {body : List Stmt} {tb : TS} {p p2 xpos : Pos} (hp : PassesOwn (model X.prog X.w) X.A X.env X.xe) (hc : X.calm = true) (hg : Gl X "range") (hm : X.mg "range" = none) (ha : PA X [a, b, c] ta) (hgt : PG X (.Name x xpos) (gName j)) (hb : PSs X body tb)
    (hs : starEach [a, b, c] X.env = (false, eval a X.env) :: starEach [b, c] X.env := by rfl) (hpl : (backTo p2 (starEach [b, c] X.env)).any (·.1) = false := by rfl) (hs2 : ∀ y, foldedSetIterable (.Call (.Name "range" p) [a, b, c] [] p2) X.env y = pure y := by intro _; rfl) :
    PS X (.For (.Name x xpos) (.Call (.Name "range" p) [a, b, c] [] p2) body [] pos) (mForR3 ta j tb) :=
  ps_weak (ps_for hp hc (pi_range3 hg hm (pa_c ha) hs hpl) hgt hb hs2) fun D σ H q => by
    unfold mForR3 at q
    refine ⟨_, q, fun ws H1 r => ?_⟩
    obtain ⟨lo, hi, c, n, Pv, rfl, h1, h0, hs, hd⟩ := r
    refine ⟨lo, hi, c, n, rfl, h1, ?_⟩
    refine for_it (walk_rangeC (lo := lo) (c := c) (n := n)) Pv h0 (fun _ _ _ _ _ => trivial) (fun i x σ' H' H'' hi p y => ?_) hd
    obtain ⟨rfl, rfl⟩ := y
    exact hs i σ' _ hi p
end My

namespace My
open PySem L2
/-! ### the text by places -/
def topS (i : Nat) : Stmt := PySem.Challenge.pw_bearerwise_k38_whole_promises_are_kept.main.body.getD i (.Pass ⟨0, 0, 0, 0⟩)
abbrev S_u_wall : Stmt := topS 0
abbrev S_BearerError___init__ : Stmt := inClass (topS 2) 0
abbrev S_u_are_valid : Stmt := topS 5
abbrev S_Shares___init__ : Stmt := inClass (topS 6) 0
abbrev S_Shares__begin_round : Stmt := inClass (topS 6) 1
abbrev S_Shares_give : Stmt := inClass (topS 6) 2
abbrev S_Shares__choose_by_credit : Stmt := inClass (topS 6) 3
abbrev S_Shares_balances : Stmt := inClass (topS 6) 4
abbrev S_Shares_given : Stmt := inClass (topS 6) 5
abbrev S_Shares_place : Stmt := inClass (topS 6) 6
abbrev S_least_units : Stmt := topS 7
abbrev S_most_units : Stmt := topS 8
abbrev S_u_law_next : Stmt := topS 10
abbrev S_u_law_rounds : Stmt := topS 11
abbrev S_law : Stmt := topS 12
theorem sc_u_wall : FnScope ["k"] ["k"] (defScope S_u_wall) := ⟨rfl, rfl, rfl, by decide +kernel, rfl, by decide +kernel, by decide +kernel⟩
theorem sc_BearerError___init__ : FnScope ["self"] ["self"] (defScope S_BearerError___init__) := ⟨rfl, rfl, rfl, by decide +kernel, rfl, by decide +kernel, by decide +kernel⟩
theorem sc_u_are_valid : FnScope ["promises", "weights", "units"] ["promises", "weights", "units"] (defScope S_u_are_valid) := ⟨rfl, rfl, rfl, by decide +kernel, rfl, by decide +kernel, by decide +kernel⟩
theorem sc_Shares___init__ : FnScope ["self", "promises", "weights", "units"] ["self", "promises", "weights", "units"] (defScope S_Shares___init__) := ⟨rfl, rfl, rfl, by decide +kernel, rfl, by decide +kernel, by decide +kernel⟩
theorem sc_Shares__begin_round : FnScope ["self"] ["self"] (defScope S_Shares__begin_round) := ⟨rfl, rfl, rfl, by decide +kernel, rfl, by decide +kernel, by decide +kernel⟩
theorem sc_Shares_give : FnScope ["self", "waiting", "asking", "promised", "chosen", "number", "has_something"] ["self", "waiting"] (defScope S_Shares_give) := ⟨rfl, rfl, rfl, by decide +kernel, rfl, by decide +kernel, by decide +kernel⟩
theorem sc_Shares__choose_by_credit : FnScope ["self", "asking", "number", "greatest", "chosen"] ["self", "asking"] (defScope S_Shares__choose_by_credit) := ⟨rfl, rfl, rfl, by decide +kernel, rfl, by decide +kernel, by decide +kernel⟩
theorem sc_Shares_balances : FnScope ["self"] ["self"] (defScope S_Shares_balances) := ⟨rfl, rfl, rfl, by decide +kernel, rfl, by decide +kernel, by decide +kernel⟩
theorem sc_Shares_given : FnScope ["self"] ["self"] (defScope S_Shares_given) := ⟨rfl, rfl, rfl, by decide +kernel, rfl, by decide +kernel, by decide +kernel⟩
theorem sc_Shares_place : FnScope ["self"] ["self"] (defScope S_Shares_place) := ⟨rfl, rfl, rfl, by decide +kernel, rfl, by decide +kernel, by decide +kernel⟩
theorem sc_least_units : FnScope ["promise", "units", "n"] ["promise", "units", "n"] (defScope S_least_units) := ⟨rfl, rfl, rfl, by decide +kernel, rfl, by decide +kernel, by decide +kernel⟩
theorem sc_most_units : FnScope ["promise", "free", "units", "n"] ["promise", "free", "units", "n"] (defScope S_most_units) := ⟨rfl, rfl, rfl, by decide +kernel, rfl, by decide +kernel, by decide +kernel⟩
theorem sc_u_law_next : FnScope ["tape", "many", "rest", "cell"] ["tape", "many"] (defScope S_u_law_next) := ⟨rfl, rfl, rfl, by decide +kernel, rfl, by decide +kernel, by decide +kernel⟩
theorem sc_u_law_rounds : FnScope ["units", "n", "whole", "start", "rounds"] ["units", "n"] (defScope S_u_law_rounds) := ⟨rfl, rfl, rfl, by decide +kernel, rfl, by decide +kernel, by decide +kernel⟩
theorem sc_law : FnScope ["script", "tape", "many", "promises", "weights", "free", "units", "shares", "watched", "always", "got", "turn", "waiting", "start", "had", "end", "n", "least", "most", "k"] ["script"] (defScope S_law) := ⟨rfl, rfl, rfl, by decide +kernel, rfl, by decide +kernel, by decide +kernel⟩
/-! ### what the top has written -/
structure Tx (P : Program) (w : World) (K : PySem.W.Frag) (mg : Str → Option Value) (base : Heap) where
  n_len : mg "len" = none
  n_range : mg "range" = none
  n_abs : mg "abs" = none
  n_int : mg "int" = none
  n_sum : mg "sum" = none
  n_min : mg "min" = none
  n_max : mg "max" = none
  n_list : mg "list" = none
  n_enumerate : mg "enumerate" = none
  C_BearerError : Addr
  g_BearerError : mg "BearerError" = some (.ref C_BearerError)
  C_NotValid : Addr
  g_NotValid : mg "NotValid" = some (.ref C_NotValid)
  C_Shares : Addr
  g_Shares : mg "Shares" = some (.ref C_Shares)
  a_u_wall : Addr
  d_u_wall : FuncData
  p_u_wall : DefAt K mg "_wall" "_wall" S_u_wall ["k"] a_u_wall d_u_wall
  a_BearerError___init__ : Addr
  d_BearerError___init__ : FuncData
  p_BearerError___init__ : DefAt0 K "__init__" "BearerError.__init__" S_BearerError___init__ ["self"] a_BearerError___init__ d_BearerError___init__
  a_u_are_valid : Addr
  d_u_are_valid : FuncData
  p_u_are_valid : DefAt K mg "_are_valid" "_are_valid" S_u_are_valid ["promises", "weights", "units"] a_u_are_valid d_u_are_valid
  a_Shares___init__ : Addr
  d_Shares___init__ : FuncData
  p_Shares___init__ : MethAt K C_Shares "__init__" "Shares.__init__" S_Shares___init__ ["self", "promises", "weights", "units"] a_Shares___init__ d_Shares___init__
  a_Shares__begin_round : Addr
  d_Shares__begin_round : FuncData
  p_Shares__begin_round : MethAt K C_Shares "_begin_round" "Shares._begin_round" S_Shares__begin_round ["self"] a_Shares__begin_round d_Shares__begin_round
  a_Shares_give : Addr
  d_Shares_give : FuncData
  p_Shares_give : MethAt K C_Shares "give" "Shares.give" S_Shares_give ["self", "waiting"] a_Shares_give d_Shares_give
  a_Shares__choose_by_credit : Addr
  d_Shares__choose_by_credit : FuncData
  p_Shares__choose_by_credit : MethAt K C_Shares "_choose_by_credit" "Shares._choose_by_credit" S_Shares__choose_by_credit ["self", "asking"] a_Shares__choose_by_credit d_Shares__choose_by_credit
  a_Shares_balances : Addr
  d_Shares_balances : FuncData
  p_Shares_balances : MethAt K C_Shares "balances" "Shares.balances" S_Shares_balances ["self"] a_Shares_balances d_Shares_balances
  a_Shares_given : Addr
  d_Shares_given : FuncData
  p_Shares_given : MethAt K C_Shares "given" "Shares.given" S_Shares_given ["self"] a_Shares_given d_Shares_given
  a_Shares_place : Addr
  d_Shares_place : FuncData
  p_Shares_place : MethAt K C_Shares "place" "Shares.place" S_Shares_place ["self"] a_Shares_place d_Shares_place
  a_least_units : Addr
  d_least_units : FuncData
  p_least_units : DefAt K mg "least_units" "least_units" S_least_units ["promise", "units", "n"] a_least_units d_least_units
  a_most_units : Addr
  d_most_units : FuncData
  p_most_units : DefAt K mg "most_units" "most_units" S_most_units ["promise", "free", "units", "n"] a_most_units d_most_units
  a_u_law_next : Addr
  d_u_law_next : FuncData
  p_u_law_next : DefAt K mg "_law_next" "_law_next" S_u_law_next ["tape", "many"] a_u_law_next d_u_law_next
  a_u_law_rounds : Addr
  d_u_law_rounds : FuncData
  p_u_law_rounds : DefAt K mg "_law_rounds" "_law_rounds" S_u_law_rounds ["units", "n"] a_u_law_rounds d_u_law_rounds
  a_law : Addr
  d_law : FuncData
  p_law : DefAt K mg "law" "law" S_law ["script"] a_law d_law
  o_BearerError : OexC K C_BearerError
  i_BearerError : PySem.W.findIn K (.ref C_BearerError) "__init__" = some (some (.ref a_BearerError___init__))
  t_BearerError : PySem.W.typeIn K (.ref a_BearerError___init__) = some (.type "function")
  e_BearerError : ExcC K C_BearerError
  s_BearerError_BearerError : PySem.W.subIn K (.ref C_BearerError) (.ref C_BearerError) = some true
  s_BearerError_NotValid : PySem.W.subIn K (.ref C_BearerError) (.ref C_NotValid) = some false
  y_BearerError : PySem.W.typeIn K (.ref C_BearerError) = some (.type "type")
  l_BearerError : PySem.W.isClsIn K C_BearerError = true
  o_NotValid : OexC K C_NotValid
  i_NotValid : PySem.W.findIn K (.ref C_NotValid) "__init__" = some (some (.ref a_BearerError___init__))
  t_NotValid : PySem.W.typeIn K (.ref a_BearerError___init__) = some (.type "function")
  e_NotValid : ExcC K C_NotValid
  s_NotValid_BearerError : PySem.W.subIn K (.ref C_NotValid) (.ref C_BearerError) = some true
  s_NotValid_NotValid : PySem.W.subIn K (.ref C_NotValid) (.ref C_NotValid) = some true
  y_NotValid : PySem.W.typeIn K (.ref C_NotValid) = some (.type "type")
  l_NotValid : PySem.W.isClsIn K C_NotValid = true
  k_Shares : ClsAt K C_Shares a_Shares___init__
  f_Shares__promises : NoAttr K C_Shares "_promises"
  f_Shares__weights : NoAttr K C_Shares "_weights"
  f_Shares__units : NoAttr K C_Shares "_units"
  f_Shares__credits : NoAttr K C_Shares "_credits"
  f_Shares__given : NoAttr K C_Shares "_given"
  f_Shares__place : NoAttr K C_Shares "_place"
/-! ### the walk's own steps -/
local macro_rules | `(tactic| walk_at "side") => `(tactic| first
  | exact rfl
  | assumption
  | omega
  | decide
  | exact Nat.le_of_ble_eq_true rfl
  | exact ⟨by omega, by omega⟩
  | exact ⟨by omega, by omega, by omega⟩
  | exact Or.inl ⟨by omega, by omega⟩
  | exact Or.inr ⟨by omega, by omega⟩)
local macro_rules | `(tactic| walk_at "sm") => `(tactic| first
  | assumption
  | exact Same.refl _
  | (apply Own.imm; assumption)
  | (apply Own.same; assumption)
  | (refine Same.trans ?_ (by assumption); walk_at "sm")
  | (apply Same.trans; rotate_left; (apply Own.imm; assumption); walk_at "sm")
  | (apply Same.trans; rotate_left; (apply Own.same; assumption); walk_at "sm"))
local macro_rules | `(tactic| walk_at "mem") => `(tactic| first
  | exact List.Mem.head _
  | (apply List.Mem.tail; walk_at "mem"))
local macro_rules | `(tactic| walk_at "nn") => `(tactic| first
  | assumption
  | (refine same_none (?_ : Same _ _) (by assumption); walk_at "sm"))
local macro_rules | `(tactic| walk_at "hp") => `(tactic| first
  | assumption
  | (apply Own.mem; assumption; walk_at "mem")
  | (apply hp_step; assumption; walk_at "sm"))
local macro_rules | `(tactic| walk_at "sq") => `(tactic| first
  | assumption
  | (apply sq_of; assumption)
  | (apply st_of; assumption)
  | (apply sq_step; assumption; walk_at "sm")
  | (apply sqt_step; assumption; walk_at "sm")
  | (apply sq_of; walk_at "hp")
  | (apply st_of; walk_at "hp"))
local macro_rules | `(tactic| walk_at "rd") => `(tactic| first
  | refine ⟨_, rfl, ?_⟩
  | refine ⟨_, _, rfl, rfl, ?_⟩
  | refine Or.inl ⟨_, rfl, ?_⟩
  | refine Or.inr ⟨_, rfl, ?_⟩
  | refine ⟨_, _, _, rfl, ?_⟩
  | with_reducible refine br_nonI ?_
  | with_reducible refine br_nonR ?_
  | with_reducible refine br_nonN ?_
  | with_reducible refine br_xnonI ?_
  | with_reducible refine br_xnonR ?_
  | with_reducible refine br_xnonN ?_
  | refine And.intro (by walk_at "side") ?_
  | refine rd_tup ?_
  | refine rd_lst ?_
  | with_reducible refine br_F ?_
  | with_reducible refine br_T ?_
  | with_reducible refine br_nF ?_
  | with_reducible refine br_nT ?_
  | refine ⟨_, rfl, rfl, ?_⟩
  | with_reducible refine rd_yes ?_
  | refine rd_isiIB ?_
  | refine rd_isiII ?_
  | refine rd_getF (by walk_at "hp") rfl ?_
  | refine rd_ins (by walk_at "hp") rfl ?_
  | refine rd_din (by walk_at "hp") ?_
  | refine rd_dnotin (by walk_at "hp") ?_
  | refine rd_truB ?_
  | refine rd_truL (by walk_at "sq") ?_
  | refine rd_sum (by walk_at "sq") ?_
  | refine rd_lenI (by walk_at "sq") ?_
  | refine rd_len (by walk_at "sq") ?_
  | refine ⟨_, _, rfl, (show _ = some _ from by walk_at "hp"), ?_⟩)

section
variable {P : Program} {w : World} {K : PySem.W.Frag} {mg : Str → Option Value} {base : Heap}
theorem ok_BearerError___init__ (T : Tx P w K mg base) : FnOk P w K mg base CX0 1 T.a_BearerError___init__ T.d_BearerError___init__ ["self"] spInit0 := by
  refine T.p_BearerError___init__.F.ok sc_BearerError___init__ (fun vs H Q E h => ?_) (fun cdv A outer s H vs Q E hr h => ?_)
  · obtain ⟨a, rfl, _⟩ := h
    rfl
  · obtain ⟨a, rfl, q⟩ := h
    exact ⟨_, pss_one ps_pass, q⟩
theorem Tx.x_BearerError (T : Tx P w K mg base) : PlainExc P w K mg base "BearerError" T.C_BearerError T.a_BearerError___init__ T.d_BearerError___init__ := ⟨T.o_BearerError, T.i_BearerError, T.t_BearerError, ok_BearerError___init__ T, T.p_BearerError___init__.b, T.g_BearerError⟩
theorem Tx.m_BearerError_BearerError (T : Tx P w K mg base) : PySem.W.exmOne K (.ref T.C_BearerError) (.ref T.C_BearerError) = some true := PySem.W.exm_ref T.o_BearerError.exC T.e_BearerError.hd T.y_BearerError T.s_BearerError_BearerError
theorem Tx.m_BearerError_NotValid (T : Tx P w K mg base) : PySem.W.exmOne K (.ref T.C_BearerError) (.ref T.C_NotValid) = some false := PySem.W.exm_ref T.o_NotValid.exC T.e_NotValid.hd T.y_NotValid T.s_BearerError_NotValid
theorem Tx.x_NotValid (T : Tx P w K mg base) : PlainExc P w K mg base "NotValid" T.C_NotValid T.a_BearerError___init__ T.d_BearerError___init__ := ⟨T.o_NotValid, T.i_NotValid, T.t_NotValid, ok_BearerError___init__ T, T.p_BearerError___init__.b, T.g_NotValid⟩
theorem Tx.m_NotValid_BearerError (T : Tx P w K mg base) : PySem.W.exmOne K (.ref T.C_NotValid) (.ref T.C_BearerError) = some true := PySem.W.exm_ref T.o_BearerError.exC T.e_BearerError.hd T.y_BearerError T.s_NotValid_BearerError
theorem Tx.m_NotValid_NotValid (T : Tx P w K mg base) : PySem.W.exmOne K (.ref T.C_NotValid) (.ref T.C_NotValid) = some true := PySem.W.exm_ref T.o_NotValid.exC T.e_NotValid.hd T.y_NotValid T.s_NotValid_NotValid
/-- the law's tape: its cells, the next one, what is left of it, the seed -/
def sp_u_law_next (K : PySem.W.Frag) : Sp := fun vs H Q _ => ∃ (t a : Addr) (ns : List Int) (i r s' many : Int), vs = [.ref t, .int many] ∧ H t = some (.lst [.ref a, .int i, .int r, .int s']) ∧ SqL K H a (ns.map V.int) ∧ (0 ≤ i ∧ i ≤ (ns.length : Int)) ∧ 0 ≤ r ∧ (0 ≤ s' ∧ s' < 2147483647) ∧ (1 ≤ many ∧ many ≤ 1000) ∧
  ∀ (x i' r' z : Int), 0 ≤ x → x < many → (0 ≤ i' ∧ i' ≤ (ns.length : Int)) → 0 ≤ r' → (0 ≤ z ∧ z < 2147483647) → Q (.int x) (upd H t (.lst [.ref a, .int i', .int r', .int z]))
@[irreducible] def ip_u_law_next (K : PySem.W.Frag) : Sp := sp_u_law_next K
theorem op_u_law_next {K : PySem.W.Frag} {vs : List V} {H : Hp} {Q : VK} {E : XK} (h : sp_u_law_next K vs H Q E) : ip_u_law_next K vs H Q E := by
  unfold ip_u_law_next
  exact h
theorem un_u_law_next {K : PySem.W.Frag} {vs : List V} {H : Hp} {Q : VK} {E : XK} (h : ip_u_law_next K vs H Q E) : sp_u_law_next K vs H Q E := by
  unfold ip_u_law_next at h
  exact h
theorem ok_u_law_next (T : Tx P w K mg base) : FnOk P w K mg base CX0 1 T.a_u_law_next T.d_u_law_next ["tape", "many"] (ip_u_law_next K) := by
  refine T.p_u_law_next.F.ok sc_u_law_next (fun vs H Q E h => ?_) (fun cdv A outer s H vs Q E hr h => ?_)
  · obtain ⟨t, a, ns, i, r, s', many, rfl, hT, hS, hi, hr0, hs0, hm, q⟩ := un_u_law_next h
    rfl
  · obtain ⟨t, a, ns, i, r, s', many, rfl, hT, hS, hi, hr0, hs0, hm, q⟩ := un_u_law_next h
    refine ⟨_, (pss_cons (ps_set (i := 2) sc_u_law_next.nd rfl (Or.inl rfl) (pe_ix ix_listM (pv 0) pe_int (fun _ _ => rfl))) (pss_cons (ps_ifM (pt_cmpR op_eq (pv 2) pe_int (nomark _)) (pss_cons (ps_set (i := 3) sc_u_law_next.nd rfl (Or.inl rfl) pe_int) (pss_cons (ps_ifJ (pt_cmpR op_ltM (pe_ix ix_listM (pv 0) pe_int (fun _ _ => rfl)) (pe_callB call_lenM (by rfl) T.n_len PySem.boot_len (pa_cons (pe_ix ix_listM (pv 0) pe_int (fun _ _ => rfl)) pa_nil)) (nomark _)) (pss_cons (ps_set (i := 3) sc_u_law_next.nd rfl (Or.inl rfl) (pe_callB call_abs (by rfl) T.n_abs (by decide +kernel) (pa_cons (pe_callTy call_int1 (by rfl) T.n_int (by decide +kernel) (pa_cons (pe_ix ix_listM (pe_ix ix_listM (pv 0) pe_int (fun _ _ => rfl)) (pe_ix ix_listM (pv 0) pe_int (fun _ _ => rfl)) (fun _ _ => rfl)) pa_nil)) pa_nil))) (pss_one (ps_asg (pe_op op_addM (pe_ix ix_listM (pv 0) pe_int (fun _ _ => rfl)) pe_int) (pg_sub (pv 0) pe_int set_listM)))) pss_nil) (pss_cons (ps_set (i := 2) sc_u_law_next.nd rfl (Or.inl rfl) (pv 3)) (pss_one (ps_ifM (pt_cmpR op_ltM (pv 3) (pe_op op_powM pe_int pe_int) (nomark _)) (pss_cons (ps_asg (pe_op op_modM (pe_callTy call_int1 (by rfl) T.n_int (by decide +kernel) (pa_cons (pe_op op_addM (pe_op op_addM (pe_op op_mulM (pe_ix ix_listM (pv 0) pe_int (fun _ _ => rfl)) pe_int) (pe_op op_mulM (pv 3) pe_int)) pe_int) pa_nil)) pe_int) (pg_sub (pv 0) pe_int set_listM)) (pss_one (ps_ret (pe_op op_modM (pe_op op_modM (pe_callTy call_int1 (by rfl) T.n_int (by decide +kernel) (pa_cons (pe_op op_mulM (pe_op op_fdivM (pe_ix ix_listM (pv 0) pe_int (fun _ _ => rfl)) pe_int) pe_int) pa_nil)) pe_int) (pv 1))))) pss_nil))))) pss_nil) (pss_cons (ps_asg (pe_op op_fdivM (pv 2) (pv 1)) (pg_sub (pv 0) pe_int set_listM)) (pss_one (ps_ret (pe_op op_modM (pe_callTy call_int1 (by rfl) T.n_int (by decide +kernel) (pa_cons (pv 2) pa_nil)) (pv 1))))))), ?_⟩
    have self : upd H t (.lst [.ref a, .int i, .int r, .int s']) = H := by
      funext b
      by_cases e : b = t
      · rw [e, upd_same, hT]
      · rw [upd_ne e]
    (repeat walk_at "rd")
    refine rd_ixL (sq_of hT) rfl ?_
    (repeat walk_at "rd")
    refine br_eby (fun h => ?_) (fun h => ?_)
    · (repeat walk_at "rd")
      refine rd_ixL (sq_of hT) rfl ?_
      (repeat walk_at "rd")
      refine rd_ixL (sq_of hT) rfl ?_
      (repeat walk_at "rd")
      refine rd_ifJ (fun σ' H' => Stop (∃ (i' cell : Int), (0 ≤ i' ∧ i' ≤ (ns.length : Int)) ∧ 0 ≤ cell ∧ H' = upd H t (.lst [.ref a, .int i', .int r, .int s']) ∧ σ' = [some (.ref t), some (.int many), some (.int r), some (.int cell)])) (fun h1 => ?_) (fun h1 => ?_) (fun σ' H' w => ?_)
      · have h1 := of_decide_eq_true h1
        (repeat walk_at "rd")
        refine rd_ixL (sq_of hT) rfl ?_
        (repeat walk_at "rd")
        refine rd_ixL (sq_of hT) rfl ?_
        (repeat walk_at "rd")
        refine rd_ixI hS hi.1 h1 ?_
        have hc : ∃ c : Int, (if ns.getD i.toNat 0 < 0 then -ns.getD i.toNat 0 else ns.getD i.toNat 0) = c ∧ 0 ≤ c := by
          refine ⟨_, rfl, ?_⟩
          split <;> omega
        obtain ⟨c, ec, hc0⟩ := hc
        (repeat walk_at "rd")
        rw [ec]
        refine rd_ixL (sq_of hT) rfl ?_
        (repeat walk_at "rd")
        refine rd_setL hT (by decide) (by exact Int.lt_of_lt_of_le (by decide : (1 : Int) < 4) (Int.le_refl _)) ?_
        refine .a ⟨i + 1, c, ⟨by omega, by omega⟩, hc0, rfl, rfl⟩
      · exact .a ⟨i, 0, hi, Int.le_refl _, self.symm, rfl⟩
      obtain ⟨i', cell, hi', hc0, rfl, rfl⟩ := w.un
      have hT2 : upd H t (.lst [.ref a, .int i', .int r, .int s']) t = some (.lst [.ref a, .int i', .int r, .int s']) := upd_same
      (repeat walk_at "rd")
      refine br_by (fun h2 => ?_) (fun h2 => ?_)
      · (repeat walk_at "rd")
        refine rd_ixL (sq_of hT2) rfl ?_
        (repeat walk_at "rd")
        refine rd_setL hT2 (by decide) (by exact Int.lt_of_lt_of_le (by decide : (3 : Int) < 4) (Int.le_refl _)) ?_
        rw [upd_upd]
        generalize hz : (s' * 69621 + cell * 40692 + 17) % 2147483647 = z
        have hz0 : 0 ≤ z ∧ z < 2147483647 := by omega
        have hT3 : upd H t (.lst [.ref a, .int i', .int r, .int z]) t = some (.lst [.ref a, .int i', .int r, .int z]) := upd_same
        (repeat walk_at "rd")
        refine rd_ixL (sq_of hT3) rfl ?_
        (repeat walk_at "rd")
        exact q _ i' r z (Int.emod_nonneg _ (by omega)) (Int.emod_lt_of_pos _ (by omega)) hi' hr0 hz0
      · (repeat walk_at "rd")
        refine rd_setL hT2 (by decide) (by exact Int.lt_of_lt_of_le (by decide : (2 : Int) < 4) (Int.le_refl _)) ?_
        (repeat walk_at "rd")
        rw [upd_upd]
        exact q (cell % many) i' (cell / many) s' (Int.emod_nonneg _ (by omega)) (Int.emod_lt_of_pos _ (by omega)) hi' (Int.ediv_nonneg hc0 (by omega)) hs0
    · (repeat walk_at "rd")
      refine rd_setL hT (by decide) (by exact Int.lt_of_lt_of_le (by decide : (2 : Int) < 4) (Int.le_refl _)) ?_
      (repeat walk_at "rd")
      exact q (r % many) i (r / many) s' (Int.emod_nonneg _ (by omega)) (Int.emod_lt_of_pos _ (by omega)) hi (Int.ediv_nonneg hr0 (by omega)) hs0
end
def tapeL (a : Addr) (i r z : Int) : HO := .lst [.ref a, .int i, .int r, .int z]
structure TapeOk2 (ns : List Int) (i r z : Int) : Prop where
  i : 0 ≤ i ∧ i ≤ (ns.length : Int)
  r : 0 ≤ r
  z : 0 ≤ z ∧ z < 2147483647
section
variable {P : Program} {w : World} {K : PySem.W.Frag} {mg : Str → Option Value} {base : Heap}
end
/-- only the tape has moved -/
structure TpN (t a : Addr) (ns : List Int) (H H' : Hp) : Prop where
  tp : ∃ i r z, TapeOk2 ns i r z ∧ H' t = some (tapeL a i r z)
  but : ∀ b o, b ≠ t → H b = some o → H' b = some o
theorem TpN.start {t a : Addr} {ns : List Int} {H : Hp} {i r z : Int} (ok : TapeOk2 ns i r z) (h : H t = some (tapeL a i r z)) : TpN t a ns H H := ⟨⟨i, r, z, ok, h⟩, fun _ _ _ h => h⟩
theorem TpN.trans {t a : Addr} {ns : List Int} {H H1 H2 : Hp} (h : TpN t a ns H H1) (k : TpN t a ns H1 H2) : TpN t a ns H H2 := ⟨k.tp, fun b o hb e => k.but b o hb (h.but b o hb e)⟩
theorem TpN.more {t a : Addr} {ns : List Int} {H H1 H2 : Hp} (h : TpN t a ns H H1) (s : Same H1 H2) : TpN t a ns H H2 := by
  obtain ⟨i, r, z, ok, e⟩ := h.tp
  exact ⟨⟨i, r, z, ok, s _ _ e⟩, fun b o hb e => s _ _ (h.but b o hb e)⟩
theorem TpN.seq {K : PySem.W.Frag} {t a b : Addr} {ns : List Int} {H H1 : Hp} {xs : List V} (h : TpN t a ns H H1) (hb : b ≠ t) (k : SqL K H b xs) : SqL K H1 b xs := by
  rcases k with (k | ⟨o, k⟩) | k
  · exact sq_of (h.but _ _ hb k)
  · exact .inl (.inr ⟨o, h.but _ _ hb k⟩)
  · exact .inr k
/-- the promise of _law_next, told by TpN -/
theorem next_tp {K : PySem.W.Frag} {t a : Addr} {ns : List Int} {H : Hp} {many : Int} {Q : VK} {E : XK} (hT : ∃ i r z, TapeOk2 ns i r z ∧ H t = some (tapeL a i r z)) (hS : SqL K H a (ns.map V.int)) (hm : 1 ≤ many ∧ many ≤ 1000)
    (q : ∀ (x : Int) (H' : Hp), 0 ≤ x → x < many → TpN t a ns H H' → Q (.int x) H') : ip_u_law_next K [.ref t, .int many] H Q E := by
  obtain ⟨i, r, z, ok, e⟩ := hT
  refine op_u_law_next ⟨t, a, ns, i, r, z, many, rfl, e, hS, ok.i, ok.r, ok.z, hm, fun x i' r' z' h0 h1 h2 h3 h4 => q x _ h0 h1 ⟨⟨i', r', z', ⟨h2, h3, h4⟩, upd_same⟩, fun b o hb hh => ?_⟩⟩
  rw [upd_ne hb]
  exact hh
/-- a comprehension over range whose turns move the tape alone -/
theorem wl_tape {t a : Addr} {ns : List Int} {j : Nat} {te : TE} {σ : L2.St} {H1 : Hp} {Q : VK} {n : Nat} (P : V → Prop) (hn : n ≤ 100000) (h0 : TpN t a ns H1 H1)
    (he : ∀ i : Nat, i < n → ∀ (H' : Hp) (R : VK), TpN t a ns H1 H' → (∀ y H4, P y → TpN t a ns H' H4 → R y H4) → te ((wipe σ [j]).set j (some (.int (i : Nat)))) H' R)
    (hq : ∀ D xs H', H1 D = none → xs.length = n → (∀ x ∈ xs, P x) → TpN t a ns H1 H' → H' D = some (.lst xs) → Q (.ref D) H') : LcWP (Itr 0 n) (gName j) tYes te [j] σ Q H1 := by
  have ht : ∃ o, H1 t = some o := by
    obtain ⟨i, r, z, ok, e⟩ := h0.tp
    exact ⟨_, e⟩
  have updn : ∀ {D : Addr} {o : HO} {H2 : Hp}, H1 D = none → TpN t a ns H1 H2 → TpN t a ns H1 (upd H2 D o) := fun {D o H2} hD h => by
    obtain ⟨i, r, z, ok, e⟩ := h.tp
    have hDt : t ≠ D := fun z => by
      obtain ⟨o, ho⟩ := ht
      rw [z, hD] at ho
      cases ho
    refine ⟨⟨i, r, z, ok, by rw [upd_ne hDt]; exact e⟩, fun b o hb hh => ?_⟩
    have hbD : b ≠ D := fun z => by
      rw [z, hD] at hh
      cases hh
    rw [upd_ne hbD]
    exact h.but b o hb hh
  refine wl_rng hn fun D hD => ⟨fun i acc H' => acc.length = i ∧ (∀ x ∈ acc, P x) ∧ TpN t a ns H1 H', ⟨rfl, fun x hx => (nomatch hx), updn hD h0⟩, fun i acc H' hi ha h2 p => ?_, fun acc H' ha h2 p => hq D acc H' hD p.1 p.2.1 p.2.2 h2⟩
  obtain ⟨p1, p2, p3⟩ := p
  have hDt : D ≠ t := fun z => by
    obtain ⟨o, ho⟩ := ht
    rw [← z, hD] at ho
    cases ho
  rw [Int.zero_add]
  show _ ∧ _
  refine ⟨wipe_set rfl, ?_⟩
  show Br true _ _
  refine br_T (he i hi H' _ p3 fun y H4 hy h4 => ⟨h4.but _ _ hDt h2, ?_, fun x hx => ?_, updn hD (p3.trans h4)⟩)
  · rw [List.length_append, p1]
    rfl
  · rcases List.mem_append.mp hx with hx | hx
    · exact p2 x hx
    · rw [List.mem_singleton.mp hx]
      exact hy
theorem ints_of {p : Int → Prop} : ∀ {xs : List V}, (∀ x ∈ xs, ∃ n, x = .int n ∧ p n) → ∃ ns : List Int, xs = ns.map V.int ∧ ∀ n ∈ ns, p n
  | [], _ => ⟨[], rfl, fun n hn => (nomatch hn)⟩
  | x :: r, h => by
    obtain ⟨n, rfl, hn⟩ := h x (.head _)
    obtain ⟨ns, rfl, hns⟩ := ints_of (xs := r) fun y hy => h y (.tail _ hy)
    exact ⟨n :: ns, rfl, fun m hm => (List.mem_cons.mp hm).elim (fun e => e ▸ hn) (hns m)⟩
theorem bls_of : ∀ {xs : List V}, (∀ x ∈ xs, ∃ b, x = .bl b) → ∃ bs : List Bool, xs = bs.map V.bl
  | [], _ => ⟨[], rfl⟩
  | x :: r, h => by
    obtain ⟨n, rfl⟩ := h x (.head _)
    obtain ⟨ns, rfl⟩ := bls_of (xs := r) fun y hy => h y (.tail _ hy)
    exact ⟨n :: ns, rfl⟩
/-- what is owned, behind a move of the tape -/
theorem Own.tape {S B0 B H H' : Hp} {as : List Addr} {l : List (Addr × HO)} {t a : Addr} {ns : List Int} {o : HO} (w : Own S B0 as B ((t, o) :: l) H) (h : TpN t a ns H H') : ∃ i r z, TapeOk2 ns i r z ∧ Own S B0 as B ((t, tapeL a i r z) :: l) H' := by
  obtain ⟨i, r, z, ok, e⟩ := h.tp
  refine ⟨i, r, z, ok, ⟨⟨fun b u hb => ?_, w.c.nd, fun b u hb => h.but b u (fun z => ?_) (w.imm _ _ hb), fun b u hb => ?_⟩, fun b u hb hs => h.but b u (fun z => ?_) (w.kept b u hb hs), fun b u hb => ?_, w.grow, w.new, fun b hb => ?_⟩⟩
  · rcases List.mem_cons.mp hb with hb | hb
    · cases hb
      exact e
    · exact h.but b u (nd_ne w.c.nd hb) (w.mem (.tail _ hb))
  · have := w.c.dis t o (.head _)
    rw [← z, hb] at this
    cases this
  · rcases List.mem_cons.mp hb with hb | hb
    · cases hb
      exact w.c.dis t o (.head _)
    · exact w.c.dis b u (.tail _ hb)
  · subst z
    rcases w.own b o (.head _) with h1 | h1
    · exact hb h1
    · rw [h1] at hs
      cases hs
  · rcases List.mem_cons.mp hb with hb | hb
    · cases hb
      exact w.own t o (.head _)
    · exact w.own b u (.tail _ hb)
  · by_cases z : b = t
    · rw [z, e]
      exact fun y => nomatch y
    · have h1 := w.there b hb
      cases h2 : H b with
      | none => exact absurd h2 h1
      | some u =>
        rw [h.but b u z h2]
        exact fun y => nomatch y
/-- and a list that is new -/
theorem Own.tapeD {S B0 B H H' : Hp} {as : List Addr} {l : List (Addr × HO)} {t a D : Addr} {ns : List Int} {o u : HO} (w : Own S B0 as B ((t, o) :: l) H) (h : TpN t a ns H H') (hD : H D = none) (e : H' D = some u) :
    ∃ B' i r z, Same B B' ∧ B' D = some u ∧ TapeOk2 ns i r z ∧ Own S B0 as B' ((t, tapeL a i r z) :: l) H' := by
  obtain ⟨i, r, z, ok, w2⟩ := w.tape h
  obtain ⟨B', s1, s2, w3⟩ := w2.adopt2 [D] fun p hp => by
    rw [List.mem_singleton.mp hp]
    refine ⟨(w.frS hD).1, by rw [e]; exact fun y => (nomatch y), fun hm => ?_⟩
    have hm : D ∈ ((t, o) :: l).map Prod.fst := hm
    obtain ⟨v, hv⟩ := fst_mem hm
    exact w.notin hD hv
  exact ⟨B', i, r, z, s1, (s2 D (.head _)).trans e, ok, w3⟩
section
variable {P : Program} {w : World} {K : PySem.W.Frag} {mg : Str → Option Value} {base : Heap}
end
/-- as wl_tape, with what holds of each turn's value -/
theorem wl_tapeI {t a : Addr} {ns : List Int} {j : Nat} {te : TE} {σ : L2.St} {H1 : Hp} {Q : VK} {n : Nat} (P : Nat → V → Prop) (hn : n ≤ 100000) (h0 : TpN t a ns H1 H1)
    (he : ∀ i : Nat, i < n → ∀ (H' : Hp) (R : VK), TpN t a ns H1 H' → (∀ y H4, P i y → TpN t a ns H' H4 → R y H4) → te ((wipe σ [j]).set j (some (.int (i : Nat)))) H' R)
    (hq : ∀ D xs H', H1 D = none → xs.length = n → (∀ i x, xs[i]? = some x → P i x) → TpN t a ns H1 H' → H' D = some (.lst xs) → Q (.ref D) H') : LcWP (Itr 0 n) (gName j) tYes te [j] σ Q H1 := by
  have ht : ∃ o, H1 t = some o := by
    obtain ⟨i, r, z, ok, e⟩ := h0.tp
    exact ⟨_, e⟩
  have updn : ∀ {D : Addr} {o : HO} {H2 : Hp}, H1 D = none → TpN t a ns H1 H2 → TpN t a ns H1 (upd H2 D o) := fun {D o H2} hD h => by
    obtain ⟨i, r, z, ok, e⟩ := h.tp
    have hDt : t ≠ D := fun z => by
      obtain ⟨o, ho⟩ := ht
      rw [z, hD] at ho
      cases ho
    refine ⟨⟨i, r, z, ok, by rw [upd_ne hDt]; exact e⟩, fun b o hb hh => ?_⟩
    have hbD : b ≠ D := fun z => by
      rw [z, hD] at hh
      cases hh
    rw [upd_ne hbD]
    exact h.but b o hb hh
  refine wl_rng hn fun D hD => ⟨fun i acc H' => acc.length = i ∧ (∀ i x, acc[i]? = some x → P i x) ∧ TpN t a ns H1 H', ⟨rfl, fun i x hx => (by cases hx), updn hD h0⟩, fun i acc H' hi ha h2 p => ?_, fun acc H' ha h2 p => hq D acc H' hD p.1 p.2.1 p.2.2 h2⟩
  obtain ⟨p1, p2, p3⟩ := p
  have hDt : D ≠ t := fun z => by
    obtain ⟨o, ho⟩ := ht
    rw [← z, hD] at ho
    cases ho
  rw [Int.zero_add]
  show _ ∧ _
  refine ⟨wipe_set rfl, ?_⟩
  show Br true _ _
  refine br_T (he i hi H' _ p3 fun y H4 hy h4 => ⟨h4.but _ _ hDt h2, ?_, fun k x hx => ?_, updn hD (p3.trans h4)⟩)
  · rw [List.length_append, p1]
    rfl
  · by_cases hk : k < acc.length
    · rw [List.getElem?_append_left hk] at hx
      exact p2 k x hx
    · rw [List.getElem?_append_right (by omega)] at hx
      have h1 : k - acc.length = 0 := by
        by_cases h : k - acc.length = 0
        · exact h
        · rw [List.getElem?_eq_none (by show 1 ≤ _; omega)] at hx
          cases hx
      rw [h1] at hx
      cases hx
      have : k = i := by omega
      rw [this]
      exact hy
theorem bls_ofI {p : Nat → Bool → Prop} : ∀ {xs : List V}, (∀ i x, xs[i]? = some x → ∃ b, x = .bl b ∧ p i b) → ∃ bs : List Bool, xs = bs.map V.bl ∧ ∀ i b, bs[i]? = some b → p i b := fun {xs} h => by
  obtain ⟨bs, rfl⟩ := bls_of (xs := xs) fun x hx => by
    obtain ⟨i, hi⟩ := List.getElem?_of_mem hx
    obtain ⟨b, hb, _⟩ := h i x hi
    exact ⟨b, hb⟩
  refine ⟨bs, rfl, fun i b hb => ?_⟩
  obtain ⟨b', e, hp⟩ := h i (.bl b) (by rw [List.getElem?_map, hb]; rfl)
  cases e
  exact hp
section
variable {P : Program} {w : World} {K : PySem.W.Frag} {mg : Str → Option Value} {base : Heap}
end
/-! shares: the mirror -/
structure ShS where
  P : List Int
  W : List Int
  R : Int
  C : List Int
  G : List Int
  n : Int
structure ShAd where
  p : Addr
  dx : Addr
  pa : Addr
  wa : Addr
  ca : Addr
  ga : Addr
def ShS.fs (s : ShS) (A : ShAd) : List (Str × V) := [("_promises", .ref A.pa), ("_weights", .ref A.wa), ("_units", .int s.R), ("_credits", .ref A.ca), ("_given", .ref A.ga), ("_place", .int s.n)]
abbrev shcells (C : Addr) (A : ShAd) (s : ShS) : List (Addr × HO) := [(A.p, .ins C A.dx (s.fs A)), (A.ca, .lst (s.C.map V.int)), (A.ga, .lst (s.G.map V.int))]
structure ShB (A : ShAd) (s : ShS) (B : Hp) : Prop where
  p : B A.pa = some (.lst (s.P.map V.int))
  w : B A.wa = some (.lst (s.W.map V.int))
theorem ShB.mono {A : ShAd} {s : ShS} {B B' : Hp} (h : ShB A s B) (m : Same B B') : ShB A s B' := ⟨m _ _ h.p, m _ _ h.w⟩
def shOk (P W : List Int) (R : Int) : Bool := decide (P.length = W.length) && (decide (P ≠ []) && (decide (1 ≤ R) && (P.all (fun p => decide (0 ≤ p)) && (W.all (fun w => decide (1 ≤ w)) && decide (P.sum ≤ R)))))
structure ShOk (s : ShS) : Prop where
  ok : shOk s.P s.W s.R = true
  lc : s.C.length = s.P.length
  lg : s.G.length = s.P.length
  ln : s.P.length ≤ 10
  n0 : 0 ≤ s.n ∧ s.n < s.R
def ask1 (s : ShS) (as : List Nat) : List Nat := as.filter fun i => decide (s.G.getD i 0 < s.P.getD i 0)
def addC (C W : List Int) (as : List Nat) : List Int := (List.range C.length).map fun i => if i ∈ as then C.getD i 0 + W.getD i 0 else C.getD i 0
def sumW (W : List Int) (as : List Nat) : Int := (as.map fun i => W.getD i 0).sum
/-- the least of those that ask with the greatest credit -/
structure IsBest (C : List Int) (as : List Nat) (b : Nat) : Prop where
  i : b ∈ as
  top : ∀ j ∈ as, C.getD j 0 ≤ C.getD b 0
  least : ∀ j ∈ as, C.getD j 0 = C.getD b 0 → b ≤ j
theorem IsBest.un {C : List Int} {as : List Nat} {b b' : Nat} (h : IsBest C as b) (h' : IsBest C as b') : b = b' := by
  have h1 := h.top b' h'.i
  have h2 := h'.top b h.i
  have h3 := h.least b' h'.i (by omega)
  have h4 := h'.least b h.i (by omega)
  omega
def payC (C W : List Int) (as : List Nat) (b : Nat) : List Int := (addC C W as).set b ((addC C W as).getD b 0 - sumW W as)
/-- who gets the unit, and the credits behind it -/
structure Who (s : ShS) (as : List Nat) (k : Nat) (C : List Int) : Prop where
  pr : ∀ i r, ask1 s as = i :: r → k = i ∧ C = s.C
  fr : ask1 s as = [] → IsBest (addC s.C s.W as) as k ∧ C = payC s.C s.W as k
def stepF (s : ShS) (k : Nat) (C : List Int) : ShS := if s.n + 1 = s.R then ⟨s.P, s.W, s.R, C, List.replicate s.P.length 0, 0⟩ else ⟨s.P, s.W, s.R, C, s.G.set k (s.G.getD k 0 + 1), s.n + 1⟩
theorem dec_int {x y : Int} : decide (V.int x = V.int y) = decide (x = y) := by
  by_cases h : x = y
  · rw [h, decide_eq_true rfl, decide_eq_true rfl]
  · rw [decide_eq_false h, decide_eq_false fun e => h (V.int.inj e)]
theorem addC_len (C W : List Int) (as : List Nat) : (addC C W as).length = C.length := by
  unfold addC
  rw [List.length_map, List.length_range]
theorem addC_get {C W : List Int} {as : List Nat} {k : Nat} (h : k < C.length) : (addC C W as).getD k 0 = if k ∈ as then C.getD k 0 + W.getD k 0 else C.getD k 0 := by
  unfold addC
  rw [List.getD_eq_getElem?_getD, List.getElem?_map, List.getElem?_range h]
  rfl
theorem addC_nil (C W : List Int) : addC C W [] = C := by
  apply List.ext_getElem?
  intro i
  by_cases h : i < C.length
  · have h2 := @addC_get C W [] i h
    rw [if_neg (fun z => nomatch z)] at h2
    rw [List.getElem?_eq_getElem h, List.getElem?_eq_getElem (by rw [addC_len]; exact h)]
    rw [List.getD_eq_getElem?_getD, List.getElem?_eq_getElem (by rw [addC_len]; exact h), List.getD_eq_getElem?_getD, List.getElem?_eq_getElem h] at h2
    exact congrArg some h2
  · rw [List.getElem?_eq_none (by rw [addC_len]; omega), List.getElem?_eq_none (by omega)]
theorem addC_snoc {C W : List Int} {as : List Nat} {a : Nat} (ha : a ∉ as) (hl : a < C.length) : addC C W (as ++ [a]) = (addC C W as).set a ((addC C W as).getD a 0 + W.getD a 0) := by
  apply List.ext_getElem?
  intro i
  rw [List.getElem?_set, addC_len]
  by_cases h : i < C.length
  · have e1 : (addC C W (as ++ [a]))[i]? = some ((addC C W (as ++ [a])).getD i 0) := by
      rw [List.getD_eq_getElem?_getD, List.getElem?_eq_getElem (by rw [addC_len]; exact h)]
      rfl
    have e2 : (addC C W as)[i]? = some ((addC C W as).getD i 0) := by
      rw [List.getD_eq_getElem?_getD, List.getElem?_eq_getElem (by rw [addC_len]; exact h)]
      rfl
    rw [e1, e2, addC_get h, addC_get h, addC_get hl]
    by_cases e : a = i
    · subst e
      rw [if_pos (List.mem_append_right _ (.head _)), if_neg ha, if_pos rfl, if_pos h]
    · rw [if_neg e]
      by_cases hm : i ∈ as
      · rw [if_pos (List.mem_append_left _ hm), if_pos hm]
      · rw [if_neg hm, if_neg (fun z => (List.mem_append.mp z).elim hm fun y => e (List.mem_singleton.mp y).symm)]
  · rw [List.getElem?_eq_none (by rw [addC_len]; omega)]
    have hne : ¬ a = i := by omega
    rw [if_neg hne, List.getElem?_eq_none (by rw [addC_len]; omega)]
section
variable {P : Program} {w : World} {K : PySem.W.Frag} {mg : Str → Option Value} {base : Heap}
def sp_u_are_valid (K : PySem.W.Frag) : Sp := fun vs H Q _ => ∃ (pa wa : Addr) (P W : List Int) (R : Int), vs = [.ref pa, .ref wa, .int R] ∧ SqL K H pa (P.map V.int) ∧ SqL K H wa (W.map V.int) ∧ Q (.bl (shOk P W R)) H
theorem all_min {ns : List Int} {m d : Int} (h1 : m ∈ ns) (h2 : ∀ y ∈ ns, m ≤ y) : ns.all (fun p => decide (d ≤ p)) = decide (d ≤ m) := by
  by_cases h : d ≤ m
  · rw [decide_eq_true h]
    exact List.all_eq_true.mpr fun x hx => decide_eq_true (Int.le_trans h (h2 x hx))
  · rw [decide_eq_false h]
    exact List.all_eq_false.mpr ⟨m, h1, by rw [decide_eq_false h]; decide⟩
@[irreducible] def ip_u_are_valid (K : PySem.W.Frag) : Sp := sp_u_are_valid K
theorem op_u_are_valid {K : PySem.W.Frag} {vs : List V} {H : Hp} {Q : VK} {E : XK} (h : sp_u_are_valid K vs H Q E) : ip_u_are_valid K vs H Q E := by
  unfold ip_u_are_valid
  exact h
theorem un_u_are_valid {K : PySem.W.Frag} {vs : List V} {H : Hp} {Q : VK} {E : XK} (h : ip_u_are_valid K vs H Q E) : sp_u_are_valid K vs H Q E := by
  unfold ip_u_are_valid at h
  exact h
theorem ok_u_are_valid (T : Tx P w K mg base) : FnOk P w K mg base CX0 1 T.a_u_are_valid T.d_u_are_valid ["promises", "weights", "units"] (ip_u_are_valid K) := by
  refine T.p_u_are_valid.F.ok sc_u_are_valid (fun vs H Q E h => ?_) (fun cdv A outer s H vs Q E hr h => ?_)
  · obtain ⟨pa, wa, P, W, R, rfl, hP, hW, q⟩ := un_u_are_valid h
    rfl
  · obtain ⟨pa, wa, P, W, R, rfl, hP, hW, q⟩ := un_u_are_valid h
    refine ⟨_, (pss_cons (ps_ifM (PW.pt (pw_orM (pt_cmpR op_ne (pe_callB call_lenM (by rfl) T.n_len PySem.boot_len (pa_cons (pv 0) pa_nil)) (pe_callB call_lenM (by rfl) T.n_len PySem.boot_len (pa_cons (pv 1) pa_nil)) (nomark _)) (pw_orM (pt_cmpR op_eq (pe_callB call_lenM (by rfl) T.n_len PySem.boot_len (pa_cons (pv 0) pa_nil)) pe_int (nomark _)) (pw_or1 (pt_cmpR op_ltM (pv 2) pe_int (nomark _)))))) (pss_one (ps_ret pe_bl)) pss_nil) (pss_one (ps_ret (pe_andM (pe_cmpR op_geM (pe_callB (call_minLM rfl) (by rfl) T.n_min (by decide +kernel) (pa_cons (pv 0) pa_nil)) pe_int (nomark _)) (pe_andM (pe_cmpR op_geM (pe_callB (call_minLM rfl) (by rfl) T.n_min (by decide +kernel) (pa_cons (pv 1) pa_nil)) pe_int (nomark _)) (pe_one (pe_cmpR op_leM (pe_callB (call_sumM rfl) (by rfl) T.n_sum (by decide +kernel) (pa_cons (pv 0) pa_nil)) (pv 2) (nomark _)))))))), ?_⟩
    unfold shOk at q
    (repeat walk_at "rd")
    refine br_enby (fun h => ?_) (fun h => ?_)
    · rw [decide_eq_false (show ¬ P.length = W.length by omega)] at q
      (repeat walk_at "rd")
      exact q
    rw [decide_eq_true (show P.length = W.length by omega)] at q
    (repeat walk_at "rd")
    refine br_eby (fun h2 => ?_) (fun h2 => ?_)
    · have e : P = [] := List.length_eq_zero_iff.mp (by omega)
      subst e
      (repeat walk_at "rd")
      exact q
    have hP0 : 0 < P.length := by omega
    rw [decide_eq_true (show P ≠ [] from fun e => by rw [e] at hP0; exact absurd hP0 (Nat.lt_irrefl 0))] at q
    (repeat walk_at "rd")
    refine br_by (fun h3 => ?_) (fun h3 => ?_)
    · rw [decide_eq_false (show ¬ 1 ≤ R by omega)] at q
      (repeat walk_at "rd")
      exact q
    rw [decide_eq_true (show 1 ≤ R by omega)] at q
    (repeat walk_at "rd")
    refine rd_minL hP hP0 (fun m hm hle => ?_)
    rw [all_min hm hle] at q
    (repeat walk_at "rd")
    refine br_by (fun h4 => ?_) (fun h4 => ?_)
    · rw [decide_eq_true h4] at q
      (repeat walk_at "rd")
      refine rd_minL hW (by omega) (fun m2 hm2 hle2 => ?_)
      rw [all_min hm2 hle2] at q
      (repeat walk_at "rd")
      refine br_by (fun h5 => ?_) (fun h5 => ?_)
      · rw [decide_eq_true h5] at q
        (repeat walk_at "rd")
        exact q
      · rw [decide_eq_false h5] at q
        (repeat walk_at "rd")
        exact q
    · rw [decide_eq_false h4] at q
      (repeat walk_at "rd")
      exact q
end
/-- a list stays where only an instance changes -/
theorem sq_notp {K : PySem.W.Frag} {H H' : Hp} {a p C dx : Addr} {fs : List (Str × V)} {xs : List V} (h : SqL K H a xs) (hp : H p = some (.ins C dx fs)) (k : ∀ b o, b ∉ [p] → H b = some o → H' b = some o) : SqL K H' a xs := by
  rcases h with (h | ⟨o, h⟩) | h
  · exact sq_of (k a _ (fun z => by rw [List.mem_singleton.mp z, hp] at h; cases h) h)
  · exact .inl (.inr ⟨o, k a _ (fun z => by rw [List.mem_singleton.mp z, hp] at h; cases h) h⟩)
  · exact .inr h
section
variable {P : Program} {w : World} {K : PySem.W.Frag} {mg : Str → Option Value} {base : Heap}
def sp_Shares__begin_round (K : PySem.W.Frag) (C : Addr) : Sp := fun vs H Q _ => ∃ (p dx : Addr) (fs : List (Str × V)) (pa : Addr) (P : List Int), vs = [.ref p] ∧ H p = some (.ins C dx fs) ∧ fs.lookup ("_promises" : Str) = some (V.ref pa) ∧ SqL K H pa (P.map V.int) ∧ fs.length ≤ 900 ∧ P.length ≤ 1000 ∧
  ∀ (ga : Addr) (H1 : Hp), H ga = none → Same H H1 → H1 ga = some (.lst ((List.replicate P.length (0 : Int)).map V.int)) → Q .non (upd H1 p (.ins C dx (putF ("_place" : Str) (V.int 0) (putF ("_given" : Str) (V.ref ga) fs))))
theorem rep1I (n : Nat) (x : Int) : (List.replicate n [V.int x]).flatten = (List.replicate n x).map V.int := by
  induction n with
  | zero => rfl
  | succ n ih =>
    rw [List.replicate_succ, List.flatten_cons, ih, List.replicate_succ, List.map_cons]
    rfl
theorem putF_len (f : Str) (v : V) : ∀ fs : List (Str × V), (putF f v fs).length ≤ fs.length + 1
  | [] => Nat.le_refl _
  | (g, u) :: r => by
    unfold putF
    split
    · exact Nat.le_succ _
    · have := putF_len f v r
      rw [List.length_cons, List.length_cons]
      omega
@[irreducible] def ip_Shares__begin_round (K : PySem.W.Frag) (C : Addr) : Sp := sp_Shares__begin_round K C
theorem op_Shares__begin_round {K : PySem.W.Frag} {C : Addr} {vs : List V} {H : Hp} {Q : VK} {E : XK} (h : sp_Shares__begin_round K C vs H Q E) : ip_Shares__begin_round K C vs H Q E := by
  unfold ip_Shares__begin_round
  exact h
theorem un_Shares__begin_round {K : PySem.W.Frag} {C : Addr} {vs : List V} {H : Hp} {Q : VK} {E : XK} (h : ip_Shares__begin_round K C vs H Q E) : sp_Shares__begin_round K C vs H Q E := by
  unfold ip_Shares__begin_round at h
  exact h
theorem ok_Shares__begin_round (T : Tx P w K mg base) : FnOk P w K mg base CX0 1 T.a_Shares__begin_round T.d_Shares__begin_round ["self"] (ip_Shares__begin_round K T.C_Shares) := by
  refine T.p_Shares__begin_round.F.ok sc_Shares__begin_round (fun vs H Q E h => ?_) (fun cdv A outer s H vs Q E hr h => ?_)
  · obtain ⟨p, dx, fs, pa, P, rfl, hp, hl, hP, hf, hn, q⟩ := un_Shares__begin_round h
    rfl
  · obtain ⟨p, dx, fs, pa, P, rfl, hp, hl, hP, hf, hn, q⟩ := un_Shares__begin_round h
    refine ⟨_, (pss_cons (ps_fldM (pv 0) (pe_op op_repM (pe_lstM (pa_cons pe_int pa_nil)) (pe_callB call_lenM (by rfl) T.n_len PySem.boot_len (pa_cons (pe_fldM (pv 0) T.k_Shares.cl T.f_Shares__promises) pa_nil))) T.k_Shares.cl T.f_Shares__given) (pss_one (ps_fldM (pv 0) pe_int T.k_Shares.cl T.f_Shares__place))), ?_⟩
    (repeat walk_at "rd")
    intro t1 H1 n1 s1 e1
    (repeat walk_at "rd")
    refine rd_getF (s1 _ _ hp) hl ?_
    (repeat walk_at "rd")
    refine rd_rep e1 (by omega) (by omega) (by show 1 * _ ≤ _; omega) ?_
    intro ga H2 n2 s2 e2
    (repeat walk_at "rd")
    have s12 := s1.trans s2
    have e2' : H2 ga = some (.lst ((List.replicate P.length (0 : Int)).map V.int)) := by
      rw [e2, Int.toNat_natCast]
      show some (HO.lst (List.replicate P.length [V.int 0]).flatten) = _
      rw [rep1I]
    refine rd_putF (s12 _ _ hp) (by omega) rfl ?_
    (repeat walk_at "rd")
    have hl2 := putF_len ("_given" : Str) (V.ref ga) fs
    refine rd_putF (fs := putF ("_given" : Str) (V.ref ga) fs) upd_same (by omega) rfl ?_
    rw [upd_upd]
    exact q ga H2 (same_none s1 n2) s12 e2'
def sp_Shares___init__ (K : PySem.W.Frag) (C N : Addr) : Sp := fun vs H Q E => ∃ (p dx pa0 wa0 : Addr) (P W : List Int) (R : Int) (B : Hp), vs = [.ref p, .ref pa0, .ref wa0, .int R] ∧ Cells H B [(p, .ins C dx [])] ∧ SqL K H pa0 (P.map V.int) ∧ SqL K H wa0 (W.map V.int) ∧ P.length ≤ 1000 ∧
  (shOk P W R = true → ∀ (A : ShAd) (B' H' : Hp), A.p = p → A.dx = dx → Own H B [p] B' (shcells C A ⟨P, W, R, List.replicate P.length 0, List.replicate P.length 0, 0⟩) H' → ShB A ⟨P, W, R, List.replicate P.length 0, List.replicate P.length 0, 0⟩ B' → Q .non H') ∧
  (shOk P W R = false → E (.ref N) none H)
@[irreducible] def ip_Shares___init__ (K : PySem.W.Frag) (C N : Addr) : Sp := sp_Shares___init__ K C N
theorem op_Shares___init__ {K : PySem.W.Frag} {C N : Addr} {vs : List V} {H : Hp} {Q : VK} {E : XK} (h : sp_Shares___init__ K C N vs H Q E) : ip_Shares___init__ K C N vs H Q E := by
  unfold ip_Shares___init__
  exact h
theorem un_Shares___init__ {K : PySem.W.Frag} {C N : Addr} {vs : List V} {H : Hp} {Q : VK} {E : XK} (h : ip_Shares___init__ K C N vs H Q E) : sp_Shares___init__ K C N vs H Q E := by
  unfold ip_Shares___init__ at h
  exact h
theorem ok_Shares___init__ (T : Tx P w K mg base) : FnOk P w K mg base (L2.CX P w) 3 T.a_Shares___init__ T.d_Shares___init__ ["self", "promises", "weights", "units"] (ip_Shares___init__ K T.C_Shares T.C_NotValid) := by
  have G_Shares__begin_round := ok_Shares__begin_round T
  have G_u_are_valid := ok_u_are_valid T
  refine T.p_Shares___init__.F.okX sc_Shares___init__ (fun vs H Q E h => ?_) (fun cdv A outer s H vs Q E hr h => ?_)
  · obtain ⟨p, dx, pa0, wa0, P, W, R, B, rfl, c, hP, hW, hn, q1, q2⟩ := un_Shares___init__ h
    rfl
  · obtain ⟨p, dx, pa0, wa0, P, W, R, B, rfl, c, hP, hW, hn, q1, q2⟩ := un_Shares___init__ h
    refine ⟨_, (pss_cons (ps_ifM (pt_not (pt_val (pe_call G_u_are_valid (hr.mono (by decide)) rfl T.p_u_are_valid.m T.p_u_are_valid.F.kp T.p_u_are_valid.b .nil pass0 (pa_cons (pv 1) (pa_cons (pv 2) (pa_cons (pv 3) pa_nil)))))) (pss_one (ps_raise rfl (takes_of rfl rfl rfl rfl) (pmk_plain T.x_NotValid (hr.mono (by decide)) rfl))) pss_nil) (pss_cons (ps_fldM (pv 0) (pe_callTy call_listM (by rfl) T.n_list (by decide +kernel) (pa_cons (pv 1) pa_nil)) T.k_Shares.cl T.f_Shares__promises) (pss_cons (ps_fldM (pv 0) (pe_callTy call_listM (by rfl) T.n_list (by decide +kernel) (pa_cons (pv 2) pa_nil)) T.k_Shares.cl T.f_Shares__weights) (pss_cons (ps_fldM (pv 0) (pv 3) T.k_Shares.cl T.f_Shares__units) (pss_cons (ps_fldM (pv 0) (pe_op op_repM (pe_lstM (pa_cons pe_int pa_nil)) (pe_callB call_lenM (by rfl) T.n_len PySem.boot_len (pa_cons (pv 1) pa_nil))) T.k_Shares.cl T.f_Shares__credits) (pss_one (ps_expr (meth_weak (pe_meth0 (pe_c (pv 0)) T.k_Shares.cl T.p_Shares__begin_round.me G_Shares__begin_round (hr.mono (by decide)) T.p_Shares__begin_round.b .nil pass0))))))))), ?_⟩
    have w0 : Own H B [p] B [(p, .ins T.C_Shares dx [])] H := c.start
    have hp0 := w0.mem (p := p) (.head _)
    (repeat walk_at "rd")
    refine op_u_are_valid ⟨pa0, wa0, P, W, R, rfl, hP, hW, ?_⟩
    cases hv : shOk P W R with
    | false =>
      (repeat walk_at "rd")
      exact q2 hv
    | true =>
      (repeat walk_at "rd")
      refine rd_list hP ?_
      intro pa H1 n1 s1 e1
      obtain ⟨B1, sB1, hB1, _, w1⟩ := w0.ro n1 s1 e1
      (repeat walk_at "rd")
      refine rd_putF (w1.mem (.head _)) (by exact Nat.le_of_ble_eq_true rfl) rfl ?_
      have w2 : Own H B [p] B1 [(p, .ins T.C_Shares dx [("_promises", .ref pa)])] _ := w1.set 0 rfl (.ins T.C_Shares dx [("_promises", .ref pa)])
      have hW2 := sq_notp hW hp0 w2.kept
      (repeat walk_at "rd")
      refine rd_list hW2 ?_
      intro wa H3 n3 s3 e3
      obtain ⟨B3, sB3, hB3, _, w3⟩ := w2.ro n3 s3 e3
      (repeat walk_at "rd")
      refine rd_putF (w3.mem (.head _)) (by exact Nat.le_of_ble_eq_true rfl) rfl ?_
      have w4 : Own H B [p] B3 [(p, .ins T.C_Shares dx [("_promises", .ref pa), ("_weights", .ref wa)])] _ := w3.set 0 rfl (.ins T.C_Shares dx [("_promises", .ref pa), ("_weights", .ref wa)])
      (repeat walk_at "rd")
      refine rd_putF (w4.mem (.head _)) (by exact Nat.le_of_ble_eq_true rfl) rfl ?_
      have w5 : Own H B [p] B3 [(p, .ins T.C_Shares dx [("_promises", .ref pa), ("_weights", .ref wa), ("_units", .int R)])] _ := w4.set 0 rfl (.ins T.C_Shares dx [("_promises", .ref pa), ("_weights", .ref wa), ("_units", .int R)])
      have hP5 := sq_notp hP hp0 w5.kept
      (repeat walk_at "rd")
      intro t6 H6 n6 s6 e6
      (repeat walk_at "rd")
      have hP6 := s6.seq hP5
      have e6' : H6 t6 = some (.lst [V.int 0]) := e6
      refine rd_rep e6' (by omega) (by omega) (by show 1 * _ ≤ _; omega) ?_
      intro ca H7 n7 s7 e7
      have e7' : H7 ca = some (.lst ((List.replicate P.length (0 : Int)).map V.int)) := by
        rw [e7, Int.toNat_natCast, rep1I]
      have w7 : Own H B [p] B3 [(p, .ins T.C_Shares dx [("_promises", .ref pa), ("_weights", .ref wa), ("_units", .int R)]), (ca, .lst ((List.replicate P.length (0 : Int)).map V.int))] H7 := (w5.more s6).addR n7 s7 e7'
      (repeat walk_at "rd")
      refine rd_putF (w7.mem (.head _)) (by exact Nat.le_of_ble_eq_true rfl) rfl ?_
      have w8 : Own H B [p] B3 [(p, .ins T.C_Shares dx [("_promises", .ref pa), ("_weights", .ref wa), ("_units", .int R), ("_credits", .ref ca)]), (ca, .lst ((List.replicate P.length (0 : Int)).map V.int))] _ := w7.set 0 rfl (.ins T.C_Shares dx [("_promises", .ref pa), ("_weights", .ref wa), ("_units", .int R), ("_credits", .ref ca)])
      have hp8 := w8.mem (p := p) (.head _)
      (repeat walk_at "rd")
      refine op_Shares__begin_round ⟨p, dx, [("_promises", .ref pa), ("_weights", .ref wa), ("_units", .int R), ("_credits", .ref ca)], pa, P, rfl, hp8, rfl, sq_of (w8.imm _ _ (sB3 _ _ hB1)), by show 4 ≤ 900; decide, hn, fun ga H9 n9 s9 e9 => ?_⟩
      have w9 : Own H B [p] B3 [(p, .ins T.C_Shares dx [("_promises", .ref pa), ("_weights", .ref wa), ("_units", .int R), ("_credits", .ref ca)]), (ca, .lst ((List.replicate P.length (0 : Int)).map V.int)), (ga, .lst ((List.replicate P.length (0 : Int)).map V.int))] H9 := w8.addR n9 s9 e9
      have w10 := w9.set 0 rfl (.ins T.C_Shares dx [("_promises", .ref pa), ("_weights", .ref wa), ("_units", .int R), ("_credits", .ref ca), ("_given", .ref ga), ("_place", .int 0)])
      exact q1 hv ⟨p, dx, pa, wa, ca, ga⟩ B3 _ rfl rfl w10 ⟨sB3 _ _ hB1, hB3⟩
def sp_Shares_balances (K : PySem.W.Frag) (C : Addr) : Sp := fun vs H Q _ => ∃ (A : ShAd) (s : ShS), vs = [.ref A.p] ∧ H A.p = some (.ins C A.dx (s.fs A)) ∧ H A.ca = some (.lst (s.C.map V.int)) ∧ NewO (.lst (s.C.map V.int)) H Q
@[irreducible] def ip_Shares_balances (K : PySem.W.Frag) (C : Addr) : Sp := sp_Shares_balances K C
theorem op_Shares_balances {K : PySem.W.Frag} {C : Addr} {vs : List V} {H : Hp} {Q : VK} {E : XK} (h : sp_Shares_balances K C vs H Q E) : ip_Shares_balances K C vs H Q E := by
  unfold ip_Shares_balances
  exact h
theorem un_Shares_balances {K : PySem.W.Frag} {C : Addr} {vs : List V} {H : Hp} {Q : VK} {E : XK} (h : ip_Shares_balances K C vs H Q E) : sp_Shares_balances K C vs H Q E := by
  unfold ip_Shares_balances at h
  exact h
def sp_Shares_given (K : PySem.W.Frag) (C : Addr) : Sp := fun vs H Q _ => ∃ (A : ShAd) (s : ShS), vs = [.ref A.p] ∧ H A.p = some (.ins C A.dx (s.fs A)) ∧ H A.ga = some (.lst (s.G.map V.int)) ∧ NewO (.lst (s.G.map V.int)) H Q
@[irreducible] def ip_Shares_given (K : PySem.W.Frag) (C : Addr) : Sp := sp_Shares_given K C
theorem op_Shares_given {K : PySem.W.Frag} {C : Addr} {vs : List V} {H : Hp} {Q : VK} {E : XK} (h : sp_Shares_given K C vs H Q E) : ip_Shares_given K C vs H Q E := by
  unfold ip_Shares_given
  exact h
theorem un_Shares_given {K : PySem.W.Frag} {C : Addr} {vs : List V} {H : Hp} {Q : VK} {E : XK} (h : ip_Shares_given K C vs H Q E) : sp_Shares_given K C vs H Q E := by
  unfold ip_Shares_given at h
  exact h
theorem ok_Shares_given (T : Tx P w K mg base) : FnOk P w K mg base CX0 1 T.a_Shares_given T.d_Shares_given ["self"] (ip_Shares_given K T.C_Shares) := by
  refine T.p_Shares_given.F.ok sc_Shares_given (fun vs H Q E h => ?_) (fun cdv A outer s H vs Q E hr h => ?_)
  · obtain ⟨A, s', rfl, hp, hc, q⟩ := un_Shares_given h
    rfl
  · obtain ⟨A, s', rfl, hp, hc, q⟩ := un_Shares_given h
    refine ⟨_, (pss_one (ps_ret (pe_callTy call_listM (by rfl) T.n_list (by decide +kernel) (pa_cons (pe_fldM (pv 0) T.k_Shares.cl T.f_Shares__given) pa_nil)))), ?_⟩
    (repeat walk_at "rd")
    refine rd_list (sq_of hc) ?_
    exact q
def sp_Shares_place (K : PySem.W.Frag) (C : Addr) : Sp := fun vs H Q _ => ∃ (A : ShAd) (s : ShS), vs = [.ref A.p] ∧ H A.p = some (.ins C A.dx (s.fs A)) ∧ Q (.int s.n) H
@[irreducible] def ip_Shares_place (K : PySem.W.Frag) (C : Addr) : Sp := sp_Shares_place K C
theorem op_Shares_place {K : PySem.W.Frag} {C : Addr} {vs : List V} {H : Hp} {Q : VK} {E : XK} (h : sp_Shares_place K C vs H Q E) : ip_Shares_place K C vs H Q E := by
  unfold ip_Shares_place
  exact h
theorem un_Shares_place {K : PySem.W.Frag} {C : Addr} {vs : List V} {H : Hp} {Q : VK} {E : XK} (h : ip_Shares_place K C vs H Q E) : sp_Shares_place K C vs H Q E := by
  unfold ip_Shares_place at h
  exact h
def sp_Shares__choose_by_credit (K : PySem.W.Frag) (C : Addr) : Sp := fun vs H Q _ => ∃ (A : ShAd) (s : ShS) (B : Hp) (aa : Addr) (as : List Nat), vs = [.ref A.p, .ref aa] ∧ Cells H B (shcells C A s) ∧ ShB A s B ∧ B aa = some (.lst ((natI as).map V.int)) ∧ as.Nodup ∧ (∀ a ∈ as, a < s.C.length) ∧ as ≠ [] ∧ s.C.length = s.W.length ∧ s.C.length ≤ 1000 ∧
  ∀ b H', IsBest (addC s.C s.W as) as b → Own H B [A.p, A.ca, A.ga] B (shcells C A { s with C := payC s.C s.W as b }) H' → Q (.int (b : Nat)) H'
@[irreducible] def ip_Shares__choose_by_credit (K : PySem.W.Frag) (C : Addr) : Sp := sp_Shares__choose_by_credit K C
theorem op_Shares__choose_by_credit {K : PySem.W.Frag} {C : Addr} {vs : List V} {H : Hp} {Q : VK} {E : XK} (h : sp_Shares__choose_by_credit K C vs H Q E) : ip_Shares__choose_by_credit K C vs H Q E := by
  unfold ip_Shares__choose_by_credit
  exact h
theorem un_Shares__choose_by_credit {K : PySem.W.Frag} {C : Addr} {vs : List V} {H : Hp} {Q : VK} {E : XK} (h : ip_Shares__choose_by_credit K C vs H Q E) : sp_Shares__choose_by_credit K C vs H Q E := by
  unfold ip_Shares__choose_by_credit at h
  exact h
theorem ok_Shares__choose_by_credit (T : Tx P w K mg base) : FnOk P w K mg base CX0 1 T.a_Shares__choose_by_credit T.d_Shares__choose_by_credit ["self", "asking"] (ip_Shares__choose_by_credit K T.C_Shares) := by
  refine T.p_Shares__choose_by_credit.F.ok sc_Shares__choose_by_credit (fun vs H Q E h => ?_) (fun cdv A outer s H vs Q E hr h => ?_)
  · obtain ⟨A, s', B, aa, as, rfl, c, hb, haa, nda, has, hne, hlc, hl, q⟩ := un_Shares__choose_by_credit h
    rfl
  · obtain ⟨A, s', B, aa, as, rfl, c, hb, haa, nda, has, hne, hlc, hl, q⟩ := un_Shares__choose_by_credit h
    refine ⟨_, (pss_cons (ps_forL PassesOwn.never rfl (pv 1) (pg_name (i := 2) sc_Shares__choose_by_credit.nd rfl (Or.inl rfl)) (pss_one (ps_augS (pe_fldM (pv 0) T.k_Shares.cl T.f_Shares__credits) (pv 2) get_listM (pe_ix ix_listM (pe_fldM (pv 0) T.k_Shares.cl T.f_Shares__weights) (pv 2) (fun _ _ => rfl)) ip_add set_listM))) (pss_cons (ps_set (i := 3) sc_Shares__choose_by_credit.nd rfl (Or.inr rfl) (pe_callB (call_maxLM rfl) (by rfl) T.n_max (by decide +kernel) (pa_cons (pe_lcW (own := [("number", 2)]) (g := (gName 2)) [2] im_list rfl sc_Shares__choose_by_credit.nd (pi_list (pe_c (pv 1))) (blkOk_by (own := [("number", 2)]) (N := ["self", "asking", "number", "greatest", "chosen"]) (sc := defScope S_Shares__choose_by_credit) (by decide +kernel)) (fun _ _ _ _ _ => (pg_name (i := 2) sc_Shares__choose_by_credit.nd rfl (Or.inl rfl))) (fun _ _ _ _ _ => pts_nil) (fun _ _ _ _ _ => (pe_ix (ix_listK (K := K) rfl) (pe_fldM (pv 0) T.k_Shares.cl T.f_Shares__credits) (pv 2) (fun _ _ => rfl)))) pa_nil))) (pss_cons (ps_set (i := 4) sc_Shares__choose_by_credit.nd rfl (Or.inl rfl) (pe_callB (call_minLM rfl) (by rfl) T.n_min (by decide +kernel) (pa_cons (pe_lcW (own := [("number", 2)]) (g := (gName 2)) [2] im_list rfl sc_Shares__choose_by_credit.nd (pi_list (pe_c (pv 1))) (blkOk_by (own := [("number", 2)]) (N := ["self", "asking", "number", "greatest", "chosen"]) (sc := defScope S_Shares__choose_by_credit) (by decide +kernel)) (fun _ _ _ _ _ => (pg_name (i := 2) sc_Shares__choose_by_credit.nd rfl (Or.inl rfl))) (fun _ _ _ _ _ => (pts_one (pt_cmpR op_eq (pe_ix (ix_listK (K := K) rfl) (pe_fldM (pv 0) T.k_Shares.cl T.f_Shares__credits) (pv 2) (fun _ _ => rfl)) (pv 3) (nomark _)))) (fun _ _ _ _ _ => (pv 2))) pa_nil))) (pss_cons (ps_augS (pe_fldM (pv 0) T.k_Shares.cl T.f_Shares__credits) (pv 4) get_listM (pe_callB (call_sumM rfl) (by rfl) T.n_sum (by decide +kernel) (pa_cons (pe_lcW (own := [("number", 2)]) (g := (gName 2)) [2] im_list rfl sc_Shares__choose_by_credit.nd (pi_list (pe_c (pv 1))) (blkOk_by (own := [("number", 2)]) (N := ["self", "asking", "number", "greatest", "chosen"]) (sc := defScope S_Shares__choose_by_credit) (by decide +kernel)) (fun _ _ _ _ _ => (pg_name (i := 2) sc_Shares__choose_by_credit.nd rfl (Or.inl rfl))) (fun _ _ _ _ _ => pts_nil) (fun _ _ _ _ _ => (pe_ix (ix_listK (K := K) rfl) (pe_fldM (pv 0) T.k_Shares.cl T.f_Shares__weights) (pv 2) (fun _ _ => rfl)))) pa_nil)) ip_sub set_listM) (pss_one (ps_ret (pv 4))))))), ?_⟩
    have w0 : Own H B [A.p, A.ca, A.ga] B (shcells T.C_Shares A s') H := c.start
    have hp := w0.mem (p := A.p) (.head _)
    have hl2 : as.length ≤ 1000 := Nat.le_trans (nodup_lt _ _ nda has) hl
    refine rd_forL ?_
    (repeat walk_at "rd")
    refine ⟨aa, (natI as).map V.int, fun i σ H' => Stop (Own H B [A.p, A.ca, A.ga] B (shcells T.C_Shares A { s' with C := addC s'.C s'.W (as.take i) }) H' ∧ ∃ y z w, σ = [some (.ref A.p), some (.ref aa), y, z, w]), rfl, sq_of (w0.imm _ _ haa), .a ⟨?_, _, _, _, rfl⟩, fun i σ' H' _ w => sq_of (w.un.1.imm _ _ haa), fun i y σ' H' hi w => ?_, fun σ' H' w => ?_⟩
    · rw [List.take_zero, addC_nil]
      exact w0
    · obtain ⟨w1, y1, z1, w1', rfl⟩ := w.un
      rw [List.getElem?_map, List.getElem?_map] at hi
      obtain ⟨ai, hai, rfl⟩ := Option.map_eq_some_iff.mp hi
      obtain ⟨a, ha, rfl⟩ := Option.map_eq_some_iff.mp hai
      have hin := List.mem_of_getElem? ha
      have hal := has a hin
      have hnt : a ∉ as.take i := fun z => by
        obtain ⟨j, hj⟩ := List.getElem?_of_mem z
        rw [List.getElem?_take] at hj
        split at hj
        · have hil := (List.getElem?_eq_some_iff.mp hj).1
          have := (List.getElem?_inj hil nda).mp (hj.trans ha.symm)
          omega
        · cases hj
      have hp1 := w1.mem (p := A.p) (.head _)
      have hc1 := w1.mem (p := A.ca) (.tail _ (.head _))
      have hw1 := w1.imm _ _ hb.w
      have hcl : (addC s'.C s'.W (as.take i)).length = s'.C.length := addC_len _ _ _
      (repeat walk_at "rd")
      refine rd_ixI (sq_of hc1) (by omega) (by rw [hcl]; omega) ?_
      (repeat walk_at "rd")
      refine rd_ixI (sq_of hw1) (by omega) (by omega) ?_
      (repeat walk_at "rd")
      refine rd_setL hc1 (by omega) (by rw [List.length_map, hcl]; omega) ?_
      rw [Int.toNat_natCast]
      have w2 := w1.set 1 rfl (.lst (((addC s'.C s'.W (as.take i)).set a ((addC s'.C s'.W (as.take i)).getD a 0 + s'.W.getD a 0)).map V.int))
      refine .a ⟨?_, _, _, _, rfl⟩
      rw [take_snoc ha, addC_snoc hnt hal, ← List.map_set]
      exact w2
    · obtain ⟨w1, y1, z1, w1', rfl⟩ := w.un
      have eN : ((natI as).map V.int).length = as.length := by rw [List.length_map, List.length_map]
      rw [eN, List.take_length] at w1
      generalize hC2 : addC s'.C s'.W as = C2 at w1
      have hlC : C2.length = s'.C.length := by rw [← hC2, addC_len]
      have hp1 := w1.mem (p := A.p) (.head _)
      have hc1 : H' A.ca = some (.lst (C2.map V.int)) := w1.mem (p := A.ca) (.tail _ (.head _))
      have hw1 := w1.imm _ _ hb.w
      have ha1 := w1.imm _ _ haa
      have at_as : ∀ (i : Nat) (y : V), ((natI as).map V.int)[i]? = some y → ∃ a, y = V.int (a : Nat) ∧ a ∈ as ∧ as.getD i 0 = a := fun i y hy => by
        rw [List.getElem?_map, List.getElem?_map] at hy
        obtain ⟨ai, hai, rfl⟩ := Option.map_eq_some_iff.mp hy
        obtain ⟨a, ha, rfl⟩ := Option.map_eq_some_iff.mp hai
        exact ⟨a, rfl, List.mem_of_getElem? ha, by rw [List.getD_eq_getElem?_getD, ha]; rfl⟩
      (repeat walk_at "rd")
      refine rd_lcW ?_
      (repeat walk_at "rd")
      refine ⟨⟨_, sq_of ha1⟩, ?_⟩
      refine wl_vals ((natI as).map V.int) (fun i => V.int (C2.getD (as.getD i 0) 0)) (sq_of ha1) (by rw [eN]; omega) (fun i y hy H2 R s k => ?_) (fun D H2 nD s2 e2 => ?_)
      · obtain ⟨a, rfl, hin, ea⟩ := at_as i y hy
        have hal := has a hin
        rw [ea] at k
        have hp2 := s _ _ hp1
        (repeat walk_at "rd")
        refine rd_ixI (sq_of (s _ _ hc1)) (by omega) (by rw [hlC]; omega) ?_
        rw [Int.toNat_natCast]
        exact k H2 (Same.refl _)
      have e2' : H2 D = some (.lst ((as.map fun a => C2.getD a 0).map V.int)) := by
        rw [e2, eN, range_map_getD as 0 (fun a => V.int (C2.getD a 0)), List.map_map]
        rfl
      refine rd_maxL (sq_of e2') (by rw [List.length_map]; exact List.length_pos_iff.mpr hne) (fun m hm hle => ?_)
      have hp2 := s2 _ _ hp1
      have w2 := w1.more s2
      have hc2 := s2 _ _ hc1
      have ha2 := s2 _ _ ha1
      have hw2 := s2 _ _ hw1
      (repeat walk_at "rd")
      refine rd_lcW ?_
      (repeat walk_at "rd")
      refine ⟨⟨_, sq_of ha2⟩, ?_⟩
      refine wl_filtI (natI as) (fun n => decide (C2.getD n.toNat 0 = m)) (sq_of ha2) (by rw [List.length_map]; omega) (fun n hn H3 R s k => ?_) (fun n hn H3 R k => ?_) (fun D3 H3 n3 s3 e3 => ?_)
      · obtain ⟨a, hin, rfl⟩ := List.mem_map.mp hn
        have hal := has a hin
        have hp3 := s _ _ hp2
        (repeat walk_at "rd")
        refine rd_ixI (sq_of (s _ _ hc2)) (by omega) (by rw [hlC]; omega) ?_
        (repeat walk_at "rd")
        rw [dec_int]
        exact k H3 (Same.refl _)
      · (repeat walk_at "rd")
        exact k
      obtain ⟨a0, ha0, ea0⟩ := List.mem_map.mp hm
      refine rd_minL (sq_of e3) (List.length_pos_iff.mpr fun z => ?_) (fun bi hbi hble => ?_)
      · have h1 : ((a0 : Nat) : Int) ∈ (natI as).filter fun n => decide (C2.getD n.toNat 0 = m) := List.mem_filter.mpr ⟨List.mem_map.mpr ⟨a0, ha0, rfl⟩, decide_eq_true (by rw [Int.toNat_natCast]; exact ea0)⟩
        rw [z] at h1
        exact nomatch h1
      obtain ⟨hb1, hb2⟩ := List.mem_filter.mp hbi
      obtain ⟨b, hbin, rfl⟩ := List.mem_map.mp hb1
      have hb3 : C2.getD b 0 = m := by
        have := of_decide_eq_true hb2
        rw [Int.toNat_natCast] at this
        exact this
      have hbest : IsBest C2 as b := ⟨hbin, fun j hj => by rw [hb3]; exact hle _ (List.mem_map.mpr ⟨j, hj, rfl⟩), fun j hj e => by
        have := hble (j : Int) (List.mem_filter.mpr ⟨List.mem_map.mpr ⟨j, hj, rfl⟩, decide_eq_true (by rw [Int.toNat_natCast, e, hb3])⟩)
        omega⟩
      have hbl := has b hbin
      have w3 := w2.more s3
      have hp3 := s3 _ _ hp2
      have hc3 := s3 _ _ hc2
      have ha3 := s3 _ _ ha2
      have hw3 := s3 _ _ hw2
      (repeat walk_at "rd")
      refine rd_ixI (sq_of hc3) (by omega) (by rw [hlC]; omega) ?_
      (repeat walk_at "rd")
      refine rd_lcW ?_
      (repeat walk_at "rd")
      refine ⟨⟨_, sq_of ha3⟩, ?_⟩
      refine wl_vals ((natI as).map V.int) (fun i => V.int (s'.W.getD (as.getD i 0) 0)) (sq_of ha3) (by rw [eN]; omega) (fun i y hy H2 R s k => ?_) (fun D4 H4 nD4 s4 e4 => ?_)
      · obtain ⟨a, rfl, hin, ea⟩ := at_as i y hy
        have hal := has a hin
        rw [ea] at k
        have hp4 := s _ _ hp3
        (repeat walk_at "rd")
        refine rd_ixI (sq_of (s _ _ hw3)) (by omega) (by omega) ?_
        rw [Int.toNat_natCast]
        exact k H2 (Same.refl _)
      have e4' : H4 D4 = some (.lst ((as.map fun a => s'.W.getD a 0).map V.int)) := by
        rw [e4, eN, range_map_getD as 0 (fun a => V.int (s'.W.getD a 0)), List.map_map]
        rfl
      refine rd_sum (sq_of e4') ?_
      have w4 := w3.more s4
      have hp4 := s4 _ _ hp3
      have hc4 := s4 _ _ hc3
      (repeat walk_at "rd")
      refine rd_setL hc4 (by omega) (by rw [List.length_map, hlC]; omega) ?_
      rw [Int.toNat_natCast]
      have w5 : Own H B [A.p, A.ca, A.ga] B (shcells T.C_Shares A { s' with C := C2.set b (C2.getD b 0 - sumW s'.W as) }) _ := w4.set 1 rfl (.lst ((C2.set b (C2.getD b 0 - sumW s'.W as)).map V.int))
      (repeat walk_at "rd")
      refine q b _ (hC2 ▸ hbest) ?_
      unfold payC
      rw [hC2]
      show Own _ _ _ _ _ (upd H4 A.ca (.lst ((C2.map V.int).set b (V.int (C2.getD b 0 - sumW s'.W as)))))
      rw [← List.map_set]
      exact w5
end
theorem payC_len (C W : List Int) (as : List Nat) (b : Nat) : (payC C W as b).length = C.length := by
  unfold payC
  rw [List.length_set, addC_len]
theorem Who.len {s : ShS} {as : List Nat} {k : Nat} {C : List Int} (h : Who s as k C) : C.length = s.C.length := by
  cases e : ask1 s as with
  | nil => rw [(h.fr e).2, payC_len]
  | cons i r => rw [(h.pr i r e).2]
theorem Who.mem {s : ShS} {as : List Nat} {k : Nat} {C : List Int} (h : Who s as k C) : k ∈ as := by
  cases e : ask1 s as with
  | nil => exact (h.fr e).1.i
  | cons i r =>
    have h2 : i ∈ ask1 s as := by
      rw [e]
      exact .head _
    rw [(h.pr i r e).1]
    exact (List.mem_filter.mp h2).1
theorem ShOk.step {s : ShS} {k : Nat} {C : List Int} (h : ShOk s) (hC : C.length = s.C.length) : ShOk (stepF s k C) := by
  have h1 := h.n0
  have h2 := h.lc
  unfold stepF
  split
  · exact ⟨h.ok, by show C.length = s.P.length; omega, by show (List.replicate _ _).length = _; rw [List.length_replicate], h.ln, ⟨Int.le_refl _, by show 0 < s.R; omega⟩⟩
  · exact ⟨h.ok, by show C.length = s.P.length; omega, by show (s.G.set _ _).length = _; rw [List.length_set]; exact h.lg, h.ln, ⟨by show 0 ≤ s.n + 1; omega, by show s.n + 1 < s.R; omega⟩⟩
theorem ShOk.lw {s : ShS} (h : ShOk s) : s.W.length = s.P.length := by
  have h1 := h.ok
  unfold shOk at h1
  rw [Bool.and_eq_true] at h1
  exact (of_decide_eq_true h1.1).symm
section
variable {P : Program} {w : World} {K : PySem.W.Frag} {mg : Str → Option Value} {base : Heap}
def sp_Shares_give (K : PySem.W.Frag) (C N : Addr) : Sp := fun vs H Q _ => ∃ (A : ShAd) (s : ShS) (B : Hp) (wa : Addr) (ws : List Bool), vs = [.ref A.p, .ref wa] ∧ Cells H B (shcells C A s) ∧ ShB A s B ∧ ShOk s ∧ SqL K H wa (ws.map V.bl) ∧ ws.length = s.P.length ∧
  (trues ws = [] → ∀ H', Same H H' → Q .non H') ∧
  ∀ (k : Nat) (C' : List Int) (ga : Addr) (B' H' : Hp), Who s (trues ws) k C' → Own H B [A.p, A.ca, A.ga] B' (shcells C ⟨A.p, A.dx, A.pa, A.wa, A.ca, ga⟩ (stepF s k C')) H' → Q (.int k) H'
@[irreducible] def ip_Shares_give (K : PySem.W.Frag) (C N : Addr) : Sp := sp_Shares_give K C N
theorem op_Shares_give {K : PySem.W.Frag} {C N : Addr} {vs : List V} {H : Hp} {Q : VK} {E : XK} (h : sp_Shares_give K C N vs H Q E) : ip_Shares_give K C N vs H Q E := by
  unfold ip_Shares_give
  exact h
theorem un_Shares_give {K : PySem.W.Frag} {C N : Addr} {vs : List V} {H : Hp} {Q : VK} {E : XK} (h : ip_Shares_give K C N vs H Q E) : sp_Shares_give K C N vs H Q E := by
  unfold ip_Shares_give at h
  exact h
theorem ok_Shares_give (T : Tx P w K mg base) : FnOk P w K mg base (L2.CX P w) 3 T.a_Shares_give T.d_Shares_give ["self", "waiting"] (ip_Shares_give K T.C_Shares T.C_NotValid) := by
  have G_Shares__choose_by_credit := ok_Shares__choose_by_credit T
  have G_Shares__begin_round := ok_Shares__begin_round T
  refine T.p_Shares_give.F.okX sc_Shares_give (fun vs H Q E h => ?_) (fun cdv A outer s H vs Q E hr h => ?_)
  · obtain ⟨A, s', B, wa, ws, rfl, c, hb, ok, hW, hwl, q1, q2⟩ := un_Shares_give h
    rfl
  · obtain ⟨A, s', B, wa, ws, rfl, c, hb, ok, hW, hwl, q1, q2⟩ := un_Shares_give h
    refine ⟨_, (pss_cons (ps_ifM (pt_cmpR op_ne (pe_callB call_lenM (by rfl) T.n_len PySem.boot_len (pa_cons (pv 1) pa_nil)) (pe_callB call_lenM (by rfl) T.n_len PySem.boot_len (pa_cons (pe_fldM (pv 0) T.k_Shares.cl T.f_Shares__promises) pa_nil)) (nomark _)) (pss_one (ps_raise rfl (takes_of rfl rfl rfl rfl) (pmk_plain T.x_NotValid (hr.mono (by decide)) rfl))) pss_nil) (pss_cons (ps_setLcW (i := 2) (own := [("number", 5), ("has_something", 6)]) (g := (gTup K 2 (gCons (gName 5) (gCons (gName 6) gNil)))) [5, 6] im_enum rfl sc_Shares_give.nd rfl rfl (sw_true rfl rfl rfl (by decide +kernel)) (pi_enum (by rfl) T.n_enumerate (pa_c (pa_cons (pv 1) pa_nil))) (blkOk_by (own := [("number", 5), ("has_something", 6)]) (N := ["self", "waiting", "asking", "promised", "chosen", "number", "has_something"]) (sc := defScope S_Shares_give) (by decide +kernel)) (fun _ _ _ _ _ => (pg_tup rfl (pgs_cons (pg_name (i := 5) sc_Shares_give.nd rfl (Or.inl rfl)) (pgs_cons (pg_name (i := 6) sc_Shares_give.nd rfl (Or.inl rfl)) pgs_nil)))) (fun _ _ _ _ _ => (pts_one (pt_val (pv 6)))) (fun _ _ _ _ _ => (pv 5))) (pss_cons (ps_ifM (pt_not (pt_truthM (pv 2) (by intro _; rfl))) (pss_one (ps_ret pe_non)) pss_nil) (pss_cons (ps_setLcW (i := 3) (own := [("number", 5)]) (g := (gName 5)) [5] im_list rfl sc_Shares_give.nd rfl rfl (sw_true rfl rfl rfl (by decide +kernel)) (pi_list (pe_c (pv 2))) (blkOk_by (own := [("number", 5)]) (N := ["self", "waiting", "asking", "promised", "chosen", "number", "has_something"]) (sc := defScope S_Shares_give) (by decide +kernel)) (fun _ _ _ _ _ => (pg_name (i := 5) sc_Shares_give.nd rfl (Or.inl rfl))) (fun _ _ _ _ _ => (pts_one (pt_cmpR op_ltM (pe_ix (ix_listK (K := K) rfl) (pe_fldM (pv 0) T.k_Shares.cl T.f_Shares__given) (pv 5) (fun _ _ => rfl)) (pe_ix (ix_listK (K := K) rfl) (pe_fldM (pv 0) T.k_Shares.cl T.f_Shares__promises) (pv 5) (fun _ _ => rfl)) (nomark _)))) (fun _ _ _ _ _ => (pv 5))) (pss_cons (ps_set (i := 4) sc_Shares_give.nd rfl (Or.inl rfl) (pe_say (pe_ifM (pt_truthM (pv 3) (by intro _; rfl)) (pe_ix ix_listM (pv 3) pe_int (fun _ _ => rfl)) (meth_weak (pe_meth (pe_c (pv 0)) T.k_Shares.cl T.p_Shares__choose_by_credit.me G_Shares__choose_by_credit (hr.mono (by decide)) T.p_Shares__choose_by_credit.b .nil pass0 (pa_cons (pv 2) pa_nil)))))) (pss_cons (ps_augS (pe_fldM (pv 0) T.k_Shares.cl T.f_Shares__given) (pv 4) get_listM pe_int ip_add set_listM) (pss_cons (ps_fldaugM (pv 0) pe_int in_add T.k_Shares.cl T.f_Shares__place) (pss_cons (ps_ifM (pt_cmpR op_eq (pe_fldM (pv 0) T.k_Shares.cl T.f_Shares__place) (pe_fldM (pv 0) T.k_Shares.cl T.f_Shares__units) (nomark _)) (pss_one (ps_expr (meth_weak (pe_meth0 (pe_c (pv 0)) T.k_Shares.cl T.p_Shares__begin_round.me G_Shares__begin_round (hr.mono (by decide)) T.p_Shares__begin_round.b .nil pass0)))) pss_nil) (pss_one (ps_ret (pv 4))))))))))), ?_⟩
    have w0 : Own H B [A.p, A.ca, A.ga] B (shcells T.C_Shares A s') H := c.start
    have hp := w0.mem (p := A.p) (.head _)
    have hl0 := ok.ln
    have hlg := ok.lg
    have hlc := ok.lc
    have hlw := ok.lw
    (repeat walk_at "rd")
    refine rd_lenI (sq_of (w0.imm _ _ hb.p)) ?_
    (repeat walk_at "rd")
    refine br_ni (by rw [List.length_map]; omega) ?_
    (repeat walk_at "rd")
    refine rd_lcW ?_
    (repeat walk_at "rd")
    refine ⟨_, _, rfl, hW, ?_⟩
    refine wl_enumB ws hW (by omega) (by decide) (fun i b hb H' R s k => ?_) (fun i b hb H' R k => ?_) (fun aa H1 n1 s1 e1 => ?_)
    · (repeat walk_at "rd")
      exact k H' (Same.refl _)
    · (repeat walk_at "rd")
      exact k
    obtain ⟨B1, sB1, hB1, _, w1⟩ := w0.ro n1 s1 e1
    have hp1 := w1.mem (p := A.p) (.head _)
    have hg1 := w1.mem (p := A.ga) (.tail _ (.tail _ (.head _)))
    have hP1 := w1.imm _ _ (sB1 _ _ hb.p)
    have hal := trues_len ws
    have hB1w := hB1
    generalize hT : trues ws = as at e1 hB1 q1 q2 hal
    have nda : as.Nodup := hT ▸ trues_nd ws
    have has : ∀ a ∈ as, a < s'.P.length := fun a h => by
      rw [← hT] at h
      have := trues_lt h
      omega
    have ha1 := w1.imm _ _ hB1
    (repeat walk_at "rd")
    by_cases hne : as = []
    · subst hne
      refine br_nT ?_
      (repeat walk_at "rd")
      exact q1 rfl H1 s1
    have hem : (List.map V.int (natI as)).isEmpty = false := by
      cases as with
      | nil => exact absurd rfl hne
      | cons _ _ => rfl
    rw [hem]
    refine br_nF ?_
    (repeat walk_at "rd")
    refine rd_lcW ?_
    (repeat walk_at "rd")
    refine ⟨⟨_, sq_of ha1⟩, ?_⟩
    refine wl_filtI (natI as) (fun n => decide (s'.G.getD n.toNat 0 < s'.P.getD n.toNat 0)) (sq_of ha1) (by rw [List.length_map]; omega) (fun n hn H2 R s k => ?_) (fun n hn H2 R k => ?_) (fun pr H2 n2 s2 e2 => ?_)
    · obtain ⟨a, hin, rfl⟩ := List.mem_map.mp hn
      have hal := has a hin
      have hp2 := s _ _ hp1
      (repeat walk_at "rd")
      refine rd_ixI (sq_of (s _ _ hg1)) (by omega) (by omega) ?_
      (repeat walk_at "rd")
      refine rd_ixI (sq_of (s _ _ hP1)) (by omega) (by omega) ?_
      (repeat walk_at "rd")
      exact k H2 (Same.refl _)
    · (repeat walk_at "rd")
      exact k
    have efl : (natI as).filter (fun n => decide (s'.G.getD n.toNat 0 < s'.P.getD n.toNat 0)) = natI (ask1 s' as) := by
      unfold ask1
      rw [List.filter_map]
      refine congrArg natI (List.filter_congr fun a _ => ?_)
      show decide (s'.G.getD (a : Int).toNat 0 < s'.P.getD (a : Int).toNat 0) = _
      rw [Int.toNat_natCast]
    rw [efl] at e2
    have w2 := w1.more s2
    have ha2 := s2 _ _ ha1
    (repeat walk_at "rd")
    refine rd_say (fun v H3 => ∃ (k : Nat) (C' : List Int), v = .int k ∧ Who s' as k C' ∧ Own H B [A.p, A.ca, A.ga] B1 (shcells T.C_Shares A { s' with C := C' }) H3) ?_ (fun v H3 p => ?_)
    · (repeat walk_at "rd")
      cases hA : ask1 s' as with
      | nil =>
        refine br_F ?_
        (repeat walk_at "rd")
        refine op_Shares__choose_by_credit ⟨A, s', B1, aa, as, rfl, w2.c, hb.mono sB1, hB1, nda, (fun a h => by rw [hlc]; exact has a h), hne, (by omega), (by omega), fun b H3 hbest w3' => ?_⟩
        have w3 := w2.call0 w3'
        exact ⟨b, _, rfl, ⟨fun i r e => absurd (hA.symm.trans e) (fun z => nomatch z), fun _ => ⟨hbest, rfl⟩⟩, w3⟩
      | cons i r =>
        rw [hA] at e2
        refine br_T ?_
        (repeat walk_at "rd")
        refine rd_ixI (sq_of e2) (by omega) (by rw [List.length_map, List.length_cons]; omega) ?_
        refine ⟨i, s'.C, rfl, ⟨fun i' r' e => ?_, fun e => absurd (hA.symm.trans e) (fun z => nomatch z)⟩, w2⟩
        have e3 := hA.symm.trans e
        injection e3 with e4 e5
        exact ⟨e4, rfl⟩
    obtain ⟨k, C', rfl, who, w3⟩ := p
    have hkl := has k who.mem
    have hp3 := w3.mem (p := A.p) (.head _)
    have hg3 : H3 A.ga = some (.lst (s'.G.map V.int)) := w3.mem (p := A.ga) (.tail _ (.tail _ (.head _)))
    (repeat walk_at "rd")
    refine rd_ixI (sq_of hg3) (by omega) (by omega) ?_
    (repeat walk_at "rd")
    refine rd_setL hg3 (by omega) (by rw [List.length_map]; omega) ?_
    rw [Int.toNat_natCast]
    have w4 : Own H B [A.p, A.ca, A.ga] B1 (shcells T.C_Shares A { s' with C := C', G := s'.G.set k (s'.G.getD k 0 + 1) }) _ := w3.set 2 rfl (.lst ((s'.G.set k (s'.G.getD k 0 + 1)).map V.int))
    rw [List.map_set] at w4
    have hp4 := w4.mem (p := A.p) (.head _)
    (repeat walk_at "rd")
    refine rd_putF hp4 (by exact Nat.le_of_ble_eq_true rfl) rfl ?_
    have w5 : Own H B [A.p, A.ca, A.ga] B1 (shcells T.C_Shares A ⟨s'.P, s'.W, s'.R, C', s'.G.set k (s'.G.getD k 0 + 1), s'.n + 1⟩) _ := w4.set 0 rfl (.ins T.C_Shares A.dx (ShS.fs ⟨s'.P, s'.W, s'.R, C', s'.G.set k (s'.G.getD k 0 + 1), s'.n + 1⟩ A))
    have hp5 := w5.mem (p := A.p) (.head _)
    (repeat walk_at "rd")
    refine br_eby (fun h => ?_) (fun h => ?_)
    · (repeat walk_at "rd")
      refine op_Shares__begin_round ⟨A.p, A.dx, _, A.pa, s'.P, rfl, hp5, rfl, sq_of (w5.imm _ _ (sB1 _ _ hb.p)), (by show 6 ≤ 900; decide), (by omega), fun ga H9 n9 s9 e9 => ?_⟩
      have w9 := w5.addR n9 s9 e9
      have w10 := w9.set 0 rfl (.ins T.C_Shares A.dx (ShS.fs ⟨s'.P, s'.W, s'.R, C', List.replicate s'.P.length 0, 0⟩ ⟨A.p, A.dx, A.pa, A.wa, A.ca, ga⟩))
      (repeat walk_at "rd")
      refine q2 k C' ga B1 _ who ?_
      rw [show stepF s' k C' = ⟨s'.P, s'.W, s'.R, C', List.replicate s'.P.length 0, 0⟩ from if_pos h]
      refine w10.sub (fun c hc => ?_) ?_
      · rcases List.mem_cons.mp hc with rfl | hc
        · exact .head _
        · rcases List.mem_cons.mp hc with rfl | hc
          · exact .tail _ (.head _)
          · rcases List.mem_cons.mp hc with rfl | hc
            · exact .tail _ (.tail _ (.tail _ (.head _)))
            · exact nomatch hc
      · have nd : [A.p, A.ca, A.ga, ga].Nodup := w10.c.nd
        exact nd.sublist (.cons_cons _ (.cons_cons _ (.cons _ (.refl _))))
    · (repeat walk_at "rd")
      refine q2 k C' A.ga B1 _ who ?_
      rw [show stepF s' k C' = ⟨s'.P, s'.W, s'.R, C', s'.G.set k (s'.G.getD k 0 + 1), s'.n + 1⟩ from if_neg h]
      exact w5
end
theorem getD_set {l : List Int} {k i : Nat} {x : Int} : (l.set k x).getD i 0 = if k = i ∧ i < l.length then x else l.getD i 0 := by
  rw [List.getD_eq_getElem?_getD, List.getElem?_set, List.getD_eq_getElem?_getD]
  by_cases h : k = i
  · subst h
    by_cases h2 : k < l.length
    · rw [if_pos rfl, if_pos h2, if_pos ⟨rfl, h2⟩]
      rfl
    · rw [if_pos rfl, if_neg h2, if_neg fun z => h2 z.2, List.getElem?_eq_none (by omega)]
  · rw [if_neg h, if_neg fun z => h z.1]
theorem getD_set_eq {l : List Int} {k : Nat} {x : Int} (h : k < l.length) : (l.set k x).getD k 0 = x := by
  rw [getD_set, if_pos ⟨rfl, h⟩]
theorem getD_set_ne {l : List Int} {k i : Nat} {x : Int} (h : k ≠ i) : (l.set k x).getD i 0 = l.getD i 0 := by
  rw [getD_set, if_neg fun z => h z.1]
theorem sum_mono : ∀ {l m : List Int}, l.length = m.length → (∀ i, i < l.length → l.getD i 0 ≤ m.getD i 0) → l.sum ≤ m.sum
  | [], [], _, _ => Int.le_refl _
  | [], _ :: _, h, _ => by cases h
  | _ :: _, [], h, _ => by cases h
  | a :: l, b :: m, h, e => by
    have h1 := sum_mono (l := l) (m := m) (Nat.succ.inj h) fun i hi => e (i + 1) (Nat.succ_lt_succ hi)
    have h2 : a ≤ b := e 0 (Nat.zero_lt_succ _)
    rw [List.sum_cons, List.sum_cons]
    omega
/-- one entry more or less, the others not less -/
theorem sum_gap {l m : List Int} {w : Nat} (hl : l.length = m.length) (hw : w < l.length) (h : ∀ i, i < l.length → l.getD i 0 ≤ m.getD i 0) : l.sum + (m.getD w 0 - l.getD w 0) ≤ m.sum := by
  have h1 := sum_set l w (m.getD w 0) hw
  have h2 : (l.set w (m.getD w 0)).sum ≤ m.sum := sum_mono (by rw [List.length_set]; exact hl) fun i hi => by
    rw [List.length_set] at hi
    by_cases e : w = i
    · subst e
      rw [getD_set_eq hw]
      exact Int.le_refl _
    · rw [getD_set_ne e]
      exact h i hi
  omega
def cnt (w : Int) (gs : List Int) (m : Nat) : Int := ((gs.take m).count w : Nat)
theorem cnt_snoc {w k : Int} {gs : List Int} {m : Nat} (h : m ≤ gs.length) : cnt w (gs ++ [k]) m = cnt w gs m := by
  unfold cnt
  rw [List.take_append_of_le_length h]
theorem cnt_all {w k : Int} {gs : List Int} : cnt w (gs ++ [k]) (gs.length + 1) = cnt w gs gs.length + if k = w then 1 else 0 := by
  unfold cnt
  rw [List.take_length, List.take_of_length_le (by rw [List.length_append]; exact Nat.le_refl _), List.count_append, List.count_singleton]
  by_cases h : k = w
  · rw [if_pos h, if_pos (by rw [h]; exact beq_self_eq_true w)]
    rfl
  · rw [if_neg h, if_neg (by rw [beq_iff_eq]; exact h)]
    rfl
theorem cnt_succ {w : Int} {gs : List Int} {m : Nat} (h : m < gs.length) : cnt w gs (m + 1) = cnt w gs m + if gs.getD m 0 = w then 1 else 0 := by
  have h1 : gs[m]? = some (gs.getD m 0) := by
    rw [List.getD_eq_getElem?_getD, List.getElem?_eq_getElem h]
    rfl
  unfold cnt
  rw [take_snoc h1, List.count_append, List.count_singleton]
  by_cases h : gs.getD m 0 = w
  · rw [if_pos h, if_pos (by rw [h]; exact beq_self_eq_true w)]
    rfl
  · rw [if_neg h, if_neg (by rw [beq_iff_eq]; exact h)]
    rfl
theorem cnt_mono {w : Int} {gs : List Int} {m n : Nat} (h : m ≤ n) : cnt w gs m ≤ cnt w gs n := by
  unfold cnt
  have h1 : (gs.take m).count w ≤ (gs.take n).count w := by
    have e : gs.take m = (gs.take n).take m := by rw [List.take_take, Nat.min_eq_left h]
    rw [e]
    exact (List.take_sublist m (gs.take n)).count_le w
  omega
/-- what the units given so far are: w, the watched class; M, the most of a round; al, whether all always wait -/
structure Hist (R w : Nat) (M : Int) (al : Bool) (gs : List Int) (s : ShS) : Prop where
  nn : ∃ m : Nat, gs.length = m * R + s.n.toNat
  sg : s.G.sum = s.n
  gw : cnt w gs gs.length - cnt w gs (gs.length - s.n.toNat) = s.G.getD w 0
  low : s.G.getD w 0 < s.P.getD w 0 → ∀ i, i < s.P.length → s.G.getD i 0 ≤ s.P.getD i 0
  rl : ∀ m : Nat, (m + 1) * R ≤ gs.length → s.P.getD w 0 ≤ cnt w gs ((m + 1) * R) - cnt w gs (m * R)
  up : al = true → ∀ i, i < s.P.length → s.P.getD i 0 < s.G.getD i 0 → ∀ j, j < s.P.length → s.P.getD j 0 ≤ s.G.getD j 0
  rm : al = true → ∀ m : Nat, (m + 1) * R ≤ gs.length → cnt w gs ((m + 1) * R) - cnt w gs (m * R) ≤ M
  pm : al = true → ∀ t : Nat, t ≤ gs.length → cnt w gs t - cnt w gs (t / R * R) ≤ M
theorem Hist.step {R w : Nat} {M : Int} {al : Bool} {gs : List Int} {s : ShS} {k : Nat} {C : List Int} {as : List Nat} (h : Hist R w M al gs s) (ok : ShOk s) (hR : s.R = (R : Int)) (hw : w < s.P.length) (who : Who s as k C) (hwa : w ∈ as) (has : ∀ a ∈ as, a < s.P.length)
    (hal : al = true → ∀ i, i < s.P.length → i ∈ as) (hM : M = s.P.getD w 0 + ((R : Int) - s.P.sum)) (hPs : s.P.sum ≤ (R : Int)) : Hist R w M al (gs ++ [(k : Int)]) (stepF s k C) := by
  have hk := has k who.mem
  have hlG := ok.lg
  have hn0 := ok.n0
  have hRp : 0 < R := by omega
  obtain ⟨m0, hm0⟩ := h.nn
  have hlen : (gs ++ [(k : Int)]).length = gs.length + 1 := by rw [List.length_append]; rfl
  generalize hG' : s.G.set k (s.G.getD k 0 + 1) = G'
  have hlG' : G'.length = s.P.length := by rw [← hG', List.length_set, hlG]
  have hsum : G'.sum = s.n + 1 := by
    rw [← hG', sum_set _ _ _ (by omega), h.sg]
    omega
  have ek : G'.getD k 0 = s.G.getD k 0 + 1 := by rw [← hG', getD_set_eq (by omega)]
  have en : ∀ i, i ≠ k → G'.getD i 0 = s.G.getD i 0 := fun i hi => by rw [← hG', getD_set_ne (Ne.symm hi)]
  have hge : ∀ i, s.G.getD i 0 ≤ G'.getD i 0 := fun i => by
    by_cases e : i = k
    · rw [e, ek]; omega
    · rw [en i e]; exact Int.le_refl _
  -- a promised unit
  have prom : ask1 s as ≠ [] → s.G.getD k 0 < s.P.getD k 0 := fun hne => by
    cases e : ask1 s as with
    | nil => exact absurd e hne
    | cons i r =>
      have h1 : i ∈ ask1 s as := by rw [e]; exact .head _
      rw [(who.pr i r e).1]
      exact of_decide_eq_true (List.mem_filter.mp h1).2
  have low' : G'.getD w 0 < s.P.getD w 0 → ∀ i, i < s.P.length → G'.getD i 0 ≤ s.P.getD i 0 := fun hlt i hi => by
    have h1 := hge w
    have h2 : s.G.getD w 0 < s.P.getD w 0 := by omega
    have h3 : ask1 s as ≠ [] := fun e => by
      have : w ∈ ask1 s as := List.mem_filter.mpr ⟨hwa, decide_eq_true h2⟩
      rw [e] at this
      exact nomatch this
    have h4 := prom h3
    by_cases e : i = k
    · rw [e, ek]; omega
    · rw [en i e]; exact h.low h2 i hi
  have up' : al = true → ∀ i, i < s.P.length → s.P.getD i 0 < G'.getD i 0 → ∀ j, j < s.P.length → s.P.getD j 0 ≤ G'.getD j 0 := fun ha i hi hlt j hj => by
    have h1 := hge j
    by_cases e : i = k
    · rw [e, ek] at hlt
      by_cases h2 : s.P.getD k 0 < s.G.getD k 0
      · have := h.up ha k hk h2 j hj
        omega
      · have h3 : ask1 s as = [] := by
          cases e2 : ask1 s as with
          | nil => rfl
          | cons x r =>
            have := prom (by rw [e2]; exact fun z => (nomatch z))
            omega
        have h4 : ¬ s.G.getD j 0 < s.P.getD j 0 := fun z => by
          have : j ∈ ask1 s as := List.mem_filter.mpr ⟨hal ha j hj, decide_eq_true z⟩
          rw [h3] at this
          exact nomatch this
        omega
    · rw [en i e] at hlt
      have := h.up ha i hi hlt j hj
      omega
  have gw' : cnt w (gs ++ [(k : Int)]) (gs.length + 1) - cnt w (gs ++ [(k : Int)]) (gs.length - s.n.toNat) = G'.getD w 0 := by
    rw [cnt_all, cnt_snoc (by omega)]
    have h1 := h.gw
    by_cases e : k = w
    · rw [← e] at h1
      rw [if_pos (by rw [e]), ← e, ek]
      omega
    · rw [if_neg (by omega), en w (Ne.symm e)]
      omega
  have gM : al = true → G'.getD w 0 ≤ M := fun ha => by
    rw [hM]
    by_cases h1 : s.P.getD w 0 < G'.getD w 0
    · have h2 := up' ha w hw h1
      have h3 := sum_gap (l := s.P) (m := G') hlG'.symm hw h2
      omega
    · omega
  have edge : gs.length - s.n.toNat = m0 * R := by omega
  -- a whole round ends
  have endl : s.n + 1 = (R : Int) → s.P.getD w 0 ≤ G'.getD w 0 := fun e => by
    by_cases h1 : s.P.getD w 0 ≤ G'.getD w 0
    · exact h1
    · have h2 := low' (by omega)
      have h3 := sum_gap (l := G') (m := s.P) (w := w) hlG' (by omega) (fun i hi => h2 i (by omega))
      omega
  have endE : s.n + 1 = (R : Int) → gs.length + 1 = (m0 + 1) * R := fun e => by
    rw [Nat.add_mul, Nat.one_mul]
    omega
  have rdiv : ∀ m : Nat, (m + 1) * R ≤ gs.length + 1 → (m + 1) * R ≤ gs.length ∨ ((m + 1) * R = gs.length + 1 ∧ m = m0 ∧ s.n + 1 = (R : Int)) := fun m hm => by
    by_cases h1 : (m + 1) * R ≤ gs.length
    · exact .inl h1
    · refine .inr ⟨by omega, ?_⟩
      have e : (m + 1) * R = m0 * R + s.n.toNat + 1 := by omega
      rw [Nat.add_mul, Nat.one_mul] at e
      have h2 : m = m0 := by
        rcases Nat.lt_trichotomy m m0 with h3 | h3 | h3
        · have := Nat.mul_le_mul_right R (show m + 1 ≤ m0 from h3)
          rw [Nat.add_mul, Nat.one_mul] at this
          omega
        · exact h3
        · have := Nat.mul_le_mul_right R (show m0 + 1 ≤ m from h3)
          rw [Nat.add_mul, Nat.one_mul] at this
          omega
      refine ⟨h2, ?_⟩
      rw [h2] at e
      omega
  have hlm : ∀ m : Nat, m * R ≤ (m + 1) * R := fun m => Nat.mul_le_mul_right R (Nat.le_succ m)
  have rl' : ∀ m : Nat, (m + 1) * R ≤ (gs ++ [(k : Int)]).length → s.P.getD w 0 ≤ cnt w (gs ++ [(k : Int)]) ((m + 1) * R) - cnt w (gs ++ [(k : Int)]) (m * R) := fun m hm => by
    rw [hlen] at hm
    rcases rdiv m hm with h1 | ⟨h1, h2, h3⟩
    · have := hlm m
      rw [cnt_snoc h1, cnt_snoc (by omega)]
      exact h.rl m h1
    · rw [h1, h2, ← edge, gw']
      exact endl h3
  have rm' : al = true → ∀ m : Nat, (m + 1) * R ≤ (gs ++ [(k : Int)]).length → cnt w (gs ++ [(k : Int)]) ((m + 1) * R) - cnt w (gs ++ [(k : Int)]) (m * R) ≤ M := fun ha m hm => by
    rw [hlen] at hm
    rcases rdiv m hm with h1 | ⟨h1, h2, h3⟩
    · have := hlm m
      rw [cnt_snoc h1, cnt_snoc (by omega)]
      exact h.rm ha m h1
    · rw [h1, h2, ← edge, gw']
      exact gM ha
  have hM0 : al = true → 0 ≤ M := fun ha => by
    have h1 := h.pm ha 0 (Nat.zero_le _)
    rw [Nat.zero_div, Nat.zero_mul] at h1
    omega
  have pm' : al = true → ∀ t : Nat, t ≤ (gs ++ [(k : Int)]).length → cnt w (gs ++ [(k : Int)]) t - cnt w (gs ++ [(k : Int)]) (t / R * R) ≤ M := fun ha t ht => by
    rw [hlen] at ht
    have h0 : t / R * R ≤ t := Nat.div_mul_le_self t R
    by_cases h1 : t ≤ gs.length
    · rw [cnt_snoc h1, cnt_snoc (by omega)]
      exact h.pm ha t h1
    · have e : t = gs.length + 1 := by omega
      by_cases h2 : s.n + 1 = (R : Int)
      · have e2 : t / R * R = t := by rw [e, endE h2, Nat.mul_div_cancel _ hRp]
        rw [e2]
        have := hM0 ha
        omega
      · have e2 : t / R = m0 := by
          rw [e]
          refine Nat.div_eq_of_lt_le (by omega) ?_
          rw [Nat.add_mul, Nat.one_mul]
          omega
        rw [e2, ← edge, e, gw']
        exact gM ha
  unfold stepF
  by_cases hend : s.n + 1 = s.R
  · rw [if_pos hend]
    have hz : ∀ i, (List.replicate s.P.length (0 : Int)).getD i 0 = 0 := fun i => by
      rw [List.getD_eq_getElem?_getD, List.getElem?_replicate]
      split <;> rfl
    have hpn : ∀ i, i < s.P.length → 0 ≤ s.P.getD i 0 := fun i hi => by
      have h1 := ok.ok
      unfold shOk at h1
      simp only [Bool.and_eq_true, List.all_eq_true] at h1
      rw [List.getD_eq_getElem?_getD, List.getElem?_eq_getElem hi]
      exact of_decide_eq_true (h1.2.2.2.1 _ (List.getElem_mem hi))
    refine ⟨⟨m0 + 1, ?_⟩, ?_, ?_, fun _ i hi => ?_, rl', fun _ i hi hlt => ?_, rm', pm'⟩
    · show _ = _ + (0 : Int).toNat
      rw [hlen]
      exact endE (by omega)
    · show (List.replicate _ _).sum = 0
      rw [List.sum_replicate_int]
      omega
    · show cnt _ _ _ - cnt _ _ (_ - 0) = (List.replicate _ _).getD _ _
      rw [hz, Nat.sub_zero]
      omega
    · show (List.replicate _ _).getD _ _ ≤ _
      rw [hz]
      exact hpn i hi
    · have hlt : s.P.getD i 0 < (List.replicate s.P.length (0 : Int)).getD i 0 := hlt
      rw [hz] at hlt
      have := hpn i hi
      omega
  · rw [if_neg hend]
    refine ⟨⟨m0, ?_⟩, ?_, ?_, ?_, rl', ?_, rm', pm'⟩
    · show _ = _ + (s.n + 1).toNat
      rw [hlen]
      omega
    · show (s.G.set _ _).sum = s.n + 1
      rw [hG']
      exact hsum
    · show cnt _ _ _ - cnt _ _ (_ - (s.n + 1).toNat) = (s.G.set _ _).getD _ _
      rw [hG', hlen, show gs.length + 1 - (s.n + 1).toNat = gs.length - s.n.toNat by omega]
      exact gw'
    · show (s.G.set _ _).getD _ _ < _ → _
      rw [hG']
      exact low'
    · show al = true → ∀ i, i < _ → _ < (s.G.set _ _).getD _ _ → ∀ j, j < _ → _ ≤ (s.G.set _ _).getD _ _
      rw [hG']
      exact up'
theorem Hist.start {P W : List Int} {R : Int} {Rn w : Nat} {M : Int} {al : Bool} (hp : ∀ p ∈ P, 0 ≤ p) (hM : 0 ≤ M) (hR : 0 < Rn) : Hist Rn w M al [] ⟨P, W, R, List.replicate P.length 0, List.replicate P.length 0, 0⟩ := by
  have hz : ∀ i, (List.replicate P.length (0 : Int)).getD i 0 = 0 := fun i => by
    rw [List.getD_eq_getElem?_getD, List.getElem?_replicate]
    split <;> rfl
  have hpn : ∀ i, i < P.length → 0 ≤ P.getD i 0 := fun i hi => by
    rw [List.getD_eq_getElem?_getD, List.getElem?_eq_getElem hi]
    exact hp _ (List.getElem_mem hi)
  have hc : ∀ m, cnt (w : Int) [] m = 0 := fun m => by
    unfold cnt
    rw [List.take_nil]
    rfl
  refine ⟨⟨0, by rw [Nat.zero_mul]; rfl⟩, ?_, ?_, fun _ i hi => ?_, fun m hm => ?_, fun _ i hi hlt => ?_, fun _ m hm => ?_, fun _ t ht => ?_⟩
  · show (List.replicate _ _).sum = 0
    rw [List.sum_replicate_int]
    omega
  · rw [hc, hc]
    exact (hz w).symm
  · show (List.replicate _ _).getD _ _ ≤ _
    rw [hz]
    exact hpn i hi
  · have : (m + 1) * Rn = 0 := Nat.le_zero.mp hm
    rcases Nat.mul_eq_zero.mp this with h | h <;> omega
  · have hlt : P.getD i 0 < (List.replicate P.length (0 : Int)).getD i 0 := hlt
    rw [hz] at hlt
    have := hpn i hi
    omega
  · rw [hc, hc]
    omega
  · rw [hc, hc]
    omega
theorem Hist.whole {R w : Nat} {M : Int} {al : Bool} {gs : List Int} {s : ShS} (h : Hist R w M al gs s) (a : Nat) : ∀ q : Nat, (a + q) * R ≤ gs.length → s.P.getD w 0 * (q : Int) ≤ cnt w gs ((a + q) * R) - cnt w gs (a * R) ∧ (al = true → cnt w gs ((a + q) * R) - cnt w gs (a * R) ≤ M * (q : Int))
  | 0, _ => by
    rw [Nat.add_zero]
    refine ⟨?_, fun _ => ?_⟩
    · show s.P.getD w 0 * 0 ≤ _
      omega
    · show _ ≤ M * 0
      omega
  | q + 1, hq => by
    have h0 : (a + q) * R ≤ (a + (q + 1)) * R := Nat.mul_le_mul_right R (by omega)
    obtain ⟨h1, h2⟩ := h.whole a q (by omega)
    have e : (a + (q + 1)) * R = (a + q + 1) * R := by rw [Nat.add_assoc]
    rw [e] at hq ⊢
    have h3 := h.rl (a + q) hq
    have e1 : s.P.getD w 0 * ((q + 1 : Nat) : Int) = s.P.getD w 0 * (q : Int) + s.P.getD w 0 := by
      rw [Int.natCast_add, Int.mul_add]
      show _ + _ * 1 = _
      omega
    have e2 : M * ((q + 1 : Nat) : Int) = M * (q : Int) + M := by
      rw [Int.natCast_add, Int.mul_add]
      show _ + _ * 1 = _
      omega
    refine ⟨by omega, fun ha => ?_⟩
    have h4 := h.rm ha (a + q) hq
    have h5 := h2 ha
    omega
theorem Hist.least {R w : Nat} {M : Int} {al : Bool} {gs : List Int} {s : ShS} (h : Hist R w M al gs s) (hR : 0 < R) {a e : Nat} (hae : a ≤ e) (he : e ≤ gs.length) (q : Nat) (hq : q = 0 ∨ a + q * R + R ≤ e + 1) : s.P.getD w 0 * (q : Int) ≤ cnt w gs e - cnt w gs a := by
  rcases hq with rfl | hq
  · have := cnt_mono (w := w) (gs := gs) hae
    show s.P.getD w 0 * 0 ≤ _
    omega
  · have h1 : (a + R - 1) / R * R ≤ a + R - 1 := Nat.div_mul_le_self _ R
    have h2 : a ≤ (a + R - 1) / R * R := by
      have := Nat.lt_div_mul_add (a := a + R - 1) hR
      omega
    have h3 : ((a + R - 1) / R + q) * R ≤ e := by
      rw [Nat.add_mul]
      omega
    have h4 := (h.whole ((a + R - 1) / R) q (by omega)).1
    have h5 := cnt_mono (w := w) (gs := gs) h2
    have h6 := cnt_mono (w := w) (gs := gs) h3
    omega
theorem Hist.most {R w : Nat} {M : Int} {gs : List Int} {s : ShS} (h : Hist R w M true gs s) (hR : 0 < R) (hM : 0 ≤ M) {a e : Nat} (hae : a ≤ e) (he : e ≤ gs.length) (q : Nat) (hq : e ≤ a / R * R + q * R) : cnt w gs e - cnt w gs a ≤ M * (q : Int) := by
  have h0 : a / R * R ≤ a := Nat.div_mul_le_self a R
  have h1 : e / R * R ≤ e := Nat.div_mul_le_self e R
  have h2 : a / R ≤ e / R := Nat.div_le_div_right hae
  obtain ⟨d, hd⟩ : ∃ d, e / R = a / R + d := ⟨e / R - a / R, by omega⟩
  have h3 := (h.whole (a / R) d (by rw [← hd]; omega)).2 rfl
  rw [← hd] at h3
  have h4 := cnt_mono (w := w) (gs := gs) h0
  by_cases hz : e / R * R = e
  · rw [hz] at h3
    have h5 : d ≤ q := by
      rw [← hz, hd, Nat.add_mul] at hq
      exact Nat.le_of_mul_le_mul_right (by omega) hR
    have h6 : M * (d : Int) ≤ M * (q : Int) := Int.mul_le_mul_of_nonneg_left (by omega) hM
    omega
  · have h5 : d + 1 ≤ q := by
      have h6 : d * R < q * R := by
        rw [hd, Nat.add_mul] at h1 hz
        omega
      exact Nat.lt_of_mul_lt_mul_right h6
    have h6 : M * ((d + 1 : Nat) : Int) ≤ M * (q : Int) := Int.mul_le_mul_of_nonneg_left (by omega) hM
    have e2 : M * ((d + 1 : Nat) : Int) = M * (d : Int) + M := by
      rw [Int.natCast_add, Int.mul_add]
      show _ + _ * 1 = _
      omega
    have h7 := h.pm rfl e he
    omega
section
variable {P : Program} {w : World} {K : PySem.W.Frag} {mg : Str → Option Value} {base : Heap}
def leastF (p R n : Int) : Int := p * (if (n - R + 1) / R > 0 then (n - R + 1) / R else 0)
def mostF (p f R n : Int) : Int := (p + f) * ((n + R - 2) / R + 1)
def roundsF (R n : Int) : Int := (if n - (R - 1) > 0 then n - (R - 1) else 0) / R
def sp_least_units (K : PySem.W.Frag) : Sp := fun vs H Q _ => ∃ (p R n : Int), vs = [.int p, .int R, .int n] ∧ (1 ≤ R ∧ R ≤ 1000) ∧ (0 ≤ p ∧ p ≤ 1000) ∧ (0 ≤ n ∧ n ≤ 100000) ∧ Q (.int (leastF p R n)) H
@[irreducible] def ip_least_units (K : PySem.W.Frag) : Sp := sp_least_units K
theorem op_least_units {K : PySem.W.Frag} {vs : List V} {H : Hp} {Q : VK} {E : XK} (h : sp_least_units K vs H Q E) : ip_least_units K vs H Q E := by
  unfold ip_least_units
  exact h
theorem un_least_units {K : PySem.W.Frag} {vs : List V} {H : Hp} {Q : VK} {E : XK} (h : ip_least_units K vs H Q E) : sp_least_units K vs H Q E := by
  unfold ip_least_units at h
  exact h
theorem ok_least_units (T : Tx P w K mg base) : FnOk P w K mg base CX0 1 T.a_least_units T.d_least_units ["promise", "units", "n"] (ip_least_units K) := by
  refine T.p_least_units.F.ok sc_least_units (fun vs H Q E h => ?_) (fun cdv A outer s H vs Q E hr h => ?_)
  · obtain ⟨p0, R, n, rfl, hR, hp, hn, q⟩ := un_least_units h
    rfl
  · obtain ⟨p0, R, n, rfl, hR, hp, hn, q⟩ := un_least_units h
    refine ⟨_, (pss_one (ps_ret (pe_op op_mulM (pv 0) (pe_callB (call_max2 rfl) (by rfl) T.n_max (by decide +kernel) (pa_cons pe_int (pa_cons (pe_op op_fdivM (pe_op op_addM (pe_op op_subM (pv 2) (pv 1)) pe_int) (pv 1)) pa_nil)))))), ?_⟩
    unfold leastF at q
    (repeat walk_at "rd")
    refine ⟨_, _, rfl, ?_⟩
    (repeat walk_at "rd")
    exact q
def sp_most_units (K : PySem.W.Frag) : Sp := fun vs H Q _ => ∃ (p f R n : Int), vs = [.int p, .int f, .int R, .int n] ∧ (1 ≤ R ∧ R ≤ 1000) ∧ (0 ≤ p ∧ p ≤ 1000) ∧ (0 ≤ f ∧ f ≤ 1000) ∧ (0 ≤ n ∧ n ≤ 100000) ∧ Q (.int (mostF p f R n)) H
@[irreducible] def ip_most_units (K : PySem.W.Frag) : Sp := sp_most_units K
theorem op_most_units {K : PySem.W.Frag} {vs : List V} {H : Hp} {Q : VK} {E : XK} (h : sp_most_units K vs H Q E) : ip_most_units K vs H Q E := by
  unfold ip_most_units
  exact h
theorem un_most_units {K : PySem.W.Frag} {vs : List V} {H : Hp} {Q : VK} {E : XK} (h : ip_most_units K vs H Q E) : sp_most_units K vs H Q E := by
  unfold ip_most_units at h
  exact h
theorem ok_most_units (T : Tx P w K mg base) : FnOk P w K mg base CX0 1 T.a_most_units T.d_most_units ["promise", "free", "units", "n"] (ip_most_units K) := by
  refine T.p_most_units.F.ok sc_most_units (fun vs H Q E h => ?_) (fun cdv A outer s H vs Q E hr h => ?_)
  · obtain ⟨p0, f, R, n, rfl, hR, hp, hf, hn, q⟩ := un_most_units h
    rfl
  · obtain ⟨p0, f, R, n, rfl, hR, hp, hf, hn, q⟩ := un_most_units h
    refine ⟨_, (pss_one (ps_ret (pe_op op_mulM (pe_op op_addM (pv 0) (pv 1)) (pe_op op_addM (pe_op op_fdivM (pe_op op_subM (pe_op op_addM (pv 3) (pv 2)) pe_int) (pv 2)) pe_int)))), ?_⟩
    unfold mostF at q
    (repeat walk_at "rd")
    exact q
def sp_u_law_rounds (K : PySem.W.Frag) : Sp := fun vs H Q _ => ∃ (R n : Int), vs = [.int R, .int n] ∧ (1 ≤ R ∧ R ≤ 1000) ∧ (0 ≤ n ∧ n ≤ 100000) ∧ Q (.int (roundsF R n)) H
@[irreducible] def ip_u_law_rounds (K : PySem.W.Frag) : Sp := sp_u_law_rounds K
theorem op_u_law_rounds {K : PySem.W.Frag} {vs : List V} {H : Hp} {Q : VK} {E : XK} (h : sp_u_law_rounds K vs H Q E) : ip_u_law_rounds K vs H Q E := by
  unfold ip_u_law_rounds
  exact h
theorem un_u_law_rounds {K : PySem.W.Frag} {vs : List V} {H : Hp} {Q : VK} {E : XK} (h : ip_u_law_rounds K vs H Q E) : sp_u_law_rounds K vs H Q E := by
  unfold ip_u_law_rounds at h
  exact h
theorem ok_u_law_rounds (T : Tx P w K mg base) : FnOk P w K mg base CX0 1 T.a_u_law_rounds T.d_u_law_rounds ["units", "n"] (ip_u_law_rounds K) := by
  refine T.p_u_law_rounds.F.ok sc_u_law_rounds (fun vs H Q E h => ?_) (fun cdv A outer s H vs Q E hr h => ?_)
  · obtain ⟨R, n, rfl, hR, hn, q⟩ := un_u_law_rounds h
    rfl
  · obtain ⟨R, n, rfl, hR, hn, q⟩ := un_u_law_rounds h
    refine ⟨_, (pss_cons (ps_set (i := 2) sc_u_law_rounds.nd rfl (Or.inl rfl) pe_int) (pss_cons (ps_forR1 PassesOwn.never rfl rfl T.n_range (pa_cons (pv 0) pa_nil) (pg_name (i := 3) sc_u_law_rounds.nd rfl (Or.inl rfl)) (pss_cons (ps_set (i := 4) sc_u_law_rounds.nd rfl (Or.inl rfl) (pe_op op_fdivM (pe_callB (call_max2 rfl) (by rfl) T.n_max (by decide +kernel) (pa_cons pe_int (pa_cons (pe_op op_subM (pv 1) (pv 3)) pa_nil))) (pv 0))) (pss_cons (ps_ifJ (pt_cmpR op_eq (pv 3) pe_int (nomark _)) (pss_one (ps_set (i := 2) sc_u_law_rounds.nd rfl (Or.inl rfl) (pv 4))) pss_nil) (pss_one (ps_set (i := 2) sc_u_law_rounds.nd rfl (Or.inl rfl) (pe_callB (call_min2 rfl) (by rfl) T.n_min (by decide +kernel) (pa_cons (pv 2) (pa_cons (pv 4) pa_nil)))))))) (pss_one (ps_ret (pv 2))))), ?_⟩
    (repeat walk_at "rd")
    refine rd_forR1 ?_
    (repeat walk_at "rd")
    refine ⟨R, fun i σ H' => Stop (H' = H ∧ ∃ (x3 x4 : Option V) (v : Int), (i ≠ 0 → v = (if n - ((i : Int) - 1) > 0 then n - ((i : Int) - 1) else 0) / R) ∧ (0 ≤ v ∧ v ≤ 100000) ∧ σ = [some (.int R), some (.int n), some (.int v), x3, x4]), rfl, ⟨by omega, by omega⟩, .a ⟨rfl, _, _, 0, fun h => absurd rfl h, ⟨by decide, by decide⟩, rfl⟩, fun i σ' H' hi w => ?_, fun σ' H' w => ?_⟩
    · obtain ⟨rfl, x3, x4, v, hv, hv2, rfl⟩ := w.un
      have hr : ∃ r : Int, (if n - (i : Int) > 0 then n - (i : Int) else 0) / R = r ∧ 0 ≤ r ∧ r ≤ 100000 := by
        refine ⟨_, rfl, Int.ediv_nonneg (by split <;> omega) (by omega), ?_⟩
        have h1 := Int.ediv_le_self R (show 0 ≤ (if n - (i : Int) > 0 then n - (i : Int) else 0) by split <;> omega)
        have h2 : (if n - (i : Int) > 0 then n - (i : Int) else 0) ≤ 100000 := by split <;> omega
        omega
      obtain ⟨r, er, hr0, hr1⟩ := hr
      (repeat walk_at "rd")
      refine ⟨_, _, rfl, ?_⟩
      (repeat walk_at "rd")
      rw [er]
      refine rd_ifJ (fun σ' H2 => Stop (H2 = H' ∧ ∃ v : Int, r ≤ v ∧ v ≤ 100000 ∧ σ' = [some (.int R), some (.int n), some (.int v), some (.int (i : Nat)), some (.int r)])) (fun h => ?_) (fun h => ?_) (fun σ' H2 w => ?_)
      · (repeat walk_at "rd")
        exact .a ⟨rfl, r, Int.le_refl _, hr1, rfl⟩
      · have h0 : ¬ (i : Int) = 0 := fun z => of_decide_eq_false h (congrArg V.int z)
        have h1 := hv (by omega)
        refine .a ⟨rfl, v, ?_, hv2.2, rfl⟩
        rw [h1, ← er]
        refine Int.ediv_le_ediv (by omega) ?_
        split <;> split <;> omega
      obtain ⟨rfl, v2, hle, hv3, rfl⟩ := w.un
      (repeat walk_at "rd")
      refine ⟨_, _, rfl, ?_⟩
      (repeat walk_at "rd")
      have e : (if r < v2 then r else v2) = r := by split <;> omega
      rw [e]
      refine .a ⟨rfl, some (.int (i : Nat)), some (.int r), r, fun _ => ?_, ⟨hr0, hr1⟩, rfl⟩
      rw [← er, show (((i + 1 : Nat) : Int) - 1) = (i : Int) by omega]
    · obtain ⟨rfl, x3, x4, v, hv, hv2, rfl⟩ := w.un
      (repeat walk_at "rd")
      have h1 := hv (by omega)
      rw [h1] 
      have e : ((R.toNat : Nat) : Int) = R := by omega
      rw [e]
      exact q
end
theorem shOk_iff {P W : List Int} {R : Int} : shOk P W R = true ↔ P.length = W.length ∧ P ≠ [] ∧ 1 ≤ R ∧ (∀ p ∈ P, 0 ≤ p) ∧ (∀ w ∈ W, 1 ≤ w) ∧ P.sum ≤ R := by
  unfold shOk
  simp [List.all_eq_true]
theorem sum_nn {P : List Int} (h : ∀ p ∈ P, 0 ≤ p) : 0 ≤ P.sum := by
  induction P with
  | nil => exact Int.le_refl _
  | cons a l ih =>
    have h1 := ih fun p hp => h p (.tail _ hp)
    have h2 := h a (.head _)
    rw [List.sum_cons]
    omega
theorem sum_le {P : List Int} {m : Int} (h : ∀ p ∈ P, p ≤ m) : P.sum ≤ m * (P.length : Int) := by
  induction P with
  | nil => show (0 : Int) ≤ m * 0; omega
  | cons a l ih =>
    have h1 := ih fun p hp => h p (.tail _ hp)
    have h2 := h a (.head _)
    rw [List.sum_cons, List.length_cons]
    have e : m * ((l.length + 1 : Nat) : Int) = m * (l.length : Int) + m := by
      rw [Int.natCast_add, Int.mul_add]
      show _ + m * 1 = _
      omega
    omega
theorem at4 (n : Nat) : ∃ v : Int, atI [V.int 60, V.int 60, V.int 60, V.int 300] ((n : Int) % 4) = some (V.int v) ∧ 1 ≤ v ∧ v ≤ 300 := by
  have h : (n : Int) % 4 = 0 ∨ (n : Int) % 4 = 1 ∨ (n : Int) % 4 = 2 ∨ (n : Int) % 4 = 3 := by omega
  rcases h with h | h | h | h <;> rw [h] <;> exact ⟨_, rfl, by decide, by decide⟩
theorem rg_ok : ∀ n : Fin 301, RgC 0 (n : Nat) (1 + ((n : Nat) : Int) / 12) (Builtin.Range.rangeSize 0 (n : Nat) (1 + ((n : Nat) : Int) / 12)).toNat ∧ (Builtin.Range.rangeSize 0 (n : Nat) (1 + ((n : Nat) : Int) / 12)).toNat ≤ 300 := by
  unfold RgC
  decide +kernel
theorem rg_len {n : Nat} (h : n ≤ 300) : ∃ m : Nat, RgC 0 (n : Int) (1 + (n : Int) / 12) m ∧ m ≤ 300 := ⟨_, rg_ok ⟨n, by omega⟩⟩
theorem st_of_turn {i len : Nat} (hi : i < 300) (hl : len ≤ 300) : ∃ st : Nat, (0 : Int) + (i : Int) * (1 + (len : Int) / 12) = (st : Int) ∧ st ≤ 8000 := by
  have h0 : 0 ≤ (len : Int) / 12 ∧ (len : Int) / 12 ≤ 25 := by omega
  have h1 : (0 : Int) ≤ (i : Int) * (1 + (len : Int) / 12) := Int.mul_nonneg (by omega) (by omega)
  have h2 : (i : Int) * (1 + (len : Int) / 12) ≤ 300 * 26 := Int.mul_le_mul (by omega) (by omega) (by omega) (by decide)
  exact ⟨((i : Int) * (1 + (len : Int) / 12)).toNat, by omega, by omega⟩
theorem rounds_q {R n : Int} (hR : 1 ≤ R) (hn : 0 ≤ n) : ∃ q : Nat, roundsF R n = (q : Int) ∧ (if (n - R + 1) / R > 0 then (n - R + 1) / R else 0) = (q : Int) ∧ (q = 0 ∨ (q : Int) * R + R ≤ n + 1) := by
  unfold roundsF
  by_cases h : n - (R - 1) > 0
  · have h0 : 0 ≤ (n - R + 1) / R := Int.ediv_nonneg (by omega) (by omega)
    have e : n - (R - 1) = n - R + 1 := by omega
    have h2 : (n - R + 1) / R * R ≤ n - R + 1 := Int.ediv_mul_le _ (by omega)
    refine ⟨((n - R + 1) / R).toNat, ?_, ?_, .inr ?_⟩
    · rw [if_pos h, e]
      omega
    · split <;> omega
    · have e2 : (((n - R + 1) / R).toNat : Int) = (n - R + 1) / R := by omega
      rw [e2]
      omega
  · refine ⟨0, ?_, ?_, .inl rfl⟩
    · rw [if_neg h, Int.zero_ediv]
      rfl
    · by_cases h1 : n - R + 1 = 0
      · rw [h1, Int.zero_ediv]
        rfl
      · have : (n - R + 1) / R < 0 := Int.ediv_neg_of_neg_of_pos (by omega) (by omega)
        rw [if_neg (by omega)]
        rfl
theorem Hist.fine {R : Int} {w : Nat} {M : Int} {al : Bool} {gs : List Int} {s : ShS} (h : Hist R.toNat w M al gs s) (hR : 1 ≤ R) (hM : 0 ≤ M) {a j : Nat} (hj : a + j < gs.length) {p f : Int} (hp : s.P.getD w 0 = p) (hMp : M = p + f) :
    leastF p R ((j : Int) + 1) ≤ cnt w gs (a + j + 1) - cnt w gs a ∧ (al = true → cnt w gs (a + j + 1) - cnt w gs a ≤ mostF p f R ((j : Int) + 1)) ∧ leastF p R ((j : Int) + 1) = p * roundsF R ((j : Int) + 1) := by
  obtain ⟨q, h1, h2, h3⟩ := rounds_q hR (show 0 ≤ (j : Int) + 1 by omega)
  have eR : ((R.toNat : Nat) : Int) = R := by omega
  unfold leastF
  rw [h2, h1]
  refine ⟨?_, fun ha => ?_, rfl⟩
  · rw [← hp]
    refine h.least (by omega) (by omega) (by omega) q ?_
    rcases h3 with h3 | h3
    · exact .inl h3
    · right
      have e : ((q * R.toNat : Nat) : Int) = (q : Int) * R := by rw [Int.natCast_mul, eR]
      omega
  · subst ha
    unfold mostF
    have h0 : 0 ≤ ((j : Int) + 1 + R - 2) / R := Int.ediv_nonneg (by omega) (by omega)
    have h4 := Int.lt_ediv_add_one_mul_self ((j : Int) + 1 + R - 2) (show 0 < R by omega)
    generalize hq : (((j : Int) + 1 + R - 2) / R + 1).toNat = q2
    have e2 : ((j : Int) + 1 + R - 2) / R + 1 = (q2 : Int) := by omega
    rw [e2] at h4 ⊢
    rw [← hMp]
    refine h.most (by omega) hM (by omega) (by omega) q2 ?_
    have e : ((q2 * R.toNat : Nat) : Int) = (q2 : Int) * R := by rw [Int.natCast_mul, eR]
    have h5 := Nat.lt_div_mul_add (a := a) (show 0 < R.toNat by omega)
    omega
abbrev lcells38 (C t a g : Addr) (A : ShAd) (s : ShS) (gs : List Int) (i r z : Int) : List (Addr × HO) := (t, tapeL a i r z) :: (g, .lst (gs.map V.int)) :: shcells C A s
structure IV38 (C t aT g p pa wa : Addr) (ns P W : List Int) (R : Int) (wd : Nat) (M : Int) (al : Bool) (H0 B : Hp) (A : ShAd) (s : ShS) (gs : List Int) (i r z : Int) (H' : Hp) : Prop where
  w : Own H0 H0 [] B (lcells38 C t aT g A s gs i r z) H'
  tk : TapeOk2 ns i r z
  ok : ShOk s
  sb : ShB A s B
  eP : s.P = P
  eW : s.W = W
  eR : s.R = R
  hi : Hist R.toNat wd M al gs s
  ep : A.p = p
  hT : B aT = some (.lst (ns.map V.int))
  hP : B pa = some (.lst (P.map V.int))
section
variable {P : Program} {w : World} {K : PySem.W.Frag} {mg : Str → Option Value} {base : Heap}
def sp_law (K : PySem.W.Frag) : Sp := fun vs H Q _ => ∃ (a : Addr) (ns : List Int), vs = [.ref a] ∧ SqL K H a (ns.map V.int) ∧ ns.length ≤ 63 ∧ ∀ H', Q (.bl true) H'
@[irreducible] def ip_law (K : PySem.W.Frag) : Sp := sp_law K
theorem op_law {K : PySem.W.Frag} {vs : List V} {H : Hp} {Q : VK} {E : XK} (h : sp_law K vs H Q E) : ip_law K vs H Q E := by
  unfold ip_law
  exact h
theorem un_law {K : PySem.W.Frag} {vs : List V} {H : Hp} {Q : VK} {E : XK} (h : ip_law K vs H Q E) : sp_law K vs H Q E := by
  unfold ip_law at h
  exact h
theorem ok_law (T : Tx P w K mg base) : FnOk P w K mg base CX0 5 T.a_law T.d_law ["script"] (ip_law K) := by
  have G_u_law_next := ok_u_law_next T
  have G_Shares___init__ := ok_Shares___init__ T
  have G_Shares_give := ok_Shares_give T
  have G_least_units := ok_least_units T
  have G_most_units := ok_most_units T
  have G_u_law_rounds := ok_u_law_rounds T
  refine T.p_law.F.ok sc_law (fun vs H Q E h => ?_) (fun cdv A outer s H vs Q E hr h => ?_)
  · obtain ⟨a, ns, rfl, hS, hlen, q⟩ := un_law h
    rfl
  · obtain ⟨a, ns, rfl, hS, hlen, q⟩ := un_law h
    refine ⟨_, (pss_cons (ps_set (i := 1) sc_law.nd rfl (Or.inr rfl) (pe_lstM (pa_cons (pe_callTy call_listM (by rfl) T.n_list (by decide +kernel) (pa_cons (pv 0) pa_nil)) (pa_cons pe_int (pa_cons pe_int (pa_cons pe_int pa_nil)))))) (pss_cons (ps_set (i := 2) sc_law.nd rfl (Or.inl rfl) (pe_op op_addM pe_int (pe_call G_u_law_next (hr.mono (by decide)) rfl T.p_u_law_next.m T.p_u_law_next.F.kp T.p_u_law_next.b .nil pass0 (pa_cons (pv 1) (pa_cons pe_int pa_nil))))) (pss_cons (ps_setLcW (i := 3) (own := [("k", 19)]) (g := (gName 19)) [19] im_rng1 rfl sc_law.nd rfl rfl (sw_true rfl rfl rfl (by decide +kernel)) (pi_range1 (by rfl) T.n_range (pa_c (pa_cons (pv 2) pa_nil))) (blkOk_by (own := [("k", 19)]) (N := ["script", "tape", "many", "promises", "weights", "free", "units", "shares", "watched", "always", "got", "turn", "waiting", "start", "had", "end", "n", "least", "most", "k"]) (sc := defScope S_law) (by decide +kernel)) (fun _ _ _ _ _ => (pg_name (i := 19) sc_law.nd rfl (Or.inl rfl))) (fun _ _ _ _ _ => pts_nil) (fun _ _ _ _ _ => (pe_call G_u_law_next (hr.mono (by decide)) rfl T.p_u_law_next.m T.p_u_law_next.F.kp T.p_u_law_next.b .nil pass0 (pa_cons (pv 1) (pa_cons pe_int pa_nil))))) (pss_cons (ps_setLcW (i := 4) (own := [("k", 19)]) (g := (gName 19)) [19] im_rng1 rfl sc_law.nd rfl rfl (sw_true rfl rfl rfl (by decide +kernel)) (pi_range1 (by rfl) T.n_range (pa_c (pa_cons (pv 2) pa_nil))) (blkOk_by (own := [("k", 19)]) (N := ["script", "tape", "many", "promises", "weights", "free", "units", "shares", "watched", "always", "got", "turn", "waiting", "start", "had", "end", "n", "least", "most", "k"]) (sc := defScope S_law) (by decide +kernel)) (fun _ _ _ _ _ => (pg_name (i := 19) sc_law.nd rfl (Or.inl rfl))) (fun _ _ _ _ _ => pts_nil) (fun _ _ _ _ _ => (pe_op op_addM pe_int (pe_call G_u_law_next (hr.mono (by decide)) rfl T.p_u_law_next.m T.p_u_law_next.F.kp T.p_u_law_next.b .nil pass0 (pa_cons (pv 1) (pa_cons pe_int pa_nil)))))) (pss_cons (ps_set (i := 5) sc_law.nd rfl (Or.inl rfl) (pe_call G_u_law_next (hr.mono (by decide)) rfl T.p_u_law_next.m T.p_u_law_next.F.kp T.p_u_law_next.b .nil pass0 (pa_cons (pv 1) (pa_cons pe_int pa_nil)))) (pss_cons (ps_ifJ (pt_cmpR op_eq (pe_callB (call_sumM rfl) (by rfl) T.n_sum (by decide +kernel) (pa_cons (pv 3) pa_nil)) pe_int (nomark _)) (pss_one (ps_set (i := 5) sc_law.nd rfl (Or.inl rfl) (pe_op op_addM pe_int (pv 5)))) pss_nil) (pss_cons (ps_set (i := 6) sc_law.nd rfl (Or.inl rfl) (pe_op op_addM (pe_callB (call_sumM rfl) (by rfl) T.n_sum (by decide +kernel) (pa_cons (pv 3) pa_nil)) (pv 5))) (pss_cons (ps_set (i := 7) sc_law.nd rfl (Or.inl rfl) (pe_make T.k_Shares.mk' G_Shares___init__ (hr.mono (by decide)) rfl T.g_Shares T.p_Shares___init__.b .nil passL (pa_cons (pv 3) (pa_cons (pv 4) (pa_cons (pv 6) pa_nil))))) (pss_cons (ps_set (i := 8) sc_law.nd rfl (Or.inr rfl) (pe_call G_u_law_next (hr.mono (by decide)) rfl T.p_u_law_next.m T.p_u_law_next.F.kp T.p_u_law_next.b .nil pass0 (pa_cons (pv 1) (pa_cons (pv 2) pa_nil)))) (pss_cons (ps_set (i := 9) sc_law.nd rfl (Or.inr rfl) (pe_cmpR op_eq (pe_call G_u_law_next (hr.mono (by decide)) rfl T.p_u_law_next.m T.p_u_law_next.F.kp T.p_u_law_next.b .nil pass0 (pa_cons (pv 1) (pa_cons pe_int pa_nil))) pe_int (nomark _))) (pss_cons (ps_set (i := 10) sc_law.nd rfl (Or.inl rfl) (pe_lstM pa_nil)) (pss_cons (ps_forR1 PassesOwn.never rfl rfl T.n_range (pa_cons (pe_call G_u_law_next (hr.mono (by decide)) rfl T.p_u_law_next.m T.p_u_law_next.F.kp T.p_u_law_next.b .nil pass0 (pa_cons (pv 1) (pa_cons (pe_ix ix_listM (pe_lstM (pa_cons pe_int (pa_cons pe_int (pa_cons pe_int (pa_cons pe_int pa_nil))))) (pe_op op_modM (pe_callB call_lenM (by rfl) T.n_len PySem.boot_len (pa_cons (pv 0) pa_nil)) pe_int) (fun _ _ => rfl)) pa_nil))) pa_nil) (pg_name (i := 11) sc_law.nd rfl (Or.inl rfl)) (pss_cons (ps_setLcW (i := 12) (own := [("k", 19)]) (g := (gName 19)) [19] im_rng1 rfl sc_law.nd rfl rfl (sw_true rfl rfl rfl (by decide +kernel)) (pi_range1 (by rfl) T.n_range (pa_c (pa_cons (pv 2) pa_nil))) (blkOk_by (own := [("k", 19)]) (N := ["script", "tape", "many", "promises", "weights", "free", "units", "shares", "watched", "always", "got", "turn", "waiting", "start", "had", "end", "n", "least", "most", "k"]) (sc := defScope S_law) (by decide +kernel)) (fun _ _ _ _ _ => (pg_name (i := 19) sc_law.nd rfl (Or.inl rfl))) (fun _ _ _ _ _ => pts_nil) (fun _ _ _ _ _ => (pe_orM (pv 9) (pe_orM (pe_cmpR op_eq (pv 19) (pv 8) (nomark _)) (pe_one (pe_cmpR op_gtM (pe_call G_u_law_next (hr.mono (by decide)) rfl T.p_u_law_next.m T.p_u_law_next.F.kp T.p_u_law_next.b .nil pass0 (pa_cons (pv 1) (pa_cons pe_int pa_nil))) pe_int (nomark _))))))) (pss_one (ps_expr (pe_app (pv 10) (meth_weak (pe_meth (pe_c (pv 7)) T.k_Shares.cl T.p_Shares_give.me G_Shares_give (hr.mono (by decide)) T.p_Shares_give.b .nil passL (pa_cons (pv 12) pa_nil)))))))) (pss_cons (ps_forR3 PassesOwn.never rfl rfl T.n_range (pa_cons pe_int (pa_cons (pe_callB call_lenM (by rfl) T.n_len PySem.boot_len (pa_cons (pv 10) pa_nil)) (pa_cons (pe_op op_addM pe_int (pe_op op_fdivM (pe_callB call_lenM (by rfl) T.n_len PySem.boot_len (pa_cons (pv 10) pa_nil)) pe_int)) pa_nil))) (pg_name (i := 13) sc_law.nd rfl (Or.inl rfl)) (pss_cons (ps_set (i := 14) sc_law.nd rfl (Or.inl rfl) pe_int) (pss_one (ps_forR2 PassesOwn.never rfl rfl T.n_range (pa_cons (pv 13) (pa_cons (pe_callB call_lenM (by rfl) T.n_len PySem.boot_len (pa_cons (pv 10) pa_nil)) pa_nil)) (pg_name (i := 15) sc_law.nd rfl (Or.inl rfl)) (pss_cons (ps_set (i := 14) sc_law.nd rfl (Or.inl rfl) (pe_op op_addM (pv 14) (pe_callTy call_int1 (by rfl) T.n_int (by decide +kernel) (pa_cons (pe_cmpR op_eq (pe_ix ix_listM (pv 10) (pv 15) (fun _ _ => rfl)) (pv 8) (nomark _)) pa_nil)))) (pss_cons (ps_set (i := 16) sc_law.nd rfl (Or.inl rfl) (pe_op op_addM (pe_op op_subM (pv 15) (pv 13)) pe_int)) (pss_cons (ps_set (i := 17) sc_law.nd rfl (Or.inl rfl) (pe_call G_least_units (hr.mono (by decide)) rfl T.p_least_units.m T.p_least_units.F.kp T.p_least_units.b .nil pass0 (pa_cons (pe_ix ix_listM (pv 3) (pv 8) (fun _ _ => rfl)) (pa_cons (pv 6) (pa_cons (pv 16) pa_nil))))) (pss_cons (ps_set (i := 18) sc_law.nd rfl (Or.inl rfl) (pe_call G_most_units (hr.mono (by decide)) rfl T.p_most_units.m T.p_most_units.F.kp T.p_most_units.b .nil pass0 (pa_cons (pe_ix ix_listM (pv 3) (pv 8) (fun _ _ => rfl)) (pa_cons (pv 5) (pa_cons (pv 6) (pa_cons (pv 16) pa_nil)))))) (pss_cons (ps_ifC (PW.pt (pw_orM (pt_cmpR op_ltM (pv 14) (pv 17) (nomark _)) (pw_or1 (PW.pt (pw_andM (pt_val (pv 9)) (pw_and1 (pt_cmpR op_gtM (pv 14) (pv 18) (nomark _)))))))) (pss_one (ps_ret pe_bl)) pss_nil) (pss_one (ps_ifM (pt_cmpR op_ne (pv 17) (pe_op op_mulM (pe_ix ix_listM (pv 3) (pv 8) (fun _ _ => rfl)) (pe_call G_u_law_rounds (hr.mono (by decide)) rfl T.p_u_law_rounds.m T.p_u_law_rounds.F.kp T.p_u_law_rounds.b .nil pass0 (pa_cons (pv 6) (pa_cons (pv 16) pa_nil)))) (nomark _)) (pss_one (ps_ret pe_bl)) pss_nil))))))))))) (pss_one (ps_ret pe_bl))))))))))))))), ?_⟩
    (repeat walk_at "rd")
    refine rd_list hS ?_
    intro a2 H1 n1 s1 e1
    obtain ⟨B1, sB1, hB1, _, w1⟩ := (Own.mk0 (H := H)).ro n1 s1 e1
    (repeat walk_at "rd")
    intro t H2 n2 s2 e2
    have w2 : Own H H [] B1 [(t, tapeL a2 0 0 5)] H2 := w1.add n2 s2 e2
    have ok2 : TapeOk2 ns 0 0 5 := ⟨⟨by decide, by omega⟩, by decide, ⟨by decide, by decide⟩⟩
    have hSa : ∀ {B' H' : Hp}, Same B1 B' → Same B' H' → SqL K H' a2 (ns.map V.int) := fun s s' => sq_of (s' _ _ (s _ _ hB1))
    (repeat walk_at "rd")
    refine next_tp ⟨0, 0, 5, ok2, w2.mem (.head _)⟩ (hSa (Same.refl _) w2.imm) ⟨by decide, by decide⟩ fun x3 H3 hx0 hx1 tp3 => ?_
    obtain ⟨i3, r3, z3, ok3, w3⟩ := w2.tape tp3
    generalize hmn : x3.toNat + 1 = mn
    have emn : 1 + x3 = (mn : Int) := by omega
    (repeat walk_at "rd")
    rw [emn]
    refine frG (σ' := [some (.ref a), some (.ref t), some (.int (mn : Nat)), none, none, none, none, none, none, none, none, none, none, none, none, none, none, none, none, none]) rfl ?_
    refine rd_lcW ?_
    walk_at "rd"
    walk_at "rd"
    refine rng1_ok (by omega) ?_
    refine wl_tape (ns := ns) (a := a2) (n := mn) (fun v => ∃ n : Int, v = .int n ∧ (0 ≤ n ∧ n < 4)) (by omega) (TpN.start ok3 (w3.mem (.head _))) (fun i hi H' R tp k => ?_) (fun pa xs H4 hD hl hxs tp4 e4 => ?_)
    · (repeat walk_at "rd")
      refine next_tp tp.tp (tp.seq (fun z => ?_) (hSa (Same.refl _) w3.imm)) ⟨by decide, by decide⟩ fun x H5 h0 h1 tp5 => k _ _ ⟨x, rfl, h0, h1⟩ tp5
      have := w3.c.dis t _ (.head _)
      rw [← z, hB1] at this
      cases this
    obtain ⟨P', rfl, hP'⟩ := ints_of hxs
    rw [List.length_map] at hl
    obtain ⟨B4, i4, r4, z4, sB4, hB4, ok4, w4⟩ := w3.tapeD tp4 hD e4
    refine frG (σ' := [some (.ref a), some (.ref t), some (.int (mn : Nat)), some (.ref pa), none, none, none, none, none, none, none, none, none, none, none, none, none, none, none, none]) rfl ?_
    refine rd_lcW ?_
    walk_at "rd"
    walk_at "rd"
    refine rng1_ok (by omega) ?_
    refine wl_tape (ns := ns) (a := a2) (n := mn) (fun v => ∃ n : Int, v = .int n ∧ 1 ≤ n) (by omega) (TpN.start ok4 (w4.mem (.head _))) (fun i hi H' R tp k => ?_) (fun wa xs H5 hD5 hl5 hxs tp5 e5 => ?_)
    · (repeat walk_at "rd")
      refine next_tp tp.tp (tp.seq (fun z => ?_) (hSa sB4 w4.imm)) ⟨by decide, by decide⟩ fun x H5 h0 h1 tp5 => ?_
      · have := w4.c.dis t _ (.head _)
        rw [← z, sB4 _ _ hB1] at this
        cases this
      (repeat walk_at "rd")
      exact k _ _ ⟨1 + x, rfl, by omega⟩ tp5
    obtain ⟨W', rfl, hW'⟩ := ints_of hxs
    rw [List.length_map] at hl5
    obtain ⟨B5, i5, r5, z5, sB5, hB5, ok5, w5⟩ := w4.tapeD tp5 hD5 e5
    have sB15 := sB4.trans sB5
    refine frG (σ' := [some (.ref a), some (.ref t), some (.int (mn : Nat)), some (.ref pa), some (.ref wa), none, none, none, none, none, none, none, none, none, none, none, none, none, none, none]) rfl ?_
    (repeat walk_at "rd")
    refine next_tp ⟨i5, r5, z5, ok5, w5.mem (.head _)⟩ (hSa sB15 w5.imm) ⟨by decide, by decide⟩ fun x6 H6 hx60 hx61 tp6 => ?_
    obtain ⟨i6, r6, z6, ok6, w6⟩ := w5.tape tp6
    have hpa6 := w6.imm _ _ (sB5 _ _ hB4)
    have hwa6 := w6.imm _ _ hB5
    have hPs := sum_le (m := 3) (P := P') fun p hp => by have := hP' p hp; omega
    have hPn := sum_nn (P := P') fun p hp => (hP' p hp).1
    rw [hl] at hPs
    (repeat walk_at "rd")
    refine rd_ifJ (fun σ' H' => Stop (H' = H6 ∧ ∃ f : Int, 0 ≤ f ∧ f ≤ 10 ∧ 1 ≤ P'.sum + f ∧ σ' = [some (.ref a), some (.ref t), some (.int (mn : Nat)), some (.ref pa), some (.ref wa), some (.int f), none, none, none, none, none, none, none, none, none, none, none, none, none, none])) (fun h => ?_) (fun h => ?_) (fun σ' H7 w => ?_)
    · have e := V.int.inj (of_decide_eq_true h)
      (repeat walk_at "rd")
      exact .a ⟨rfl, 1 + x6, by omega, by omega, by omega, rfl⟩
    · have e : ¬ P'.sum = 0 := fun z => of_decide_eq_false h (congrArg V.int z)
      exact .a ⟨rfl, x6, by omega, by omega, by omega, rfl⟩
    obtain ⟨rfl, f, hf0, hf1, hf2, rfl⟩ := w.un
    clear w
    generalize hR : P'.sum + f = R
    have okP : shOk P' W' R = true := shOk_iff.mpr ⟨by omega, fun z => by rw [z] at hl; have : (0 : Nat) = mn := hl; omega, by omega, fun p hp => (hP' p hp).1, hW', by omega⟩
    (repeat walk_at "rd")
    rw [hR]
    intro p dx nx ndx nxd
    have w8 := w6.addR nx ((same_upd (o := .own p) ndx).trans (same_upd (by rw [upd_ne (Ne.symm nxd)]; exact nx))) (upd_same (o := .ins T.C_Shares dx []))
    have w8p := w8.perm (List.perm_append_comm (l₁ := [(p, HO.ins T.C_Shares dx [])]) (l₂ := [(t, tapeL a2 i6 r6 z6)]))
    refine op_Shares___init__ ⟨p, dx, pa, wa, P', W', R, B5, rfl, w8p.cellsL (lc := [(p, .ins T.C_Shares dx [])]) (lr := [(t, tapeL a2 i6 r6 z6)]), sq_of (w8.imm _ _ (sB5 _ _ hB4)), sq_of (w8.imm _ _ hB5), by omega, fun _ A B9 H9 eA1 eA2 w9' shb => ?_, fun z => by rw [okP] at z; cases z⟩
    have w9 := w8p.call (lc := [(p, .ins T.C_Shares dx [])]) (lr := [(t, tapeL a2 i6 r6 z6)]) w9'
    have w9 := w9.reorder [3, 0, 1, 2]
    have sB59 := w9'.grow
    refine ⟨rfl, ?_⟩
    subst eA1
    refine frG (σ' := [some (.ref a), some (.ref t), some (.int (mn : Nat)), some (.ref pa), some (.ref wa), some (.int f), some (.int R), some (.ref A.p), none, none, none, none, none, none, none, none, none, none, none, none]) rfl ?_
    have sB19 := sB15.trans sB59
    (repeat walk_at "rd")
    refine next_tp ⟨i6, r6, z6, ok6, w9.mem (.head _)⟩ (hSa sB19 w9.imm) ⟨by omega, by omega⟩ fun wd0 H10 hwd0 hwd1 tp10 => ?_
    obtain ⟨i10, r10, z10, ok10, w10⟩ := w9.tape tp10
    generalize hwd : wd0.toNat = wd
    have ewd : wd0 = (wd : Int) := by omega
    (repeat walk_at "rd")
    refine next_tp ⟨i10, r10, z10, ok10, w10.mem (.head _)⟩ (hSa sB19 w10.imm) ⟨by omega, by omega⟩ fun xA H11 _ _ tp11 => ?_
    obtain ⟨i11, r11, z11, ok11, w11⟩ := w10.tape tp11
    (repeat walk_at "rd")
    intro g H12 n12 s12 e12
    have w12 := (w11.add n12 s12 e12).reorder [1, 0, 2, 3, 4]
    generalize decide (V.int xA = V.int 0) = al
    rw [ewd]
    refine frG (σ' := [some (.ref a), some (.ref t), some (.int (mn : Nat)), some (.ref pa), some (.ref wa), some (.int f), some (.int R), some (.ref A.p), some (.int (wd : Nat)), some (.bl al), some (.ref g), none, none, none, none, none, none, none, none, none]) rfl ?_
    refine rd_forR1 ?_
    (repeat walk_at "rd")
    intro l19 H19 n19 s19 e19
    have w19 := w12.more s19
    have hS19 : SqL K H19 a (ns.map V.int) := (w19.grow.trans w19.imm).seq hS
    (repeat walk_at "rd")
    have h4 := at4 ns.length
    obtain ⟨v4, hv4, hv5⟩ := h4
    refine rd_ixL (sq_of e19) hv4 ?_
    (repeat walk_at "rd")
    have iv0 : IV38 T.C_Shares t a2 g A.p pa wa ns P' W' R wd (P'.getD wd 0 + f) al H B9 A ⟨P', W', R, List.replicate P'.length 0, List.replicate P'.length 0, 0⟩ [] i11 r11 z11 H19 :=
      ⟨w19, ok11, ⟨okP, by show (List.replicate _ _).length = _; rw [List.length_replicate], by show (List.replicate _ _).length = _; rw [List.length_replicate], by show P'.length ≤ 10; omega, ⟨Int.le_refl _, by show 0 < R; omega⟩⟩, shb, rfl, rfl, rfl, Hist.start (fun p hp => (hP' p hp).1) (by
        have h2 : 0 ≤ P'.getD wd 0 := by
          rw [List.getD_eq_getElem?_getD, List.getElem?_eq_getElem (by omega)]
          exact (hP' _ (List.getElem_mem _)).1
        omega) (by omega), rfl, sB59 _ _ (sB15 _ _ hB1), sB59 _ _ (sB5 _ _ hB4)⟩
    refine next_tp ⟨i11, r11, z11, ok11, w19.mem (.head _)⟩ (sq_of (w19.imm _ _ iv0.hT)) (by omega) fun xT H20 hT0 hT1 tp20 => ?_
    obtain ⟨i20, r20, z20, ok20, w20⟩ := iv0.w.tape tp20
    have iv20 : IV38 T.C_Shares t a2 g A.p pa wa ns P' W' R wd (P'.getD wd 0 + f) al H B9 A ⟨P', W', R, List.replicate P'.length 0, List.replicate P'.length 0, 0⟩ [] i20 r20 z20 H20 := ⟨w20, ok20, iv0.ok, iv0.sb, rfl, rfl, rfl, iv0.hi, rfl, iv0.hT, iv0.hP⟩
    (repeat walk_at "rd")
    clear iv0 w19 w12 w11 w10 w9' w9 w8p w8 w6 w5 w4 w3 w2 w1 w20 tp3 tp4 tp5 tp6 tp10 tp11 tp20 s1 s2 s12 s19 e1 e2 e4 e5 e12 e19 n1 n2 n12 n19 hS19 hpa6 hwa6
    refine ⟨xT, fun j σ H' => Stop (∃ (B : Hp) (A' : ShAd) (s : ShS) (gs : List Int) (i r z : Int) (y11 y12 : Option V), IV38 T.C_Shares t a2 g A.p pa wa ns P' W' R wd (P'.getD wd 0 + f) al H B A' s gs i r z H' ∧ gs.length ≤ j ∧
      σ = [some (.ref a), some (.ref t), some (.int (mn : Nat)), some (.ref pa), some (.ref wa), some (.int f), some (.int R), some (.ref A.p), some (.int (wd : Nat)), some (.bl al), some (.ref g), y11, y12, none, none, none, none, none, none, none]), rfl, ⟨by omega, by omega⟩, .a ⟨B9, A, _, _, _, _, _, _, _, iv20, Nat.le_refl _, rfl⟩, fun j σ' H' hj w => ?_, fun σ' H' w => ?_⟩
    · obtain ⟨B, A', s', gs, i, r, z, y11, y12, iv, hgl, rfl⟩ := w.un
      clear iv20 w
      obtain ⟨w0, tk, ok, sb, eP, eW, eR, hh, ep, hT, hP⟩ := iv
      refine rd_lcW ?_
      walk_at "rd"
      walk_at "rd"
      refine rng1_ok (by omega) ?_
      refine wl_tapeI (ns := ns) (a := a2) (n := mn) (fun i v => ∃ b : Bool, v = .bl b ∧ (al = true → b = true) ∧ (i = wd → b = true)) (by omega) (TpN.start tk (w0.mem (.head _))) (fun i hi H' R tp k => ?_) (fun wt xs H22 hD hl2 hxs tp22 e22 => ?_)
      · (repeat walk_at "rd")
        refine br_b (fun ha => ?_) (fun ha => ?_)
        · exact k _ _ ⟨true, rfl, fun _ => rfl, fun _ => rfl⟩ (TpN.start tp.tp.choose_spec.choose_spec.choose_spec.1 tp.tp.choose_spec.choose_spec.choose_spec.2)
        (repeat walk_at "rd")
        refine br_eby (fun he => ?_) (fun he => ?_)
        · exact k _ _ ⟨true, rfl, fun _ => rfl, fun _ => rfl⟩ (TpN.start tp.tp.choose_spec.choose_spec.choose_spec.1 tp.tp.choose_spec.choose_spec.choose_spec.2)
        (repeat walk_at "rd")
        refine next_tp tp.tp (tp.seq (fun z => ?_) (sq_of (w0.imm _ _ hT))) ⟨by decide, by decide⟩ fun x H5 h0 h1 tp5 => ?_
        · have := w0.c.dis t _ (.head _)
          rw [← z, hT] at this
          cases this
        (repeat walk_at "rd")
        exact k _ _ ⟨_, rfl, fun z => absurd z (by rw [ha]; decide), fun z => absurd (congrArg (fun n : Nat => (n : Int)) z) he⟩ tp5
      obtain ⟨ws, rfl, hws⟩ := bls_ofI hxs
      rw [List.length_map] at hl2
      obtain ⟨B2, i2, r2, z2, sB2, hB2, ok2, w2⟩ := w0.tapeD tp22 hD e22
      clear w0
      have hwl : ws.length = s'.P.length := by rw [eP]; omega
      have hwdP : wd < s'.P.length := by rw [eP]; omega
      have hwt : wd ∈ trues ws := by
        refine trues_at.mpr ⟨by omega, ?_⟩
        rw [List.getD_eq_getElem?_getD, List.getElem?_eq_getElem (by omega)]
        exact (hws wd _ (List.getElem?_eq_getElem (by omega))).2 rfl
      have hallt : al = true → ∀ i, i < s'.P.length → i ∈ trues ws := fun ha i hi => by
        refine trues_at.mpr ⟨by omega, ?_⟩
        rw [List.getD_eq_getElem?_getD, List.getElem?_eq_getElem (by omega)]
        exact (hws i _ (List.getElem?_eq_getElem (by omega))).1 ha
      have hgA : H22 g = some (.lst (gs.map V.int)) := w2.mem (.tail _ (.head _))
      have hpw : H22 A'.p = some (.ins T.C_Shares A'.dx (s'.fs A')) := w2.mem (.tail _ (.tail _ (.head _)))
      rw [ep] at hpw
      refine frG (σ' := [some (.ref a), some (.ref t), some (.int (mn : Nat)), some (.ref pa), some (.ref wa), some (.int f), some (.int R), some (.ref A.p), some (.int (wd : Nat)), some (.bl al), some (.ref g), some (.int (j : Nat)), some (.ref wt), none, none, none, none, none, none, none]) rfl ?_
      (repeat walk_at "rd")
      have w3 : Own H H [] B2 (shcells T.C_Shares A' s' ++ [(t, tapeL a2 i2 r2 z2), (g, .lst (gs.map V.int))]) H22 := w2.reorder [2, 3, 4, 0, 1]
      rw [← ep]
      refine op_Shares_give ⟨A', s', B2, wt, ws, rfl, w3.cellsL, sb.mono sB2, ok, sq_of (w2.imm _ _ hB2), hwl, fun hn _ _ => ?_, fun k C' g2 B3 H23 who w4 => ?_⟩
      · rw [hn] at hwt
        exact nomatch hwt
      have w5 : Own H H [] B3 ([(t, tapeL a2 i2 r2 z2), (g, .lst (gs.map V.int))] ++ shcells T.C_Shares ⟨A'.p, A'.dx, A'.pa, A'.wa, A'.ca, g2⟩ (stepF s' k C')) H23 := (w3.call w4).reorder [3, 4, 0, 1, 2]
      have gr := w4.grow
      have hgA5 := w5.mem (p := g) (.tail _ (.head _))
      refine rd_app hgA5 (by rw [List.length_map]; omega) ?_
      have w6 : Own H H [] B3 ([(t, tapeL a2 i2 r2 z2), (g, .lst ((gs ++ [(k : Int)]).map V.int))] ++ shcells T.C_Shares ⟨A'.p, A'.dx, A'.pa, A'.wa, A'.ca, g2⟩ (stepF s' k C')) _ := w5.set 1 rfl (.lst ((gs ++ [(k : Int)]).map V.int))
      rw [snocI]
      have okn := ok.step (k := k) who.len
      have est : (stepF s' k C').P = s'.P ∧ (stepF s' k C').W = s'.W ∧ (stepF s' k C').R = s'.R := by
        unfold stepF
        split <;> exact ⟨rfl, rfl, rfl⟩
      have hR0 : ((R.toNat : Nat) : Int) = R := by omega
      have hh2 := hh.step ok (by rw [eR, hR0]) hwdP who hwt (fun a ha => by have := trues_lt ha; omega) hallt (by rw [eP, hR0]; omega) (by rw [eP, hR0]; omega)
      refine .a ⟨B3, ⟨A'.p, A'.dx, A'.pa, A'.wa, A'.ca, g2⟩, stepF s' k C', gs ++ [(k : Int)], i2, r2, z2, _, _, ⟨w6, ok2, okn, ⟨?_, ?_⟩, est.1.trans eP, est.2.1.trans eW, est.2.2.trans eR, hh2, rfl, gr _ _ (sB2 _ _ hT), gr _ _ (sB2 _ _ hP)⟩, ?_, rfl⟩
      · rw [est.1]
        exact gr _ _ (sB2 _ _ sb.p)
      · rw [est.2.1]
        exact gr _ _ (sB2 _ _ sb.w)
      · rw [List.length_append]
        show _ + 1 ≤ _
        omega
    · obtain ⟨B, A', s', gs, i, r, z, y11, y12, iv, hgl, rfl⟩ := w.un
      clear iv20 w
      obtain ⟨w0, tk, ok, sb, eP, eW, eR, hh, ep, hT, hP⟩ := iv
      have hgl2 : gs.length ≤ 300 := by omega
      have hgA : H' g = some (.lst (gs.map V.int)) := w0.mem (.tail _ (.head _))
      have hpA := w0.imm _ _ hP
      obtain ⟨m, hRg, hm⟩ := rg_len hgl2
      have hM0 : 0 ≤ P'.getD wd 0 := by
        rw [List.getD_eq_getElem?_getD, List.getElem?_eq_getElem (by omega)]
        exact (hP' _ (List.getElem_mem _)).1
      have hM1 : P'.getD wd 0 < 4 := by
        rw [List.getD_eq_getElem?_getD, List.getElem?_eq_getElem (by omega)]
        exact (hP' _ (List.getElem_mem _)).2
      refine rd_forR3 ?_
      (repeat walk_at "rd")
      refine ⟨0, (gs.length : Nat), 1 + (gs.length : Nat) / 12, m, fun i σ H2 => Stop (H2 = H' ∧ ∃ (y13 y14 y15 y16 y17 y18 : Option V), σ = [some (.ref a), some (.ref t), some (.int (mn : Nat)), some (.ref pa), some (.ref wa), some (.int f), some (.int R), some (.ref A.p), some (.int (wd : Nat)), some (.bl al), some (.ref g), y11, y12, y13, y14, y15, y16, y17, y18, none]), rfl, hRg, .a ⟨rfl, _, _, _, _, _, _, rfl⟩, fun i3 σ3 H3 hi3 w => ?_, fun σ3 H3 w => ?_⟩
      · obtain ⟨rfl, y13, y14, y15, y16, y17, y18, rfl⟩ := w.un
        clear w
        obtain ⟨st, est, hst⟩ := st_of_turn (i := i3) (len := gs.length) (by omega) hgl2
        rw [est]
        refine frS (σ' := [some (.ref a), some (.ref t), some (.int (mn : Nat)), some (.ref pa), some (.ref wa), some (.int f), some (.int R), some (.ref A.p), some (.int (wd : Nat)), some (.bl al), some (.ref g), y11, y12, some (.int (st : Nat)), y14, y15, y16, y17, y18, none]) rfl ?_
        (repeat walk_at "rd")
        refine rd_forR2 ?_
        (repeat walk_at "rd")
        refine ⟨(st : Nat), (gs.length : Nat), fun j σ H2 => Stop (H2 = H3 ∧ ∃ (y15 y16 y17 y18 : Option V), σ = [some (.ref a), some (.ref t), some (.int (mn : Nat)), some (.ref pa), some (.ref wa), some (.int f), some (.int R), some (.ref A.p), some (.int (wd : Nat)), some (.bl al), some (.ref g), y11, y12, some (.int (st : Nat)), some (.int (cnt wd gs (st + j) - cnt wd gs st)), y15, y16, y17, y18, none]), rfl, ⟨by omega, by omega, by omega, by omega⟩, .a ⟨rfl, y15, y16, y17, y18, by rw [Nat.add_zero, Int.sub_self]; rfl⟩, fun j σ4 H4 hj w => ?_, fun σ4 H4 w => ?_⟩
        · obtain ⟨rfl, z15, z16, z17, z18, rfl⟩ := w.un
          clear w
          have hsj : st + j < gs.length := by omega
          obtain ⟨f1, f2, f3⟩ := hh.fine (p := P'.getD wd 0) (f := f) (by omega) (by omega) hsj (by rw [eP]) rfl
          have hc := cnt_succ (w := (wd : Int)) hsj
          have ej : ((st : Int) + (j : Int)).toNat = st + j := by omega
          (repeat walk_at "rd")
          refine rd_ixI (sq_of hgA) (by omega) (by omega) ?_
          rw [ej]
          (repeat walk_at "rd")
          have eh : (cnt wd gs (st + j) - cnt wd gs st) + (if decide (V.int (gs.getD (st + j) 0) = V.int (wd : Nat)) = true then 1 else 0) = cnt wd gs (st + j + 1) - cnt wd gs st := by
            rw [hc, dec_int]
            by_cases h : gs.getD (st + j) 0 = (wd : Int)
            · rw [if_pos h, if_pos (decide_eq_true h)]
              omega
            · rw [if_neg h, if_neg (by rw [decide_eq_false h]; decide)]
              omega
          rw [eh]
          have en : (st : Int) + (j : Int) - (st : Int) + 1 = (j : Int) + 1 := by omega
          rw [en]
          refine rd_ixI (sq_of hpA) (by omega) (by omega) ?_
          (repeat walk_at "rd")
          rw [Int.toNat_natCast]
          refine op_least_units ⟨_, R, _, rfl, ⟨by omega, by omega⟩, ⟨by omega, by omega⟩, ⟨by omega, by omega⟩, ?_⟩
          (repeat walk_at "rd")
          refine rd_ixI (sq_of hpA) (by omega) (by omega) ?_
          (repeat walk_at "rd")
          rw [Int.toNat_natCast]
          refine op_most_units ⟨_, f, R, _, rfl, ⟨by omega, by omega⟩, ⟨by omega, by omega⟩, ⟨by omega, by omega⟩, ⟨by omega, by omega⟩, ?_⟩
          generalize leastF (P'.getD wd 0) R ((j : Int) + 1) = lu at *
          generalize mostF (P'.getD wd 0) f R ((j : Int) + 1) = mu at *
          refine frG (σ' := [some (.ref a), some (.ref t), some (.int (mn : Nat)), some (.ref pa), some (.ref wa), some (.int f), some (.int R), some (.ref A.p), some (.int (wd : Nat)), some (.bl al), some (.ref g), y11, y12, some (.int (st : Nat)), some (.int (cnt wd gs (st + j + 1) - cnt wd gs st)), some (.int ((st : Int) + (j : Int))), some (.int ((j : Int) + 1)), some (.int lu), some (.int mu), none]) rfl ?_
          refine rd_ifC (fun b H' => b = false ∧ H' = H4) ?_ (fun b H5 hR5 => ?_)
          · (repeat walk_at "rd")
            refine br_f (by omega) ?_
            (repeat walk_at "rd")
            refine br_b (fun ha => ?_) (fun ha => ?_)
            · (repeat walk_at "rd")
              exact ⟨decide_eq_false (by have := f2 ha; omega), rfl⟩
            · exact ⟨rfl, rfl⟩
          obtain ⟨rfl, rfl⟩ := hR5
          refine br_F ?_
          (repeat walk_at "rd")
          refine rd_ixI (sq_of hpA) (by omega) (by omega) ?_
          (repeat walk_at "rd")
          rw [Int.toNat_natCast]
          refine op_u_law_rounds ⟨R, _, rfl, ⟨by omega, by omega⟩, ⟨by omega, by omega⟩, ?_⟩
          (repeat walk_at "rd")
          refine br_ni f3 ?_
          exact .a ⟨rfl, _, _, _, _, rfl⟩
        · obtain ⟨rfl, z15, z16, z17, z18, rfl⟩ := w.un
          exact .a ⟨rfl, _, _, _, _, _, _, rfl⟩
      · obtain ⟨rfl, y13, y14, y15, y16, y17, y18, rfl⟩ := w.un
        (repeat walk_at "rd")
        exact q _
end
end My
namespace My
open PySem L2
theorem all_mk {P : Program} {w : World} {K : PySem.W.Frag} {h : Heap} {mg : Str → Option Value} {fa : Addr} (X : K.In h) (G : h.Ns mainGlobals mg) (hfa : mg "law" = some (.ref fa))
    {C_BearerError : Addr}
    {C_NotValid : Addr}
    {C_Shares : Addr}
    {f_u_wall : Addr} {od_u_wall an_u_wall : Option Addr} {sl_u_wall : Array (Option Value)} {oc_u_wall kV_u_wall dc_u_wall pm_u_wall cd_u_wall ct_u_wall : Value}
    {f_BearerError___init__ : Addr} {od_BearerError___init__ an_BearerError___init__ : Option Addr} {sl_BearerError___init__ : Array (Option Value)} {oc_BearerError___init__ kV_BearerError___init__ dc_BearerError___init__ pm_BearerError___init__ cd_BearerError___init__ ct_BearerError___init__ : Value}
    {f_u_are_valid : Addr} {od_u_are_valid an_u_are_valid : Option Addr} {sl_u_are_valid : Array (Option Value)} {oc_u_are_valid kV_u_are_valid dc_u_are_valid pm_u_are_valid cd_u_are_valid ct_u_are_valid : Value}
    {f_Shares___init__ : Addr} {od_Shares___init__ an_Shares___init__ : Option Addr} {sl_Shares___init__ : Array (Option Value)} {oc_Shares___init__ kV_Shares___init__ dc_Shares___init__ pm_Shares___init__ cd_Shares___init__ ct_Shares___init__ : Value}
    {f_Shares__begin_round : Addr} {od_Shares__begin_round an_Shares__begin_round : Option Addr} {sl_Shares__begin_round : Array (Option Value)} {oc_Shares__begin_round kV_Shares__begin_round dc_Shares__begin_round pm_Shares__begin_round cd_Shares__begin_round ct_Shares__begin_round : Value}
    {f_Shares_give : Addr} {od_Shares_give an_Shares_give : Option Addr} {sl_Shares_give : Array (Option Value)} {oc_Shares_give kV_Shares_give dc_Shares_give pm_Shares_give cd_Shares_give ct_Shares_give : Value}
    {f_Shares__choose_by_credit : Addr} {od_Shares__choose_by_credit an_Shares__choose_by_credit : Option Addr} {sl_Shares__choose_by_credit : Array (Option Value)} {oc_Shares__choose_by_credit kV_Shares__choose_by_credit dc_Shares__choose_by_credit pm_Shares__choose_by_credit cd_Shares__choose_by_credit ct_Shares__choose_by_credit : Value}
    {f_Shares_balances : Addr} {od_Shares_balances an_Shares_balances : Option Addr} {sl_Shares_balances : Array (Option Value)} {oc_Shares_balances kV_Shares_balances dc_Shares_balances pm_Shares_balances cd_Shares_balances ct_Shares_balances : Value}
    {f_Shares_given : Addr} {od_Shares_given an_Shares_given : Option Addr} {sl_Shares_given : Array (Option Value)} {oc_Shares_given kV_Shares_given dc_Shares_given pm_Shares_given cd_Shares_given ct_Shares_given : Value}
    {f_Shares_place : Addr} {od_Shares_place an_Shares_place : Option Addr} {sl_Shares_place : Array (Option Value)} {oc_Shares_place kV_Shares_place dc_Shares_place pm_Shares_place cd_Shares_place ct_Shares_place : Value}
    {f_least_units : Addr} {od_least_units an_least_units : Option Addr} {sl_least_units : Array (Option Value)} {oc_least_units kV_least_units dc_least_units pm_least_units cd_least_units ct_least_units : Value}
    {f_most_units : Addr} {od_most_units an_most_units : Option Addr} {sl_most_units : Array (Option Value)} {oc_most_units kV_most_units dc_most_units pm_most_units cd_most_units ct_most_units : Value}
    {f_u_law_next : Addr} {od_u_law_next an_u_law_next : Option Addr} {sl_u_law_next : Array (Option Value)} {oc_u_law_next kV_u_law_next dc_u_law_next pm_u_law_next cd_u_law_next ct_u_law_next : Value}
    {f_u_law_rounds : Addr} {od_u_law_rounds an_u_law_rounds : Option Addr} {sl_u_law_rounds : Array (Option Value)} {oc_u_law_rounds kV_u_law_rounds dc_u_law_rounds pm_u_law_rounds cd_u_law_rounds ct_u_law_rounds : Value}
    {f_law : Addr} {od_law an_law : Option Addr} {sl_law : Array (Option Value)} {oc_law kV_law dc_law pm_law cd_law ct_law : Value}
    {nm_BearerError q_BearerError : Str} {N_BearerError : Addr} {bs_BearerError bm_BearerError : List Value} {sn_BearerError : List Str} {sub_BearerError : List Value} {ab_BearerError : Bool} {col_BearerError : Option Bool} {dd_BearerError : Option Addr} {m0_BearerError m1_BearerError m2_BearerError m3_BearerError m5_BearerError : Option Value}
    {nm_NotValid q_NotValid : Str} {N_NotValid : Addr} {bs_NotValid bm_NotValid : List Value} {sn_NotValid : List Str} {sub_NotValid : List Value} {ab_NotValid : Bool} {col_NotValid : Option Bool} {dd_NotValid : Option Addr} {m0_NotValid m1_NotValid m2_NotValid m3_NotValid m5_NotValid : Option Value}
    (z_len : PySem.W.nsIn K mainGlobals "len" = some none)
    (z_range : PySem.W.nsIn K mainGlobals "range" = some none)
    (z_abs : PySem.W.nsIn K mainGlobals "abs" = some none)
    (z_int : PySem.W.nsIn K mainGlobals "int" = some none)
    (z_sum : PySem.W.nsIn K mainGlobals "sum" = some none)
    (z_min : PySem.W.nsIn K mainGlobals "min" = some none)
    (z_max : PySem.W.nsIn K mainGlobals "max" = some none)
    (z_list : PySem.W.nsIn K mainGlobals "list" = some none)
    (z_enumerate : PySem.W.nsIn K mainGlobals "enumerate" = some none)
    (z_BearerError : PySem.W.nsIn K mainGlobals "BearerError" = some (some (.ref C_BearerError)))
    (z_NotValid : PySem.W.nsIn K mainGlobals "NotValid" = some (some (.ref C_NotValid)))
    (z_Shares : PySem.W.nsIn K mainGlobals "Shares" = some (some (.ref C_Shares)))
    (a_u_wall : PySem.W.nsIn K mainGlobals "_wall" = some (some (.ref f_u_wall)))
    (l_u_wall : K.lookup f_u_wall = some ⟨oc_u_wall, od_u_wall, .func (PySem.W.fnOf "_wall" "_wall" (defArgs S_u_wall) (defBody S_u_wall) (defScope S_u_wall) .none kV_u_wall dc_u_wall pm_u_wall an_u_wall cd_u_wall ct_u_wall), sl_u_wall⟩)
    (c_u_wall : PySem.W.codeIn K cd_u_wall "_wall" = true)
    (k_u_wall : PySem.W.keepIn K (.ref f_u_wall) = true)
    (a_BearerError___init__ : PySem.W.findIn K (.ref C_BearerError) "__init__" = some (some (.ref f_BearerError___init__)))
    (i_BearerError___init__ : PySem.W.isFn K (.ref f_BearerError___init__) = true)
    (l_BearerError___init__ : K.lookup f_BearerError___init__ = some ⟨oc_BearerError___init__, od_BearerError___init__, .func (PySem.W.fnOf "__init__" "BearerError.__init__" (defArgs S_BearerError___init__) (defBody S_BearerError___init__) (defScope S_BearerError___init__) .none kV_BearerError___init__ dc_BearerError___init__ pm_BearerError___init__ an_BearerError___init__ cd_BearerError___init__ ct_BearerError___init__), sl_BearerError___init__⟩)
    (c_BearerError___init__ : PySem.W.codeIn K cd_BearerError___init__ "BearerError.__init__" = true)
    (k_BearerError___init__ : PySem.W.keepIn K (.ref f_BearerError___init__) = true)
    (a_u_are_valid : PySem.W.nsIn K mainGlobals "_are_valid" = some (some (.ref f_u_are_valid)))
    (l_u_are_valid : K.lookup f_u_are_valid = some ⟨oc_u_are_valid, od_u_are_valid, .func (PySem.W.fnOf "_are_valid" "_are_valid" (defArgs S_u_are_valid) (defBody S_u_are_valid) (defScope S_u_are_valid) .none kV_u_are_valid dc_u_are_valid pm_u_are_valid an_u_are_valid cd_u_are_valid ct_u_are_valid), sl_u_are_valid⟩)
    (c_u_are_valid : PySem.W.codeIn K cd_u_are_valid "_are_valid" = true)
    (k_u_are_valid : PySem.W.keepIn K (.ref f_u_are_valid) = true)
    (a_Shares___init__ : PySem.W.findIn K (.ref C_Shares) "__init__" = some (some (.ref f_Shares___init__)))
    (i_Shares___init__ : PySem.W.isFn K (.ref f_Shares___init__) = true)
    (l_Shares___init__ : K.lookup f_Shares___init__ = some ⟨oc_Shares___init__, od_Shares___init__, .func (PySem.W.fnOf "__init__" "Shares.__init__" (defArgs S_Shares___init__) (defBody S_Shares___init__) (defScope S_Shares___init__) .none kV_Shares___init__ dc_Shares___init__ pm_Shares___init__ an_Shares___init__ cd_Shares___init__ ct_Shares___init__), sl_Shares___init__⟩)
    (c_Shares___init__ : PySem.W.codeIn K cd_Shares___init__ "Shares.__init__" = true)
    (k_Shares___init__ : PySem.W.keepIn K (.ref f_Shares___init__) = true)
    (a_Shares__begin_round : PySem.W.findIn K (.ref C_Shares) "_begin_round" = some (some (.ref f_Shares__begin_round)))
    (i_Shares__begin_round : PySem.W.isFn K (.ref f_Shares__begin_round) = true)
    (l_Shares__begin_round : K.lookup f_Shares__begin_round = some ⟨oc_Shares__begin_round, od_Shares__begin_round, .func (PySem.W.fnOf "_begin_round" "Shares._begin_round" (defArgs S_Shares__begin_round) (defBody S_Shares__begin_round) (defScope S_Shares__begin_round) .none kV_Shares__begin_round dc_Shares__begin_round pm_Shares__begin_round an_Shares__begin_round cd_Shares__begin_round ct_Shares__begin_round), sl_Shares__begin_round⟩)
    (c_Shares__begin_round : PySem.W.codeIn K cd_Shares__begin_round "Shares._begin_round" = true)
    (k_Shares__begin_round : PySem.W.keepIn K (.ref f_Shares__begin_round) = true)
    (a_Shares_give : PySem.W.findIn K (.ref C_Shares) "give" = some (some (.ref f_Shares_give)))
    (i_Shares_give : PySem.W.isFn K (.ref f_Shares_give) = true)
    (l_Shares_give : K.lookup f_Shares_give = some ⟨oc_Shares_give, od_Shares_give, .func (PySem.W.fnOf "give" "Shares.give" (defArgs S_Shares_give) (defBody S_Shares_give) (defScope S_Shares_give) .none kV_Shares_give dc_Shares_give pm_Shares_give an_Shares_give cd_Shares_give ct_Shares_give), sl_Shares_give⟩)
    (c_Shares_give : PySem.W.codeIn K cd_Shares_give "Shares.give" = true)
    (k_Shares_give : PySem.W.keepIn K (.ref f_Shares_give) = true)
    (a_Shares__choose_by_credit : PySem.W.findIn K (.ref C_Shares) "_choose_by_credit" = some (some (.ref f_Shares__choose_by_credit)))
    (i_Shares__choose_by_credit : PySem.W.isFn K (.ref f_Shares__choose_by_credit) = true)
    (l_Shares__choose_by_credit : K.lookup f_Shares__choose_by_credit = some ⟨oc_Shares__choose_by_credit, od_Shares__choose_by_credit, .func (PySem.W.fnOf "_choose_by_credit" "Shares._choose_by_credit" (defArgs S_Shares__choose_by_credit) (defBody S_Shares__choose_by_credit) (defScope S_Shares__choose_by_credit) .none kV_Shares__choose_by_credit dc_Shares__choose_by_credit pm_Shares__choose_by_credit an_Shares__choose_by_credit cd_Shares__choose_by_credit ct_Shares__choose_by_credit), sl_Shares__choose_by_credit⟩)
    (c_Shares__choose_by_credit : PySem.W.codeIn K cd_Shares__choose_by_credit "Shares._choose_by_credit" = true)
    (k_Shares__choose_by_credit : PySem.W.keepIn K (.ref f_Shares__choose_by_credit) = true)
    (a_Shares_balances : PySem.W.findIn K (.ref C_Shares) "balances" = some (some (.ref f_Shares_balances)))
    (i_Shares_balances : PySem.W.isFn K (.ref f_Shares_balances) = true)
    (l_Shares_balances : K.lookup f_Shares_balances = some ⟨oc_Shares_balances, od_Shares_balances, .func (PySem.W.fnOf "balances" "Shares.balances" (defArgs S_Shares_balances) (defBody S_Shares_balances) (defScope S_Shares_balances) .none kV_Shares_balances dc_Shares_balances pm_Shares_balances an_Shares_balances cd_Shares_balances ct_Shares_balances), sl_Shares_balances⟩)
    (c_Shares_balances : PySem.W.codeIn K cd_Shares_balances "Shares.balances" = true)
    (k_Shares_balances : PySem.W.keepIn K (.ref f_Shares_balances) = true)
    (a_Shares_given : PySem.W.findIn K (.ref C_Shares) "given" = some (some (.ref f_Shares_given)))
    (i_Shares_given : PySem.W.isFn K (.ref f_Shares_given) = true)
    (l_Shares_given : K.lookup f_Shares_given = some ⟨oc_Shares_given, od_Shares_given, .func (PySem.W.fnOf "given" "Shares.given" (defArgs S_Shares_given) (defBody S_Shares_given) (defScope S_Shares_given) .none kV_Shares_given dc_Shares_given pm_Shares_given an_Shares_given cd_Shares_given ct_Shares_given), sl_Shares_given⟩)
    (c_Shares_given : PySem.W.codeIn K cd_Shares_given "Shares.given" = true)
    (k_Shares_given : PySem.W.keepIn K (.ref f_Shares_given) = true)
    (a_Shares_place : PySem.W.findIn K (.ref C_Shares) "place" = some (some (.ref f_Shares_place)))
    (i_Shares_place : PySem.W.isFn K (.ref f_Shares_place) = true)
    (l_Shares_place : K.lookup f_Shares_place = some ⟨oc_Shares_place, od_Shares_place, .func (PySem.W.fnOf "place" "Shares.place" (defArgs S_Shares_place) (defBody S_Shares_place) (defScope S_Shares_place) .none kV_Shares_place dc_Shares_place pm_Shares_place an_Shares_place cd_Shares_place ct_Shares_place), sl_Shares_place⟩)
    (c_Shares_place : PySem.W.codeIn K cd_Shares_place "Shares.place" = true)
    (k_Shares_place : PySem.W.keepIn K (.ref f_Shares_place) = true)
    (a_least_units : PySem.W.nsIn K mainGlobals "least_units" = some (some (.ref f_least_units)))
    (l_least_units : K.lookup f_least_units = some ⟨oc_least_units, od_least_units, .func (PySem.W.fnOf "least_units" "least_units" (defArgs S_least_units) (defBody S_least_units) (defScope S_least_units) .none kV_least_units dc_least_units pm_least_units an_least_units cd_least_units ct_least_units), sl_least_units⟩)
    (c_least_units : PySem.W.codeIn K cd_least_units "least_units" = true)
    (k_least_units : PySem.W.keepIn K (.ref f_least_units) = true)
    (a_most_units : PySem.W.nsIn K mainGlobals "most_units" = some (some (.ref f_most_units)))
    (l_most_units : K.lookup f_most_units = some ⟨oc_most_units, od_most_units, .func (PySem.W.fnOf "most_units" "most_units" (defArgs S_most_units) (defBody S_most_units) (defScope S_most_units) .none kV_most_units dc_most_units pm_most_units an_most_units cd_most_units ct_most_units), sl_most_units⟩)
    (c_most_units : PySem.W.codeIn K cd_most_units "most_units" = true)
    (k_most_units : PySem.W.keepIn K (.ref f_most_units) = true)
    (a_u_law_next : PySem.W.nsIn K mainGlobals "_law_next" = some (some (.ref f_u_law_next)))
    (l_u_law_next : K.lookup f_u_law_next = some ⟨oc_u_law_next, od_u_law_next, .func (PySem.W.fnOf "_law_next" "_law_next" (defArgs S_u_law_next) (defBody S_u_law_next) (defScope S_u_law_next) .none kV_u_law_next dc_u_law_next pm_u_law_next an_u_law_next cd_u_law_next ct_u_law_next), sl_u_law_next⟩)
    (c_u_law_next : PySem.W.codeIn K cd_u_law_next "_law_next" = true)
    (k_u_law_next : PySem.W.keepIn K (.ref f_u_law_next) = true)
    (a_u_law_rounds : PySem.W.nsIn K mainGlobals "_law_rounds" = some (some (.ref f_u_law_rounds)))
    (l_u_law_rounds : K.lookup f_u_law_rounds = some ⟨oc_u_law_rounds, od_u_law_rounds, .func (PySem.W.fnOf "_law_rounds" "_law_rounds" (defArgs S_u_law_rounds) (defBody S_u_law_rounds) (defScope S_u_law_rounds) .none kV_u_law_rounds dc_u_law_rounds pm_u_law_rounds an_u_law_rounds cd_u_law_rounds ct_u_law_rounds), sl_u_law_rounds⟩)
    (c_u_law_rounds : PySem.W.codeIn K cd_u_law_rounds "_law_rounds" = true)
    (k_u_law_rounds : PySem.W.keepIn K (.ref f_u_law_rounds) = true)
    (a_law : PySem.W.nsIn K mainGlobals "law" = some (some (.ref f_law)))
    (l_law : K.lookup f_law = some ⟨oc_law, od_law, .func (PySem.W.fnOf "law" "law" (defArgs S_law) (defBody S_law) (defScope S_law) .none kV_law dc_law pm_law an_law cd_law ct_law), sl_law⟩)
    (c_law : PySem.W.codeIn K cd_law "law" = true)
    (k_law : PySem.W.keepIn K (.ref f_law) = true)
    (xL_BearerError : K.lookup C_BearerError = some (excClassObj nm_BearerError q_BearerError C_BearerError N_BearerError bs_BearerError bm_BearerError true sn_BearerError sub_BearerError ab_BearerError col_BearerError dd_BearerError m0_BearerError m1_BearerError m2_BearerError m3_BearerError m5_BearerError "ValueError.__new__"))
    (xB_BearerError : PySem.HandSPX.refsVE bm_BearerError = true)
    (sa_BearerError : PySem.W.findIn K (.ref C_BearerError) "__setattr__" = some (some (.builtin "object.__setattr__")))
    (ex_BearerError : PySem.W.subIn K (.ref C_BearerError) (.type "BaseException") = some true)
    (ty_BearerError : PySem.W.typeIn K (.ref C_BearerError) = some (.type "type"))
    (kC_BearerError : PySem.W.keepIn K (.ref C_BearerError) = true)
    (ii_BearerError : PySem.W.findIn K (.ref C_BearerError) "__init__" = some (some (.ref f_BearerError___init__)))
    (ti_BearerError : PySem.W.typeIn K (.ref f_BearerError___init__) = some (.type "function"))
    (ga_BearerError : PySem.W.findIn K (.ref C_BearerError) "__getattribute__" = some (some (.builtin "BaseException.__getattribute__")))
    (gg_BearerError : PySem.W.findIn K (.ref C_BearerError) "__getattr__" = some none)
    (hd_BearerError : PySem.W.hasDictIn K C_BearerError = true)
    (hc_BearerError : PySem.W.findIn K (.ref C_BearerError) "__class__" = some (some (.builtin "object.__class__")))
    (mo_BearerError : PySem.W.mroIn K C_BearerError (.type "object") = some true)
    (ic_BearerError : PySem.W.isClsIn K C_BearerError = true)
    (sb_BearerError_BearerError : PySem.W.subIn K (.ref C_BearerError) (.ref C_BearerError) = some true)
    (sb_BearerError_NotValid : PySem.W.subIn K (.ref C_BearerError) (.ref C_NotValid) = some false)
    (xL_NotValid : K.lookup C_NotValid = some (excClassObj nm_NotValid q_NotValid C_NotValid N_NotValid bs_NotValid bm_NotValid true sn_NotValid sub_NotValid ab_NotValid col_NotValid dd_NotValid m0_NotValid m1_NotValid m2_NotValid m3_NotValid m5_NotValid "ValueError.__new__"))
    (xB_NotValid : PySem.HandSPX.refsVE bm_NotValid = true)
    (sa_NotValid : PySem.W.findIn K (.ref C_NotValid) "__setattr__" = some (some (.builtin "object.__setattr__")))
    (ex_NotValid : PySem.W.subIn K (.ref C_NotValid) (.type "BaseException") = some true)
    (ty_NotValid : PySem.W.typeIn K (.ref C_NotValid) = some (.type "type"))
    (kC_NotValid : PySem.W.keepIn K (.ref C_NotValid) = true)
    (ii_NotValid : PySem.W.findIn K (.ref C_NotValid) "__init__" = some (some (.ref f_BearerError___init__)))
    (ti_NotValid : PySem.W.typeIn K (.ref f_BearerError___init__) = some (.type "function"))
    (ga_NotValid : PySem.W.findIn K (.ref C_NotValid) "__getattribute__" = some (some (.builtin "BaseException.__getattribute__")))
    (gg_NotValid : PySem.W.findIn K (.ref C_NotValid) "__getattr__" = some none)
    (hd_NotValid : PySem.W.hasDictIn K C_NotValid = true)
    (hc_NotValid : PySem.W.findIn K (.ref C_NotValid) "__class__" = some (some (.builtin "object.__class__")))
    (mo_NotValid : PySem.W.mroIn K C_NotValid (.type "object") = some true)
    (ic_NotValid : PySem.W.isClsIn K C_NotValid = true)
    (sb_NotValid_BearerError : PySem.W.subIn K (.ref C_NotValid) (.ref C_BearerError) = some true)
    (sb_NotValid_NotValid : PySem.W.subIn K (.ref C_NotValid) (.ref C_NotValid) = some true)
    (pg_Shares : PySem.W.plainGet K C_Shares Str.empty = true)
    (hd_Shares : PySem.W.hasDictIn K C_Shares = true)
    (po_Shares : PySem.W.plainOver K C_Shares = true)
    (sa_Shares : PySem.W.findIn K (.ref C_Shares) "__setattr__" = some (some (.builtin "object.__setattr__")))
    (mk_Shares : PySem.W.makesIn K C_Shares = true)
    (kc_Shares : PySem.W.keepIn K (.ref C_Shares) = true)
    (nf_Shares__promises : PySem.W.findIn K (.ref C_Shares) "_promises" = some none)
    (nf_Shares__weights : PySem.W.findIn K (.ref C_Shares) "_weights" = some none)
    (nf_Shares__units : PySem.W.findIn K (.ref C_Shares) "_units" = some none)
    (nf_Shares__credits : PySem.W.findIn K (.ref C_Shares) "_credits" = some none)
    (nf_Shares__given : PySem.W.findIn K (.ref C_Shares) "_given" = some none)
    (nf_Shares__place : PySem.W.findIn K (.ref C_Shares) "_place" = some none)
    (sn_get : PySem.W.specialIn K (.builtin "object.__class__") "__get__" = some (some (.builtin "getset_descriptor.__get__")))
    (tk_get : PySem.W.takesIn K (.builtin "object.__class__") = some true)
    : ∃ fd : FuncData, (∀ (s : Shared) (v : Value), BindsTo s fd ⟨[v], []⟩ [("script", v)]) ∧ ∀ base : Heap, K.In base → base.Ns mainGlobals mg → FnOk P w K mg base CX0 5 fa fd ["script"] (ip_law K) := by
  have e := hfa.symm.trans (PySem.W.mg_of X G a_law)
  cases e
  have F_u_wall := fun_mk (st := S_u_wall) l_u_wall c_u_wall k_u_wall
  have b_u_wall := F_u_wall.binds (ps := ["k"]) fun _ _ _ _ _ _ us hl => match us, hl with | [_], _ => rfl
  have F_BearerError___init__ := fun_mk (st := S_BearerError___init__) l_BearerError___init__ c_BearerError___init__ k_BearerError___init__
  have b_BearerError___init__ := F_BearerError___init__.binds (ps := ["self"]) fun _ _ _ _ _ _ us hl => match us, hl with | [_], _ => rfl
  have F_u_are_valid := fun_mk (st := S_u_are_valid) l_u_are_valid c_u_are_valid k_u_are_valid
  have b_u_are_valid := F_u_are_valid.binds (ps := ["promises", "weights", "units"]) fun _ _ _ _ _ _ us hl => match us, hl with | [_, _, _], _ => rfl
  have F_Shares___init__ := fun_mk (st := S_Shares___init__) l_Shares___init__ c_Shares___init__ k_Shares___init__
  have b_Shares___init__ := F_Shares___init__.binds (ps := ["self", "promises", "weights", "units"]) fun _ _ _ _ _ _ us hl => match us, hl with | [_, _, _, _], _ => rfl
  have F_Shares__begin_round := fun_mk (st := S_Shares__begin_round) l_Shares__begin_round c_Shares__begin_round k_Shares__begin_round
  have b_Shares__begin_round := F_Shares__begin_round.binds (ps := ["self"]) fun _ _ _ _ _ _ us hl => match us, hl with | [_], _ => rfl
  have F_Shares_give := fun_mk (st := S_Shares_give) l_Shares_give c_Shares_give k_Shares_give
  have b_Shares_give := F_Shares_give.binds (ps := ["self", "waiting"]) fun _ _ _ _ _ _ us hl => match us, hl with | [_, _], _ => rfl
  have F_Shares__choose_by_credit := fun_mk (st := S_Shares__choose_by_credit) l_Shares__choose_by_credit c_Shares__choose_by_credit k_Shares__choose_by_credit
  have b_Shares__choose_by_credit := F_Shares__choose_by_credit.binds (ps := ["self", "asking"]) fun _ _ _ _ _ _ us hl => match us, hl with | [_, _], _ => rfl
  have F_Shares_balances := fun_mk (st := S_Shares_balances) l_Shares_balances c_Shares_balances k_Shares_balances
  have b_Shares_balances := F_Shares_balances.binds (ps := ["self"]) fun _ _ _ _ _ _ us hl => match us, hl with | [_], _ => rfl
  have F_Shares_given := fun_mk (st := S_Shares_given) l_Shares_given c_Shares_given k_Shares_given
  have b_Shares_given := F_Shares_given.binds (ps := ["self"]) fun _ _ _ _ _ _ us hl => match us, hl with | [_], _ => rfl
  have F_Shares_place := fun_mk (st := S_Shares_place) l_Shares_place c_Shares_place k_Shares_place
  have b_Shares_place := F_Shares_place.binds (ps := ["self"]) fun _ _ _ _ _ _ us hl => match us, hl with | [_], _ => rfl
  have F_least_units := fun_mk (st := S_least_units) l_least_units c_least_units k_least_units
  have b_least_units := F_least_units.binds (ps := ["promise", "units", "n"]) fun _ _ _ _ _ _ us hl => match us, hl with | [_, _, _], _ => rfl
  have F_most_units := fun_mk (st := S_most_units) l_most_units c_most_units k_most_units
  have b_most_units := F_most_units.binds (ps := ["promise", "free", "units", "n"]) fun _ _ _ _ _ _ us hl => match us, hl with | [_, _, _, _], _ => rfl
  have F_u_law_next := fun_mk (st := S_u_law_next) l_u_law_next c_u_law_next k_u_law_next
  have b_u_law_next := F_u_law_next.binds (ps := ["tape", "many"]) fun _ _ _ _ _ _ us hl => match us, hl with | [_, _], _ => rfl
  have F_u_law_rounds := fun_mk (st := S_u_law_rounds) l_u_law_rounds c_u_law_rounds k_u_law_rounds
  have b_u_law_rounds := F_u_law_rounds.binds (ps := ["units", "n"]) fun _ _ _ _ _ _ us hl => match us, hl with | [_, _], _ => rfl
  have F_law := fun_mk (st := S_law) l_law c_law k_law
  have b_law := F_law.binds (ps := ["script"]) fun _ _ _ _ _ _ us hl => match us, hl with | [_], _ => rfl
  refine ⟨PySem.W.fnOf "law" "law" (defArgs S_law) (defBody S_law) (defScope S_law) .none kV_law dc_law pm_law an_law cd_law ct_law, fun s v => .of_eq rfl, fun base _ _ => ?_⟩
  exact ok_law (T := ({
      n_len := PySem.W.mg_none_of X G z_len,
      n_range := PySem.W.mg_none_of X G z_range,
      n_abs := PySem.W.mg_none_of X G z_abs,
      n_int := PySem.W.mg_none_of X G z_int,
      n_sum := PySem.W.mg_none_of X G z_sum,
      n_min := PySem.W.mg_none_of X G z_min,
      n_max := PySem.W.mg_none_of X G z_max,
      n_list := PySem.W.mg_none_of X G z_list,
      n_enumerate := PySem.W.mg_none_of X G z_enumerate,
      C_BearerError := C_BearerError,
      g_BearerError := PySem.W.mg_of X G z_BearerError,
      C_NotValid := C_NotValid,
      g_NotValid := PySem.W.mg_of X G z_NotValid,
      C_Shares := C_Shares,
      g_Shares := PySem.W.mg_of X G z_Shares,
      a_u_wall := _,
      d_u_wall := _,
      p_u_wall := ⟨F_u_wall, b_u_wall, PySem.W.mg_of X G a_u_wall⟩,
      a_BearerError___init__ := _,
      d_BearerError___init__ := _,
      p_BearerError___init__ := ⟨F_BearerError___init__, b_BearerError___init__⟩,
      a_u_are_valid := _,
      d_u_are_valid := _,
      p_u_are_valid := ⟨F_u_are_valid, b_u_are_valid, PySem.W.mg_of X G a_u_are_valid⟩,
      a_Shares___init__ := _,
      d_Shares___init__ := _,
      p_Shares___init__ := ⟨F_Shares___init__, b_Shares___init__, ⟨a_Shares___init__, i_Shares___init__, k_Shares___init__⟩⟩,
      a_Shares__begin_round := _,
      d_Shares__begin_round := _,
      p_Shares__begin_round := ⟨F_Shares__begin_round, b_Shares__begin_round, ⟨a_Shares__begin_round, i_Shares__begin_round, k_Shares__begin_round⟩⟩,
      a_Shares_give := _,
      d_Shares_give := _,
      p_Shares_give := ⟨F_Shares_give, b_Shares_give, ⟨a_Shares_give, i_Shares_give, k_Shares_give⟩⟩,
      a_Shares__choose_by_credit := _,
      d_Shares__choose_by_credit := _,
      p_Shares__choose_by_credit := ⟨F_Shares__choose_by_credit, b_Shares__choose_by_credit, ⟨a_Shares__choose_by_credit, i_Shares__choose_by_credit, k_Shares__choose_by_credit⟩⟩,
      a_Shares_balances := _,
      d_Shares_balances := _,
      p_Shares_balances := ⟨F_Shares_balances, b_Shares_balances, ⟨a_Shares_balances, i_Shares_balances, k_Shares_balances⟩⟩,
      a_Shares_given := _,
      d_Shares_given := _,
      p_Shares_given := ⟨F_Shares_given, b_Shares_given, ⟨a_Shares_given, i_Shares_given, k_Shares_given⟩⟩,
      a_Shares_place := _,
      d_Shares_place := _,
      p_Shares_place := ⟨F_Shares_place, b_Shares_place, ⟨a_Shares_place, i_Shares_place, k_Shares_place⟩⟩,
      a_least_units := _,
      d_least_units := _,
      p_least_units := ⟨F_least_units, b_least_units, PySem.W.mg_of X G a_least_units⟩,
      a_most_units := _,
      d_most_units := _,
      p_most_units := ⟨F_most_units, b_most_units, PySem.W.mg_of X G a_most_units⟩,
      a_u_law_next := _,
      d_u_law_next := _,
      p_u_law_next := ⟨F_u_law_next, b_u_law_next, PySem.W.mg_of X G a_u_law_next⟩,
      a_u_law_rounds := _,
      d_u_law_rounds := _,
      p_u_law_rounds := ⟨F_u_law_rounds, b_u_law_rounds, PySem.W.mg_of X G a_u_law_rounds⟩,
      a_law := _,
      d_law := _,
      p_law := ⟨F_law, b_law, PySem.W.mg_of X G a_law⟩,
      o_BearerError := ⟨⟨nm_BearerError, q_BearerError, N_BearerError, bs_BearerError, bm_BearerError, sn_BearerError, sub_BearerError, ab_BearerError, col_BearerError, dd_BearerError, m0_BearerError, m1_BearerError, m2_BearerError, m3_BearerError, m5_BearerError, xL_BearerError, xB_BearerError⟩, sa_BearerError, ex_BearerError, ty_BearerError, kC_BearerError⟩,
      i_BearerError := ii_BearerError,
      t_BearerError := ti_BearerError,
      e_BearerError := ⟨ga_BearerError, gg_BearerError, ex_BearerError, hd_BearerError, hc_BearerError, sn_get, tk_get, mo_BearerError⟩,
      s_BearerError_BearerError := sb_BearerError_BearerError,
      s_BearerError_NotValid := sb_BearerError_NotValid,
      y_BearerError := ty_BearerError,
      l_BearerError := ic_BearerError,
      o_NotValid := ⟨⟨nm_NotValid, q_NotValid, N_NotValid, bs_NotValid, bm_NotValid, sn_NotValid, sub_NotValid, ab_NotValid, col_NotValid, dd_NotValid, m0_NotValid, m1_NotValid, m2_NotValid, m3_NotValid, m5_NotValid, xL_NotValid, xB_NotValid⟩, sa_NotValid, ex_NotValid, ty_NotValid, kC_NotValid⟩,
      i_NotValid := ii_NotValid,
      t_NotValid := ti_NotValid,
      e_NotValid := ⟨ga_NotValid, gg_NotValid, ex_NotValid, hd_NotValid, hc_NotValid, sn_get, tk_get, mo_NotValid⟩,
      s_NotValid_BearerError := sb_NotValid_BearerError,
      s_NotValid_NotValid := sb_NotValid_NotValid,
      y_NotValid := ty_NotValid,
      l_NotValid := ic_NotValid,
      k_Shares := ⟨⟨pg_Shares, hd_Shares, po_Shares, sa_Shares⟩, ⟨mk_Shares, a_Shares___init__, i_Shares___init__, kc_Shares⟩⟩,
      f_Shares__promises := nf_Shares__promises,
      f_Shares__weights := nf_Shares__weights,
      f_Shares__units := nf_Shares__units,
      f_Shares__credits := nf_Shares__credits,
      f_Shares__given := nf_Shares__given,
      f_Shares__place := nf_Shares__place
    } : Tx P w K mg base))
theorem walk {l : PySem.W.OpenLaw} {q : Program} {loose : List Str} {XP : (Str → Option Value) → Heap → Prop} {YP : World → Heap → Prop} {d : DefRec} {K : Params → PySem.W.Frag} (hn : l.most = some 63) (hdf : d.params.defaults = [])
    (hY : ∀ (w : World) (h : Heap), YP w h → (K w.params).In h)
    (F : ∀ (w : World) (mg : Str → Option Value) (fa : Addr) (h : Heap), (K w.params).In h → h.Ns mainGlobals mg → mg d.name = some (.ref fa) →
      ∃ fd : FuncData, (∀ (s : Shared) (u : Value), BindsTo s fd ⟨[u], []⟩ [("script", u)]) ∧ ∀ base : Heap, (K w.params).In base → base.Ns mainGlobals mg → FnOk l.prog w (K w.params) mg base CX0 5 fa fd ["script"] (ip_law (K w.params))) :
    PySem.W.WalkO q loose XP YP l.row.toRowW d [] (fun f vs => PySem.call f vs) :=
  L2.walk_of (n := 63) (k := 5) (x := "script") (CX := fun _ => CX0) (sp := fun w => ip_law (K w.params)) hn (by decide) hdf ⟨rfl, by decide, by decide⟩ hY F (fun _ _ a ns hl _ hS => op_law ⟨a, ns, rfl, hS, hl, fun _ => rfl⟩) fun _ _ _ _ _ z => z
end My
open PySem PySem.W PyProof.Rows
set_option maxRecDepth 100000 in
set_option maxHeartbeats 0 in
theorem PySem.Challenge.cw_bearerwise_k38_whole_promises_are_kept_holds : PySem.Challenge.rw_bearerwise_k38_whole_promises_are_kept.Holds := by
  w_on; o_law; k_head; (case hw => w_witness2)
  k_fill
  refine My.walk (l := PySem.Challenge.rw_bearerwise_k38_whole_promises_are_kept) rfl rfl (fun w h Y => PySem.W.kIn_of Y) ?F
  case F =>
    intro w mg fa h KX G hmg
    refine' My.all_mk KX G hmg ?z_len ?z_range ?z_abs ?z_int ?z_sum ?z_min ?z_max ?z_list ?z_enumerate ?z_BearerError ?z_NotValid ?z_Shares ?a_u_wall ?l_u_wall ?c_u_wall ?k_u_wall ?a_BearerError___init__ ?i_BearerError___init__ ?l_BearerError___init__ ?c_BearerError___init__ ?k_BearerError___init__ ?a_u_are_valid ?l_u_are_valid ?c_u_are_valid ?k_u_are_valid ?a_Shares___init__ ?i_Shares___init__ ?l_Shares___init__ ?c_Shares___init__ ?k_Shares___init__ ?a_Shares__begin_round ?i_Shares__begin_round ?l_Shares__begin_round ?c_Shares__begin_round ?k_Shares__begin_round ?a_Shares_give ?i_Shares_give ?l_Shares_give ?c_Shares_give ?k_Shares_give ?a_Shares__choose_by_credit ?i_Shares__choose_by_credit ?l_Shares__choose_by_credit ?c_Shares__choose_by_credit ?k_Shares__choose_by_credit ?a_Shares_balances ?i_Shares_balances ?l_Shares_balances ?c_Shares_balances ?k_Shares_balances ?a_Shares_given ?i_Shares_given ?l_Shares_given ?c_Shares_given ?k_Shares_given ?a_Shares_place ?i_Shares_place ?l_Shares_place ?c_Shares_place ?k_Shares_place ?a_least_units ?l_least_units ?c_least_units ?k_least_units ?a_most_units ?l_most_units ?c_most_units ?k_most_units ?a_u_law_next ?l_u_law_next ?c_u_law_next ?k_u_law_next ?a_u_law_rounds ?l_u_law_rounds ?c_u_law_rounds ?k_u_law_rounds ?a_law ?l_law ?c_law ?k_law ?xL_BearerError ?xB_BearerError ?sa_BearerError ?ex_BearerError ?ty_BearerError ?kC_BearerError ?ii_BearerError ?ti_BearerError ?ga_BearerError ?gg_BearerError ?hd_BearerError ?hc_BearerError ?mo_BearerError ?ic_BearerError ?sb_BearerError_BearerError ?sb_BearerError_NotValid ?xL_NotValid ?xB_NotValid ?sa_NotValid ?ex_NotValid ?ty_NotValid ?kC_NotValid ?ii_NotValid ?ti_NotValid ?ga_NotValid ?gg_NotValid ?hd_NotValid ?hc_NotValid ?mo_NotValid ?ic_NotValid ?sb_NotValid_BearerError ?sb_NotValid_NotValid ?pg_Shares ?hd_Shares ?po_Shares ?sa_Shares ?mk_Shares ?kc_Shares ?nf_Shares__promises ?nf_Shares__weights ?nf_Shares__units ?nf_Shares__credits ?nf_Shares__given ?nf_Shares__place ?sn_get ?tk_get
    (case z_len => k_is)
    (case z_range => k_is)
    (case z_abs => k_is)
    (case z_int => k_is)
    (case z_sum => k_is)
    (case z_min => k_is)
    (case z_max => k_is)
    (case z_list => k_is)
    (case z_enumerate => k_is)
    (case z_BearerError => k_is)
    (case z_NotValid => k_is)
    (case z_Shares => k_is)
    (case a_u_wall => k_is)
    (case l_u_wall => k_is)
    (case c_u_wall => k_is)
    (case k_u_wall => k_is)
    (case a_BearerError___init__ => k_is)
    (case i_BearerError___init__ => k_is)
    (case l_BearerError___init__ => k_is)
    (case c_BearerError___init__ => k_is)
    (case k_BearerError___init__ => k_is)
    (case a_u_are_valid => k_is)
    (case l_u_are_valid => k_is)
    (case c_u_are_valid => k_is)
    (case k_u_are_valid => k_is)
    (case a_Shares___init__ => k_is)
    (case i_Shares___init__ => k_is)
    (case l_Shares___init__ => k_is)
    (case c_Shares___init__ => k_is)
    (case k_Shares___init__ => k_is)
    (case a_Shares__begin_round => k_is)
    (case i_Shares__begin_round => k_is)
    (case l_Shares__begin_round => k_is)
    (case c_Shares__begin_round => k_is)
    (case k_Shares__begin_round => k_is)
    (case a_Shares_give => k_is)
    (case i_Shares_give => k_is)
    (case l_Shares_give => k_is)
    (case c_Shares_give => k_is)
    (case k_Shares_give => k_is)
    (case a_Shares__choose_by_credit => k_is)
    (case i_Shares__choose_by_credit => k_is)
    (case l_Shares__choose_by_credit => k_is)
    (case c_Shares__choose_by_credit => k_is)
    (case k_Shares__choose_by_credit => k_is)
    (case a_Shares_balances => k_is)
    (case i_Shares_balances => k_is)
    (case l_Shares_balances => k_is)
    (case c_Shares_balances => k_is)
    (case k_Shares_balances => k_is)
    (case a_Shares_given => k_is)
    (case i_Shares_given => k_is)
    (case l_Shares_given => k_is)
    (case c_Shares_given => k_is)
    (case k_Shares_given => k_is)
    (case a_Shares_place => k_is)
    (case i_Shares_place => k_is)
    (case l_Shares_place => k_is)
    (case c_Shares_place => k_is)
    (case k_Shares_place => k_is)
    (case a_least_units => k_is)
    (case l_least_units => k_is)
    (case c_least_units => k_is)
    (case k_least_units => k_is)
    (case a_most_units => k_is)
    (case l_most_units => k_is)
    (case c_most_units => k_is)
    (case k_most_units => k_is)
    (case a_u_law_next => k_is)
    (case l_u_law_next => k_is)
    (case c_u_law_next => k_is)
    (case k_u_law_next => k_is)
    (case a_u_law_rounds => k_is)
    (case l_u_law_rounds => k_is)
    (case c_u_law_rounds => k_is)
    (case k_u_law_rounds => k_is)
    (case a_law => k_is)
    (case l_law => k_is)
    (case c_law => k_is)
    (case k_law => k_is)
    (case xL_BearerError => k_is)
    (case xB_BearerError => decide +kernel)
    (case sa_BearerError => k_is)
    (case ex_BearerError => k_is)
    (case ty_BearerError => k_is)
    (case kC_BearerError => k_is)
    (case ii_BearerError => k_is)
    (case ti_BearerError => k_is)
    (case ga_BearerError => k_is)
    (case gg_BearerError => k_is)
    (case hd_BearerError => k_is)
    (case hc_BearerError => k_is)
    (case mo_BearerError => k_is)
    (case ic_BearerError => k_is)
    (case sb_BearerError_BearerError => first | rfl | k_is)
    (case sb_BearerError_NotValid => first | rfl | k_is)
    (case xL_NotValid => k_is)
    (case xB_NotValid => decide +kernel)
    (case sa_NotValid => k_is)
    (case ex_NotValid => k_is)
    (case ty_NotValid => k_is)
    (case kC_NotValid => k_is)
    (case ii_NotValid => k_is)
    (case ti_NotValid => k_is)
    (case ga_NotValid => k_is)
    (case gg_NotValid => k_is)
    (case hd_NotValid => k_is)
    (case hc_NotValid => k_is)
    (case mo_NotValid => k_is)
    (case ic_NotValid => k_is)
    (case sb_NotValid_BearerError => first | rfl | k_is)
    (case sb_NotValid_NotValid => first | rfl | k_is)
    (case pg_Shares => k_is)
    (case hd_Shares => k_is)
    (case po_Shares => k_is)
    (case sa_Shares => k_is)
    (case mk_Shares => k_is)
    (case kc_Shares => k_is)
    (case nf_Shares__promises => k_is)
    (case nf_Shares__weights => k_is)
    (case nf_Shares__units => k_is)
    (case nf_Shares__credits => k_is)
    (case nf_Shares__given => k_is)
    (case nf_Shares__place => k_is)
    (case sn_get => k_is)
    (case tk_get => k_is)
