import PyProof.Rows.All
import Wide.All
import OpenK.AllK
import Wide.FinOn
import HandS.ForMost
import HandS.ForExc
import HandS.IsInst
import HandS.ExcIs
import HandS.ExcInit
import HandS.Wide
import HandS.WideBits
import HandS.Zip
import HandS.Flow
import HandS.Flt
import HandS.Walk
import PySem.Challenge.RW_bearerwise_k23_one_changed_byte
set_option Elab.async false
set_option linter.all false
set_option maxRecDepth 100000
set_option maxHeartbeats 4000000
namespace My
open PySem L2

/-! ### a def as the top has left it -/
structure DefAt (K : PySem.W.Frag) (mg : Str → Option Value) (x q : Str) (st : Stmt) (ps : List Str) (f : Addr) (fd : FuncData) : Prop where
  F : Fun K x q st f fd
  b : Binds K fd ps []
  m : mg x = some (.ref f)
structure MethAt (K : PySem.W.Frag) (C : Addr) (x q : Str) (st : Stmt) (ps : List Str) (f : Addr) (fd : FuncData) : Prop where
  F : Fun K x q st f fd
  b : Binds K fd ps []
  me : Meth K C x f

structure DefAt0 (K : PySem.W.Frag) (x q : Str) (st : Stmt) (ps : List Str) (f : Addr) (fd : FuncData) : Prop where
  F : Fun K x q st f fd
  b : Binds K fd ps []
structure ClsAt (K : PySem.W.Frag) (C f : Addr) : Prop where
  cl : Cls K C
  mk' : Mk K C f

/-! ### heaps -/
theorem same_upd {H : Hp} {p : Addr} {o : HO} (h : H p = none) : Same H (upd H p o) := fun b x e => by
  rw [upd_ne (ne_of_none e h)]
  exact e
theorem same_none {H H' : Hp} {p : Addr} (s : Same H H') (h : H' p = none) : H p = none := by
  cases e : H p with
  | none => rfl
  | some o =>
    rw [s _ _ e] at h
    cases h
/-- an object that H does not know may change -/
theorem same_mut {H H' : Hp} {p : Addr} {o : HO} (e : Same H H') (h : H p = none) : Same H (upd H' p o) := fun b x hb => by
  rw [upd_ne (ne_of_none hb h)]
  exact e b x hb
theorem sq_of {K : PySem.W.Frag} {H : Hp} {a : Addr} {xs : List V} (h : H a = some (.lst xs)) : SqL K H a xs := Or.inl (Or.inl h)
theorem st_of {K : PySem.W.Frag} {H : Hp} {a : Addr} {xs : List V} (h : H a = some (.tup xs)) : SqT K H a xs := Or.inl (Or.inl h)
theorem Same.sqt {K : PySem.W.Frag} {H H' : Hp} {a : Addr} {xs : List V} (e : Same H H') (h : SqT K H a xs) : SqT K H' a xs := by
  rcases h with (h | ⟨o, h⟩) | h
  · exact .inl (.inl (e _ _ h))
  · exact .inl (.inr ⟨o, e _ _ h⟩)
  · exact .inr h
theorem hp_step {H H' : Hp} {a : Addr} {o : HO} (h : H a = some o) (s : Same H H') : H' a = some o := s _ _ h
theorem sq_step {K : PySem.W.Frag} {H H' : Hp} {a : Addr} {xs : List V} (h : SqL K H a xs) (s : Same H H') : SqL K H' a xs := s.seq h
theorem sqt_step {K : PySem.W.Frag} {H H' : Hp} {a : Addr} {xs : List V} (h : SqT K H a xs) (s : Same H H') : SqT K H' a xs := Same.sqt s h
theorem sz {n : Nat} (h : n ≤ 1000000) : n ≤ sizeLine := Nat.le_trans h (by rw [sizeLine_eq]; decide)
theorem szl {n : Nat} (h : n < 1000000) : n < sizeLine := Nat.lt_of_lt_of_le h (by rw [sizeLine_eq]; decide)

/-- the promises' shapes: a value and the heap as it was; a value; a new list -/
def RV (v : V) (H : Hp) (Q : VK) : Prop := ∀ H', Same H H' → Q v H'
def RL (xs : List V) (H : Hp) (Q : VK) : Prop := ∀ p H', H p = none → Same H H' → H' p = some (.lst xs) → Q (.ref p) H'
def RT (xs : List V) (H : Hp) (Q : VK) : Prop := ∀ p H', H p = none → Same H H' → H' p = some (.tup xs) → Q (.ref p) H'

/-! ### stops for the walk: a proposition that no tuple opens -/
inductive Stop (p : Prop) : Prop where
  | a (h : p) : Stop p
  | b (h : p) : Stop p
theorem Stop.un {p : Prop} (h : Stop p) : p := by cases h <;> assumption

/-! ### an exception of an own class whose __init__ takes nothing and stores nothing: X() -/
def spInit0 : Sp := fun vs H Q _ => ∃ a, vs = [.ref a] ∧ Q .non H
structure PlainExc (P : Program) (w : World) (K : PySem.W.Frag) (mg : Str → Option Value) (base : Heap) (x : Str) (C fI : Addr) (fdI : FuncData) : Prop where
  T : OexC K C
  iC : PySem.W.findIn K (.ref C) "__init__" = some (some (.ref fI))
  tI : PySem.W.typeIn K (.ref fI) = some (.type "function")
  F1 : FnOk P w K mg base CX0 1 fI fdI ["self"] spInit0
  bI : Binds K fdI ["self"] []
  m : mg x = some (.ref C)
open PySem.Spec PyProof.Rows in
theorem mk_endN {X : Cx} {pins : List (Addr × Obj)} {σ : L2.St} {H1 : Hp} {Q : XK} {hp hp2 h2 : Heap} {g1 g2 : Array GenState} {d1 d2 : Drawn} {t1 t2 : Nat} {os1 os2 : OsState} {a C : Addr} (T : Raises X (.ref C)) (I1 : Inv X pins σ H1 ⟨hp, g1, d1, t1, os1⟩)
    (ha : hp.objs.size ≤ a) (k : ∀ b o, hp.get? b = some o → hp2.get? b = some o) (un : Un (frs X.stack) [] (upd H1 a (exo a C none)) (upd H1 a (exo a C none)) hp2 h2) (hok : HOk X.prog X.w (upd H1 a (exo a C none)) h2) (ho : os2 = os1) (hb : AllBare g2)
    (q : Q (.ref C) none H1) : MkP X pins σ Q (.ref a) ⟨h2, g2, d2, t2, os2⟩ := by
  obtain ⟨t0, hoe⟩ := exo_at hok upd_same
  have hn : H1 a = none := I1.hok.fresh ha
  obtain ⟨G, g1', g2'⟩ := restrict h2 fun b => decide (b ≠ a)
  have gk : ∀ b, b ≠ a → G.get? b = h2.get? b := fun b hb => g1' b (decide_eq_true hb)
  have ge : G.get? a = none := g2' a (by simp)
  have nha : ∀ {b : Addr} {o : Obj}, hp.get? b = some o → b ≠ a := fun {b o} z => Nat.ne_of_lt (Nat.lt_of_lt_of_le (Heap.lt_size z) ha)
  have up : ∀ {b : Addr}, b ≠ a → H1 b = none → upd H1 a (exo a C none) b = none := fun {b} hb n => by rw [upd_ne hb]; exact n
  have U : Un (frs X.stack) [] H1 H1 hp G := {
    keep := fun b o z n hf hx => by
      rw [gk b (nha z)]
      exact un.keep b o (k b o z) (up (nha z) n) hf hx
    slot := fun b o z n hf hx => by
      rw [gk b (nha z)]
      exact un.slot b o (k b o z) (up (nha z) n) hf hx
    free := fun b o z n hx => n
    there := fun b o z hx => by
      rw [gk b (nha z)]
      exact un.there b o (k b o z) hx
    tups := fun b xs z => z
    frzs := fun b o v z => z
    tbls := fun b ps z => ⟨#[], by rw [z]; simp⟩ }
  have hok3 : HOk X.prog X.w H1 G := fun b o z => by
    have hba : b ≠ a := fun e => by
      rw [e, hn] at z
      cases z
    have z2 : upd H1 a (exo a C none) b = some o := by rw [upd_ne hba]; exact z
    have noa : ∀ {c : Addr} {u : HO}, H1 c = some u → c ≠ a := fun {c u} hc e => by
      rw [e, hn] at hc
      cases hc
    exact (hok b o z2).stay (fun c v hc y => by
        have hca : c ≠ a := by
          rcases hc with hc | hc
          · rw [hc]
            exact hba
          · exact fun e => by
              rw [e, upd_same] at hc
              exact exo_own (Option.some.inj hc)
        rw [gk c hca]
        exact y)
      (fun c hc => by
        by_cases e : c = a
        · rw [e, upd_same] at hc
          exact absurd (Option.some.inj hc) exo_own
        · rw [upd_ne e] at hc
          exact hc)
      (fun c xs hc => by
        by_cases e : c = a
        · rw [e, upd_same] at hc
          exact absurd (Option.some.inj hc) exo_tup
        · rw [upd_ne e] at hc
          exact hc)
  have J : Inv X pins σ H1 ⟨G, g2, d2, t2, os2⟩ := I1.call' (ch := []) ho U hok3 hb (fun b z => absurd z (by simp))
  refine ⟨a, _, _, ⟨G, g2, d2, t2, os2⟩, _, .ref C, none, rfl, J, fun b o z => ?_, ge, hoe, ⟨rfl, rfl⟩, rfl, rfl, hn, rfl, hb, T, q⟩
  by_cases hba : b = a
  · rw [hba, ge] at z
    cases z
  · exact (gk b hba).symm.trans z
open PySem.Spec PyProof.Rows in
theorem pmk_plain {X : Cx} {x : Str} {C fI : Addr} {fdI : FuncData} {p pos : Pos} (T : PlainExc X.prog X.w X.K X.mg X.base x C fI fdI) (hr : Room 2 X.A) (hg : Gl X x) (hdb : (x == ("__debug__" : Str)) = false := by decide) :
    PMk X (.Call (.Name x p) [] [] pos) (fun _ H Q => Q (.ref C) none H) := by
  intro pins s σ H Q I h
  obtain ⟨nm, q, N, bs, bm, sn, sub, ab, col, dd, k0, k1, k2, k3, k5, hC, hbm⟩ := T.T.cls
  refine wpAny_Call_Name_kw (ld_glob I hg T.m ?_ hdb)
  refine PySem.W.callWith_K0 I.kIn T.T.kC ?_
  show wpAny _ _ (call (.ref C) []) _ _ _
  obtain ⟨hp, g, dr, tk, os⟩ := s
  have hsz : hp.objs.size ≤ hp.objs.size + 1 := Nat.le_succ _
  have hn : H (hp.objs.size + 1) = none := I.hok.fresh hsz
  have kk : ∀ b o, hp.get? b = some o → ((hp.push (PySem.W.kdv_tup [])).push (PySem.HandSPX.excO C hp.objs.size)).get? b = some o := fun b o e => Heap.get?_push_of_some _ (Heap.get?_push_of_some _ e)
  have hget : ((hp.push (PySem.W.kdv_tup [])).push (PySem.HandSPX.excO C hp.objs.size)).get? (hp.objs.size + 1) = some (PySem.HandSPX.excO C hp.objs.size) := by heap_get
  have I2 : Inv X pins σ (upd H (hp.objs.size + 1) (exo (hp.objs.size + 1) C none)) ⟨(hp.push (PySem.W.kdv_tup [])).push (PySem.HandSPX.excO C hp.objs.size), g, dr, tk, os⟩ :=
    I.laid (t' := tk) (a := hp.objs.size + 1) (o := exo (hp.objs.size + 1) C none) (h' := (hp.push (PySem.W.kdv_tup [])).push (PySem.HandSPX.excO C hp.objs.size)) kk hsz (exo_ok hget)
  have r2 : Vals [V.ref (hp.objs.size + 1)] [Value.ref (hp.objs.size + 1)] := .cons rfl .nil
  have hq : spInit0 [V.ref (hp.objs.size + 1)] (upd H (hp.objs.size + 1) (exo (hp.objs.size + 1) C none)) (fun v H2 => v = .non ∧ H2 = upd H (hp.objs.size + 1) (exo (hp.objs.size + 1) C none)) (fun _ _ _ => False) := ⟨_, rfl, rfl, rfl⟩
  refine wpAny_call (PySem.HandSPX.call_own PySem.F.excBase_ValueError (fun Y => PySem.HandSPX.refsVE_contains Y bm hbm) (I.kIn _ _ hC) (PySem.W.looks_findIn I.kIn T.iC) (fun self => PySem.W.bind_fn I.kIn self T.tI) (Nat.zero_le _)
    (codeAny_mono (T.F1.run _ X.stack _ _ ⟨[Value.ref (hp.objs.size + 1)], []⟩ [Value.ref (hp.objs.size + 1)] _ _ (fun _ _ _ => False) (hr.make C [] []) (I2.env0.make C [] []) (T.bI _ [Value.ref (hp.objs.size + 1)] I2.kIn rfl) r2 hq) fun r s' hq' => ?_))
  cases r with
  | error er => exact hq'.elim
  | ok fl =>
    cases fl with
    | ret u =>
      obtain ⟨v, H2, os2, bare2, un2, hok2, rv, ev, eH⟩ := hq'
      subst ev
      subst eH
      obtain ⟨h2, g2, d2, t2, os'⟩ := s'
      exact ⟨rv, mk_endN (raises_own T.T.exC T.T.tyC) I hsz kk un2 hok2 os2 bare2 h⟩
    | next => exact False.elim hq'
    | brk => exact False.elim hq'
    | cont => exact False.elim hq'

theorem ite_t {c A B : Prop} [Decidable c] (hc : c) (h : A) : if decide c = true then A else B := by
  rw [decide_eq_true hc]
  exact iteT h
theorem ite_f {c A B : Prop} [Decidable c] (hc : ¬ c) (h : B) : if decide c = true then A else B := by
  rw [decide_eq_false hc]
  exact iteF h
theorem ite_nt {c A B : Prop} [Decidable c] (hc : ¬ c) (h : A) : if (!decide c) = true then A else B := by
  rw [decide_eq_false hc]
  exact iteT h
theorem ite_nf {c A B : Prop} [Decidable c] (hc : c) (h : B) : if (!decide c) = true then A else B := by
  rw [decide_eq_true hc]
  exact iteF h
theorem ite_by {c A B : Prop} [Decidable c] (h1 : c → A) (h2 : ¬ c → B) : if decide c = true then A else B := by
  by_cases h : c
  · exact ite_t h (h1 h)
  · exact ite_f h (h2 h)
theorem ite_nby {c A B : Prop} [Decidable c] (h1 : ¬ c → A) (h2 : c → B) : if (!decide c) = true then A else B := by
  by_cases h : c
  · exact ite_nf h (h2 h)
  · exact ite_nt h (h1 h)
/-- an item of the ints -/
theorem at_int {ns : List Int} {k : Int} (h0 : 0 ≤ k) (h1 : k < (ns.length : Int)) : atI (ns.map V.int) k = some (V.int (ns.getD k.toNat 0)) := by
  refine at_of (j := k.toNat) (by omega) ?_
  have h2 : k.toNat < ns.length := by omega
  rw [List.getElem?_map, List.getElem?_eq_getElem h2, List.getD_eq_getElem?_getD, List.getElem?_eq_getElem h2]
  rfl
theorem two_pos1 (k : Nat) : (0 : Int) < 1 * 2 ^ k := by
  rw [Int.one_mul]
  exact Int.pow_pos (by decide)
theorem q_int {Q : VK} {x y : Int} {H : Hp} (q : Q (.int x) H) (e : x = y) : Q (.int y) H := e ▸ q
theorem q_bl {Q : VK} {x y : Bool} {H : Hp} (q : Q (.bl x) H) (e : x = y) : Q (.bl y) H := e ▸ q

/-! ### readings that stop the walk where a new object comes: told by what holds of the new heap -/
/-- the closure of a reading: some wish that it keeps, and that is enough -/
def cTE (t : TE) : TE := fun σ H Q => ∃ R : VK, t σ H R ∧ ∀ v H', R v H' → Q v H'
def cTA (t : TA) : TA := fun σ H Q => ∃ R : List V → Hp → Prop, t σ H R ∧ ∀ v H', R v H' → Q v H'
def cTT (t : TT) : TT := fun σ H Q => ∃ R : Bool → Hp → Prop, t σ H R ∧ ∀ v H', R v H' → Q v H'
section
variable {X : Cx} {e : Expr} {es : List Expr} {te : TE} {ta : TA} {tt : TT} {pos : Pos}
theorem pe_c (h : PE X e te) : PE X e (cTE te) := ⟨fun pins s σ H Q I ⟨R, h1, h2⟩ => thn (h.run pins s σ H R I h1) fun u s1 ⟨v, H1, I1, r, q⟩ => ⟨v, H1, I1, r, h2 _ _ q⟩⟩
theorem pa_c (h : PA X es ta) : PA X es (cTA ta) := ⟨fun pos pins s σ H Q I ⟨R, h1, h2⟩ => thn (h.run pos pins s σ H R I h1) fun u s1 ⟨v, H1, I1, r, q⟩ => ⟨v, H1, I1, r, h2 _ _ q⟩⟩
theorem pt_c (h : PT X e tt) : PT X e (cTT tt) := ⟨fun pins s σ H Q I ⟨R, h1, h2⟩ => thn (h.run pins s σ H R I h1) fun u s1 ⟨H1, I1, q⟩ => ⟨H1, I1, h2 _ _ q⟩⟩
theorem pe_weak {te' : TE} (h : PE X e te) (w : ∀ σ H Q, te' σ H Q → te σ H Q) : PE X e te' := ⟨fun pins s σ H Q I q => h.run pins s σ H Q I (w σ H Q q)⟩
theorem ps_weak {st : Stmt} {t t' : TS} (h : PS X st t) (w : ∀ D σ H, t' D σ H → t D σ H) : PS X st t' := ⟨fun pins s σ H D I q => h.run pins s σ H D I (w D σ H q)⟩
end
/-- what is wanted of a new object -/
def NewO (o : HO) (H : Hp) (Q : VK) : Prop := ∀ p H', H p = none → Same H H' → H' p = some o → Q (.ref p) H'
theorem NewO.go {o : HO} {H : Hp} {Q : VK} (h : NewO o H Q) : ∀ p, H p = none → Q (.ref p) (upd H p o) := fun p hp => h p _ hp (same_upd hp) upd_same
@[irreducible] def mTup (t : TA) : TE := fun σ H Q => t σ H fun xs H1 => xs.length ≤ 1000 ∧ NewO (.tup xs) H1 Q
@[irreducible] def mLst (t : TA) : TE := fun σ H Q => t σ H fun xs H1 => xs.length ≤ 1000 ∧ NewO (.lst xs) H1 Q
theorem rd_tup {t : TA} {σ : L2.St} {H : Hp} {Q : VK} (h : t σ H fun xs H1 => xs.length ≤ 1000 ∧ NewO (.tup xs) H1 Q) : mTup t σ H Q := by
  unfold mTup
  exact h
theorem rd_lst {t : TA} {σ : L2.St} {H : Hp} {Q : VK} (h : t σ H fun xs H1 => xs.length ≤ 1000 ∧ NewO (.lst xs) H1 Q) : mLst t σ H Q := by
  unfold mLst
  exact h
@[irreducible] def mCat (K : PySem.W.Frag) : R2 := fun x y H Q => ∃ l b xs zs, x = .ref l ∧ y = .ref b ∧ H l = some (.lst xs) ∧ H b = some (.lst zs) ∧ xs.length + zs.length ≤ 1000000 ∧ NewO (.lst (xs ++ zs)) H Q
theorem rd_cat {K : PySem.W.Frag} {l b : Addr} {xs zs : List V} {H : Hp} {Q : VK} (h1 : H l = some (.lst xs)) (h2 : H b = some (.lst zs)) (hz : xs.length + zs.length ≤ 1000000) (h : NewO (.lst (xs ++ zs)) H Q) : mCat K (.ref l) (.ref b) H Q := by
  unfold mCat
  exact ⟨l, b, xs, zs, rfl, rfl, h1, h2, hz, h⟩
@[irreducible] def mRep : R2 := fun x y H Q => ∃ l k xs, x = .ref l ∧ y = .int k ∧ H l = some (.lst xs) ∧ 0 ≤ k ∧ k ≤ 100000 ∧ xs.length * k.toNat ≤ 1000000 ∧ NewO (.lst (List.replicate k.toNat xs).flatten) H Q
@[irreducible] def mSlL (K : PySem.W.Frag) : V → Option Int → Option Int → Hp → VK → Prop := fun x lo hi H Q => ∃ a xs, x = .ref a ∧ SqL K H a xs ∧ NewO (.lst (cutV xs lo hi)) H Q
theorem rd_sl {K : PySem.W.Frag} {a : Addr} {xs : List V} {lo hi : Option Int} {H : Hp} {Q : VK} (h1 : SqL K H a xs) (h : NewO (.lst (cutV xs lo hi)) H Q) : mSlL K (.ref a) lo hi H Q := by
  unfold mSlL
  exact ⟨a, xs, rfl, h1, h⟩
@[irreducible] def mListOf (K : PySem.W.Frag) : List V → Hp → VK → Prop := fun xs H Q => ∃ p ys, xs = [.ref p] ∧ (SqL K H p ys ∨ SqT K H p ys) ∧ NewO (.lst ys) H Q
theorem rd_list {K : PySem.W.Frag} {a : Addr} {xs : List V} {H : Hp} {Q : VK} (h1 : SqL K H a xs) (h : NewO (.lst xs) H Q) : mListOf K [.ref a] H Q := by
  unfold mListOf
  exact ⟨a, xs, rfl, .inl h1, h⟩
/-- the elements of a comprehension, one by one: what each gives, the heap grown at most -/
def Elt (te : TE) (σ : L2.St) (H : Hp) (y : V) : Prop := ∀ H', Same H H' → te σ H' fun v H'' => v = y ∧ Same H' H''
@[irreducible] def mLcR1 (ta : TA) (j : Nat) (te : TE) (vs : List Nat) : TE := fun σ H Q => ta σ H fun ws H1 => ∃ (n : Int) (f : Nat → V), ws = [.int n] ∧ (-100000 ≤ n ∧ n ≤ 100000) ∧ (∀ i, i < n.toNat → Elt te ((wipe σ vs).set j (some (.int (i : Nat)))) H1 (f i)) ∧ NewO (.lst ((List.range n.toNat).map f)) H1 Q
theorem rd_lcR1 {ta : TA} {j : Nat} {te : TE} {vs : List Nat} {σ : L2.St} {H : Hp} {Q : VK} (h : ta σ H fun ws H1 => ∃ (n : Int) (f : Nat → V), ws = [.int n] ∧ (-100000 ≤ n ∧ n ≤ 100000) ∧ (∀ i, i < n.toNat → Elt te ((wipe σ vs).set j (some (.int (i : Nat)))) H1 (f i)) ∧ NewO (.lst ((List.range n.toNat).map f)) H1 Q) : mLcR1 ta j te vs σ H Q := by
  unfold mLcR1
  exact h
@[irreducible] def mLcL (K : PySem.W.Frag) (tl : TE) (j : Nat) (te : TE) (vs : List Nat) : TE := fun σ H Q => tl σ H fun x H1 => ∃ (a : Addr) (xs : List V) (f : V → V), x = .ref a ∧ SqL K H1 a xs ∧ xs.length ≤ 100000 ∧ (∀ y, y ∈ xs → Elt te ((wipe σ vs).set j (some y)) H1 (f y)) ∧ NewO (.lst (xs.map f)) H1 Q
theorem rd_lcL {K : PySem.W.Frag} {tl : TE} {j : Nat} {te : TE} {vs : List Nat} {σ : L2.St} {H : Hp} {Q : VK} (h : tl σ H fun x H1 => ∃ (a : Addr) (xs : List V) (f : V → V), x = .ref a ∧ SqL K H1 a xs ∧ xs.length ≤ 100000 ∧ (∀ y, y ∈ xs → Elt te ((wipe σ vs).set j (some y)) H1 (f y)) ∧ NewO (.lst (xs.map f)) H1 Q) : mLcL K tl j te vs σ H Q := by
  unfold mLcL
  exact h
theorem wipe_set {σ : L2.St} {vs : List Nat} {j : Nat} {x : Option V} (hj : vs = [j]) : wipe ((wipe σ vs).set j x) vs = wipe σ vs := by
  subst hj
  show ((σ.set j none).set j x).set j none = σ.set j none
  rw [List.set_set, List.set_set]
section
variable {X : Cx} {e : Expr} {es : List Expr} {te : TE} {t ta : TA} {tt : TT} {pos : Pos}
theorem pe_tupM {x1} (h : PA X es t) : PE X (.Tuple es x1 pos) (mTup t) := pe_weak (pe_tup (pa_c h)) fun σ H Q q => by
  unfold mTup at q
  exact ⟨_, q, fun xs H1 r => ⟨sz (Nat.le_trans r.1 (by decide)), r.2.go⟩⟩
theorem pe_lstM (h : PA X es t) : PE X (.List es pos) (mLst t) := pe_weak (pe_lst (pa_c h)) fun σ H Q q => by
  unfold mLst at q
  exact ⟨_, q, fun xs H1 r => ⟨sz (Nat.le_trans r.1 (by decide)), r.2.go⟩⟩
theorem op_catM : OpR X (binaryOp .Add) (mCat X.K) := fun pins s σ H x y v u Q I rx ry q => op_cat pins s σ H x y v u Q I rx ry (by
  unfold mCat at q
  obtain ⟨l, b, xs, zs, e1, e2, h1, h2, hz, h⟩ := q
  exact ⟨l, b, xs, zs, e1, e2, h1, h2, sz hz, h.go⟩)
theorem sl_listM : SlR X (mSlL X.K) := fun pins s σ H x v vl vu lo hi sl Q I rx hs pl pu q => sl_list pins s σ H x v vl vu lo hi sl Q I rx hs pl pu (by
  unfold mSlL at q
  obtain ⟨a, xs, e1, h1, h⟩ := q
  exact ⟨a, xs, e1, h1, h.go⟩)
theorem call_listM : CallR X (.type "list") (mListOf X.K) := fun pins s σ H xs us Q I r q => call_list_of pins s σ H xs us Q I r (by
  unfold mListOf at q
  obtain ⟨a, xs, e1, h1, h⟩ := q
  exact ⟨a, xs, e1, h1, h.go⟩)
/-- [e for x in range(n)] -/
theorem lcR1_of {ta : TA} {j : Nat} {te : TE} {vs : List Nat} {σ : L2.St} {H : Hp} {Q : VK} (hj : vs = [j]) (q : mLcR1 ta j te vs σ H Q) : tLc (iRng1 (cTA ta)) (gName j) tYes (cTE te) vs σ H Q := by
  unfold mLcR1 at q
  refine ⟨_, q, fun ws H1 r => ?_⟩
  obtain ⟨n, f, rfl, hn, he, hq⟩ := r
  obtain ⟨hn0, hn⟩ := hn
  have big : (2 : Int) ^ 62 = 4611686018427387904 := by decide
  refine ⟨n, rfl, by omega, by omega, fun D hD => ?_⟩
  refine lc_range (lo := 0) (n := n.toNat) (fun i H' => Same H1 H' ∧ H' D = some (.lst ((List.range i).map f))) ⟨same_upd hD, upd_same⟩ (fun i H' hi p => ⟨wipe_set hj, ?_⟩) fun H' p => hq D H' hD p.1 p.2
  show cTE te ((wipe σ vs).set j (some (.int (0 + (i : Int))))) H' _
  rw [Int.zero_add]
  refine ⟨_, he i hi H' p.1, fun y H'' r => ?_⟩
  obtain ⟨rfl, s2⟩ := r
  refine ⟨_, s2 _ _ p.2, szl (by rw [List.length_map, List.length_range]; omega), same_mut (p.1.trans s2) hD, ?_⟩
  rw [upd_same, List.range_succ, List.map_append]
  rfl
theorem take_snoc {α : Type} {l : List α} {i : Nat} {x : α} (h : l[i]? = some x) : l.take (i + 1) = l.take i ++ [x] := by
  rw [List.take_add_one, h]
  rfl
/-- [e for x in xs] -/
theorem lcL_of {K : PySem.W.Frag} {tl : TE} {j : Nat} {te : TE} {vs : List Nat} {σ : L2.St} {H : Hp} {Q : VK} (hj : vs = [j]) (q : mLcL K tl j te vs σ H Q) : tLc (iList K (cTE tl)) (gName j) tYes (cTE te) vs σ H Q := by
  unfold mLcL at q
  refine ⟨_, q, fun x H1 r => ?_⟩
  obtain ⟨a, xs, f, rfl, hx, hn, he, hq⟩ := r
  refine ⟨a, rfl, ⟨xs, hx⟩, fun D hD => ?_⟩
  refine lc_list (xs := xs) (fun i H' => Same H1 H' ∧ H' D = some (.lst ((xs.take i).map f))) ⟨same_upd hD, upd_same⟩ (fun i H' _ p => p.1.seq hx) (fun i y H' hi p => ⟨wipe_set hj, ?_⟩) fun H' p => hq D H' hD p.1 (by rw [p.2, List.take_length])
  have hy : y ∈ xs := List.mem_of_getElem? hi
  have hl : i < xs.length := (List.getElem?_eq_some_iff.mp hi).1
  show cTE te ((wipe σ vs).set j (some y)) H' _
  refine ⟨_, he y hy H' p.1, fun z H'' r => ?_⟩
  obtain ⟨rfl, s2⟩ := r
  refine ⟨_, s2 _ _ p.2, szl (by rw [List.length_map, List.length_take]; omega), same_mut (p.1.trans s2) hD, ?_⟩
  rw [upd_same, take_snoc hi, List.map_append]
  rfl
theorem pe_lcR1 {elt : Expr} {scope : Scope} {j : Nat} {x : Str} {a : Expr} {p p2 xpos : Pos} (hc : X.calm = true) (hN : X.N.Nodup) (hg : Gl X "range") (hm : X.mg "range" = none) (ha : PA X [a] ta) (ok : BlkOk X.N X.env.scope scope [(x, j)])
    (hgt : ∀ (s : Shared) (H : Hp) (C : Addr) (cl : List (Str × Addr)) (fp : List Addr), PG (X.blk s H scope (compEnvC scope cl C X.env) fp) (.Name x xpos) (gName j))
    (he : ∀ (s : Shared) (H : Hp) (C : Addr) (cl : List (Str × Addr)) (fp : List Addr), PE (X.blk s H scope (compEnvC scope cl C X.env) fp) elt te)
    (hs : starEach [a] X.env = [(false, eval a X.env)] := by rfl) (hs2 : ∀ y, foldedSetIterable (.Call (.Name "range" p) [a] [] p2) X.env y = pure y := by intro _; rfl) :
    PE X (.ListComp elt [⟨.Name x xpos, .Call (.Name "range" p) [a] [] p2, [], 0⟩] scope pos) (mLcR1 ta j te [j]) :=
  pe_weak (pe_lc hc hN (pi_range1 hg hm (pa_c ha) hs) ok hgt (fun _ _ _ _ _ => pts_nil) (fun s H C cl fp => pe_c (he s H C cl fp)) hs2) fun _ _ _ q => lcR1_of rfl q
theorem pe_lcL {elt it : Expr} {scope : Scope} {j : Nat} {x : Str} {xpos : Pos} (hc : X.calm = true) (hN : X.N.Nodup) {tl : TE} (ha : PE X it tl) (ok : BlkOk X.N X.env.scope scope [(x, j)])
    (hgt : ∀ (s : Shared) (H : Hp) (C : Addr) (cl : List (Str × Addr)) (fp : List Addr), PG (X.blk s H scope (compEnvC scope cl C X.env) fp) (.Name x xpos) (gName j))
    (he : ∀ (s : Shared) (H : Hp) (C : Addr) (cl : List (Str × Addr)) (fp : List Addr), PE (X.blk s H scope (compEnvC scope cl C X.env) fp) elt te) (hs2 : ∀ y, foldedSetIterable it X.env y = pure y := by intro _; rfl) :
    PE X (.ListComp elt [⟨.Name x xpos, it, [], 0⟩] scope pos) (mLcL X.K tl j te [j]) :=
  pe_weak (pe_lc hc hN (pi_list (pe_c ha)) ok hgt (fun _ _ _ _ _ => pts_nil) (fun s H C cl fp => pe_c (he s H C cl fp)) hs2) fun _ _ _ q => lcL_of rfl q
theorem ps_setLcR1 {i : Nat} {y : Str} {py spos : Pos} {elt : Expr} {scope : Scope} {j : Nat} {x : Str} {a : Expr} {p p2 xpos : Pos} (hc : X.calm = true) (hN : X.N.Nodup) (hy : X.N[i]? = some y) (hyl : X.env.scope.names.lookup y = some .local)
    (hsw : swapsWith (.ListComp elt [⟨.Name x xpos, .Call (.Name "range" p) [a] [] p2, [], 0⟩] scope pos) (some (.Name y py)) spos.line X.env = pure true) (hg : Gl X "range") (hm : X.mg "range" = none) (ha : PA X [a] ta) (ok : BlkOk X.N X.env.scope scope [(x, j)])
    (hgt : ∀ (s : Shared) (H : Hp) (C : Addr) (cl : List (Str × Addr)) (fp : List Addr), PG (X.blk s H scope (compEnvC scope cl C X.env) fp) (.Name x xpos) (gName j))
    (he : ∀ (s : Shared) (H : Hp) (C : Addr) (cl : List (Str × Addr)) (fp : List Addr), PE (X.blk s H scope (compEnvC scope cl C X.env) fp) elt te)
    (hs : starEach [a] X.env = [(false, eval a X.env)] := by rfl) (hs2 : ∀ y, foldedSetIterable (.Call (.Name "range" p) [a] [] p2) X.env y = pure y := by intro _; rfl) :
    PS X (.Assign [.Name y py] (.ListComp elt [⟨.Name x xpos, .Call (.Name "range" p) [a] [] p2, [], 0⟩] scope pos) spos) (tAsg (mLcR1 ta j te [j]) (gName i)) :=
  ps_weak (ps_setLc hc hN hy hyl hsw (pi_range1 hg hm (pa_c ha) hs) ok hgt (fun _ _ _ _ _ => pts_nil) (fun s H C cl fp => pe_c (he s H C cl fp)) hs2) fun _ _ _ q => lcR1_of rfl q
theorem ps_setLcL {i : Nat} {y : Str} {py spos : Pos} {elt it : Expr} {scope : Scope} {j : Nat} {x : Str} {xpos : Pos} {tl : TE} (hc : X.calm = true) (hN : X.N.Nodup) (hy : X.N[i]? = some y) (hyl : X.env.scope.names.lookup y = some .local)
    (hsw : swapsWith (.ListComp elt [⟨.Name x xpos, it, [], 0⟩] scope pos) (some (.Name y py)) spos.line X.env = pure true) (ha : PE X it tl) (ok : BlkOk X.N X.env.scope scope [(x, j)])
    (hgt : ∀ (s : Shared) (H : Hp) (C : Addr) (cl : List (Str × Addr)) (fp : List Addr), PG (X.blk s H scope (compEnvC scope cl C X.env) fp) (.Name x xpos) (gName j))
    (he : ∀ (s : Shared) (H : Hp) (C : Addr) (cl : List (Str × Addr)) (fp : List Addr), PE (X.blk s H scope (compEnvC scope cl C X.env) fp) elt te) (hs2 : ∀ y, foldedSetIterable it X.env y = pure y := by intro _; rfl) :
    PS X (.Assign [.Name y py] (.ListComp elt [⟨.Name x xpos, it, [], 0⟩] scope pos) spos) (tAsg (mLcL X.K tl j te [j]) (gName i)) :=
  ps_weak (ps_setLc hc hN hy hyl hsw (pi_list (pe_c ha)) ok hgt (fun _ _ _ _ _ => pts_nil) (fun s H C cl fp => pe_c (he s H C cl fp)) hs2) fun _ _ _ q => lcL_of rfl q
/-! ### loops that stop the walk -/
@[irreducible] def mForR1 (ta : TA) (j : Nat) (tb : TS) : TS := fun D σ H => ta σ H fun ws H1 => ∃ (n : Int) (Pv : Nat → L2.St → Hp → Prop), ws = [.int n] ∧ (-100000 ≤ n ∧ n ≤ 100000) ∧ Pv 0 σ H1 ∧
  (∀ i σ' H', i < n.toNat → Pv i σ' H' → tb { D with nx := Pv (i + 1), ct := Pv (i + 1), bk := D.nx } (σ'.set j (some (.int (i : Nat)))) H') ∧ ∀ σ' H', Pv n.toNat σ' H' → D.nx σ' H'
theorem rd_forR1 {ta : TA} {j : Nat} {tb : TS} {D : Ends} {σ : L2.St} {H : Hp} (h : ta σ H fun ws H1 => ∃ (n : Int) (Pv : Nat → L2.St → Hp → Prop), ws = [.int n] ∧ (-100000 ≤ n ∧ n ≤ 100000) ∧ Pv 0 σ H1 ∧
  (∀ i σ' H', i < n.toNat → Pv i σ' H' → tb { D with nx := Pv (i + 1), ct := Pv (i + 1), bk := D.nx } (σ'.set j (some (.int (i : Nat)))) H') ∧ ∀ σ' H', Pv n.toNat σ' H' → D.nx σ' H') : mForR1 ta j tb D σ H := by
  unfold mForR1
  exact h
theorem forR1_of {ta : TA} {j : Nat} {tb : TS} {D : Ends} {σ : L2.St} {H : Hp} (q : mForR1 ta j tb D σ H) : tFor (iRng1 (cTA ta)) (gName j) tb D σ H := by
  unfold mForR1 at q
  refine ⟨_, q, fun ws H1 r => ?_⟩
  obtain ⟨n, Pv, rfl, ⟨hn0, hn⟩, h0, hs, hd⟩ := r
  have big : (2 : Int) ^ 62 = 4611686018427387904 := by decide
  refine ⟨n, rfl, by omega, by omega, for_range (lo := 0) (n := n.toNat) Pv h0 (fun i σ' H' hi p => ?_) hd⟩
  show tb _ (σ'.set j (some (.int (0 + (i : Int))))) H'
  rw [Int.zero_add]
  exact hs i σ' H' hi p
theorem ps_forR1 {j : Nat} {x : Str} {a : Expr} {body : List Stmt} {tb : TS} {p p2 xpos : Pos} (hp : PassesOwn (model X.prog X.w) X.A X.env X.xe) (hc : X.calm = true) (hg : Gl X "range") (hm : X.mg "range" = none) (ha : PA X [a] ta) (hgt : PG X (.Name x xpos) (gName j)) (hb : PSs X body tb)
    (hs : starEach [a] X.env = [(false, eval a X.env)] := by rfl) (hs2 : ∀ y, foldedSetIterable (.Call (.Name "range" p) [a] [] p2) X.env y = pure y := by intro _; rfl) : PS X (.For (.Name x xpos) (.Call (.Name "range" p) [a] [] p2) body [] pos) (mForR1 ta j tb) :=
  ps_weak (ps_for hp hc (pi_range1 hg hm (pa_c ha) hs) hgt hb hs2) fun _ _ _ q => forR1_of q
@[irreducible] def mForR2 (ta : TA) (j : Nat) (tb : TS) : TS := fun D σ H => ta σ H fun ws H1 => ∃ (lo n : Int) (Pv : Nat → L2.St → Hp → Prop), ws = [.int lo, .int n] ∧ (-100000 ≤ lo ∧ lo ≤ 100000 ∧ -100000 ≤ n ∧ n ≤ 100000) ∧ Pv 0 σ H1 ∧
  (∀ i σ' H', i < (n - lo).toNat → Pv i σ' H' → tb { D with nx := Pv (i + 1), ct := Pv (i + 1), bk := D.nx } (σ'.set j (some (.int (lo + (i : Int))))) H') ∧ ∀ σ' H', Pv (n - lo).toNat σ' H' → D.nx σ' H'
theorem rd_forR2 {ta : TA} {j : Nat} {tb : TS} {D : Ends} {σ : L2.St} {H : Hp} (h : ta σ H fun ws H1 => ∃ (lo n : Int) (Pv : Nat → L2.St → Hp → Prop), ws = [.int lo, .int n] ∧ (-100000 ≤ lo ∧ lo ≤ 100000 ∧ -100000 ≤ n ∧ n ≤ 100000) ∧ Pv 0 σ H1 ∧
  (∀ i σ' H', i < (n - lo).toNat → Pv i σ' H' → tb { D with nx := Pv (i + 1), ct := Pv (i + 1), bk := D.nx } (σ'.set j (some (.int (lo + (i : Int))))) H') ∧ ∀ σ' H', Pv (n - lo).toNat σ' H' → D.nx σ' H') : mForR2 ta j tb D σ H := by
  unfold mForR2
  exact h
theorem ps_forR2 {j : Nat} {x : Str} {a b : Expr} {body : List Stmt} {tb : TS} {p p2 xpos : Pos} (hp : PassesOwn (model X.prog X.w) X.A X.env X.xe) (hc : X.calm = true) (hg : Gl X "range") (hm : X.mg "range" = none) (ha : PA X [a, b] ta) (hgt : PG X (.Name x xpos) (gName j)) (hb : PSs X body tb)
    (hs : starEach [a, b] X.env = [(false, eval a X.env), (false, eval b X.env)] := by rfl) (hs3 : starEach [b] X.env = [(false, eval b X.env)] := by rfl) (hs2 : ∀ y, foldedSetIterable (.Call (.Name "range" p) [a, b] [] p2) X.env y = pure y := by intro _; rfl) :
    PS X (.For (.Name x xpos) (.Call (.Name "range" p) [a, b] [] p2) body [] pos) (mForR2 ta j tb) :=
  ps_weak (ps_for hp hc (pi_range2 hg hm (pa_c ha) hs hs3) hgt hb hs2) fun D σ H q => by
    unfold mForR2 at q
    refine ⟨_, q, fun ws H1 r => ?_⟩
    obtain ⟨lo, n, Pv, rfl, ⟨h1, h2, h3, h4⟩, h0, hs, hd⟩ := r
    have big : (2 : Int) ^ 62 = 4611686018427387904 := by decide
    exact ⟨lo, n, rfl, ⟨by omega, by omega, by omega, by omega⟩, for_range (lo := lo) (n := (n - lo).toNat) Pv h0 (fun i σ' H' hi p => hs i σ' H' hi p) hd⟩
/-- for x in xs -/
@[irreducible] def mForL (K : PySem.W.Frag) (tl : TE) (j : Nat) (tb : TS) : TS := fun D σ H => tl σ H fun x H1 => ∃ (a : Addr) (xs : List V) (Pv : Nat → L2.St → Hp → Prop), x = .ref a ∧ SqL K H1 a xs ∧ Pv 0 σ H1 ∧ (∀ i σ' H', i ≤ xs.length → Pv i σ' H' → SqL K H' a xs) ∧
  (∀ i y σ' H', xs[i]? = some y → Pv i σ' H' → tb { D with nx := Pv (i + 1), ct := Pv (i + 1), bk := D.nx } (σ'.set j (some y)) H') ∧ ∀ σ' H', Pv xs.length σ' H' → D.nx σ' H'
theorem rd_forL {K : PySem.W.Frag} {tl : TE} {j : Nat} {tb : TS} {D : Ends} {σ : L2.St} {H : Hp} (h : tl σ H fun x H1 => ∃ (a : Addr) (xs : List V) (Pv : Nat → L2.St → Hp → Prop), x = .ref a ∧ SqL K H1 a xs ∧ Pv 0 σ H1 ∧ (∀ i σ' H', i ≤ xs.length → Pv i σ' H' → SqL K H' a xs) ∧
  (∀ i y σ' H', xs[i]? = some y → Pv i σ' H' → tb { D with nx := Pv (i + 1), ct := Pv (i + 1), bk := D.nx } (σ'.set j (some y)) H') ∧ ∀ σ' H', Pv xs.length σ' H' → D.nx σ' H') : mForL K tl j tb D σ H := by
  unfold mForL
  exact h
theorem ps_forL {j : Nat} {x : Str} {it : Expr} {body : List Stmt} {tb : TS} {tl : TE} {xpos : Pos} (hp : PassesOwn (model X.prog X.w) X.A X.env X.xe) (hc : X.calm = true) (ha : PE X it tl) (hgt : PG X (.Name x xpos) (gName j)) (hb : PSs X body tb)
    (hs2 : ∀ y, foldedSetIterable it X.env y = pure y := by intro _; rfl) : PS X (.For (.Name x xpos) it body [] pos) (mForL X.K tl j tb) :=
  ps_weak (ps_for hp hc (pi_list (pe_c ha)) hgt hb hs2) fun D σ H q => by
    unfold mForL at q
    refine ⟨_, q, fun x H1 r => ?_⟩
    obtain ⟨a, xs, Pv, rfl, hx, h0, hl, hs, hd⟩ := r
    exact ⟨a, rfl, ⟨xs, hx⟩, for_list (xs := xs) Pv h0 hl (fun i y σ' H' hi p => hs i y σ' H' hi p) hd⟩
/-- for .. in xs, the target of any form -/
@[irreducible] def mForG (K : PySem.W.Frag) (tl : TE) (g : TG) (tb : TS) : TS := fun D σ H => tl σ H fun x H1 => ∃ (a : Addr) (xs : List V) (Pv : Nat → L2.St → Hp → Prop), x = .ref a ∧ SqL K H1 a xs ∧ Pv 0 σ H1 ∧ (∀ i σ' H', i ≤ xs.length → Pv i σ' H' → SqL K H' a xs) ∧
  (∀ i y σ' H', xs[i]? = some y → Pv i σ' H' → g y σ' H' fun σ2 H2 => tb { D with nx := Pv (i + 1), ct := Pv (i + 1), bk := D.nx } σ2 H2) ∧ ∀ σ' H', Pv xs.length σ' H' → D.nx σ' H'
theorem rd_forG {K : PySem.W.Frag} {tl : TE} {g : TG} {tb : TS} {D : Ends} {σ : L2.St} {H : Hp} (h : tl σ H fun x H1 => ∃ (a : Addr) (xs : List V) (Pv : Nat → L2.St → Hp → Prop), x = .ref a ∧ SqL K H1 a xs ∧ Pv 0 σ H1 ∧ (∀ i σ' H', i ≤ xs.length → Pv i σ' H' → SqL K H' a xs) ∧
  (∀ i y σ' H', xs[i]? = some y → Pv i σ' H' → g y σ' H' fun σ2 H2 => tb { D with nx := Pv (i + 1), ct := Pv (i + 1), bk := D.nx } σ2 H2) ∧ ∀ σ' H', Pv xs.length σ' H' → D.nx σ' H') : mForG K tl g tb D σ H := by
  unfold mForG
  exact h
theorem ps_forG {tg it : Expr} {body : List Stmt} {g : TG} {tb : TS} {tl : TE} (hp : PassesOwn (model X.prog X.w) X.A X.env X.xe) (hc : X.calm = true) (ha : PE X it tl) (hgt : PG X tg g) (hb : PSs X body tb)
    (hs2 : ∀ y, foldedSetIterable it X.env y = pure y := by intro _; rfl) : PS X (.For tg it body [] pos) (mForG X.K tl g tb) :=
  ps_weak (ps_for hp hc (pi_list (pe_c ha)) hgt hb hs2) fun D σ H q => by
    unfold mForG at q
    refine ⟨_, q, fun x H1 r => ?_⟩
    obtain ⟨a, xs, Pv, rfl, hx, h0, hl, hs, hd⟩ := r
    exact ⟨a, rfl, ⟨xs, hx⟩, for_list (xs := xs) Pv h0 hl (fun i y σ' H' hi p => hs i y σ' H' hi p) hd⟩
/-- for x, y in zip(xs, ys), lists of one length -/
@[irreducible] def mForZ (K : PySem.W.Frag) (ta : TA) (i1 i2 : Nat) (tb : TS) : TS := fun D σ H => ta σ H fun ws H1 => ∃ (a b : Addr) (xs ys : List V) (Pv : Nat → L2.St → Hp → Prop), ws = [.ref a, .ref b] ∧ SqL K H1 a xs ∧ SqL K H1 b ys ∧ xs.length = ys.length ∧ Pv 0 σ H1 ∧ (∀ i σ' H', Pv i σ' H' → SqL K H' a xs ∧ SqL K H' b ys) ∧
  (∀ i x y σ' H' H'', xs[i]? = some x → ys[i]? = some y → Pv i σ' H' → Same H' H'' → tb { D with nx := Pv (i + 1), ct := Pv (i + 1), bk := D.nx } ((σ'.set i1 (some x)).set i2 (some y)) H'') ∧ ∀ σ' H', Pv xs.length σ' H' → D.nx σ' H'
theorem rd_forZ {K : PySem.W.Frag} {ta : TA} {i1 i2 : Nat} {tb : TS} {D : Ends} {σ : L2.St} {H : Hp} (h : ta σ H fun ws H1 => ∃ (a b : Addr) (xs ys : List V) (Pv : Nat → L2.St → Hp → Prop), ws = [.ref a, .ref b] ∧ SqL K H1 a xs ∧ SqL K H1 b ys ∧ xs.length = ys.length ∧ Pv 0 σ H1 ∧ (∀ i σ' H', Pv i σ' H' → SqL K H' a xs ∧ SqL K H' b ys) ∧
  (∀ i x y σ' H' H'', xs[i]? = some x → ys[i]? = some y → Pv i σ' H' → Same H' H'' → tb { D with nx := Pv (i + 1), ct := Pv (i + 1), bk := D.nx } ((σ'.set i1 (some x)).set i2 (some y)) H'') ∧ ∀ σ' H', Pv xs.length σ' H' → D.nx σ' H') : mForZ K ta i1 i2 tb D σ H := by
  unfold mForZ
  exact h
theorem ps_forZ {e e2 : Expr} {kk : Nat} {p p2 tpos : Pos} {i1 i2 : Nat} {body : List Stmt} {tb : TS} {t1 t2 : Expr} (hp : PassesOwn (model X.prog X.w) X.A X.env X.xe) (hc : X.calm = true) (hg : Gl X "zip") (hm : X.mg "zip" = none) (ha : PA X [e, e2] ta)
    (hgt : PG X (.Tuple [t1, t2] kk tpos) (gTup X.K 2 (gCons (gName i1) (gCons (gName i2) gNil)))) (hb : PSs X body tb)
    (hs : starEach [e, e2] X.env = (false, eval e X.env) :: starEach [e2] X.env := by rfl) (hpl : (backTo p2 (starEach [e2] X.env)).any (·.1) = false := by rfl) (hs2 : ∀ y, foldedSetIterable (.Call (.Name "zip" p) [e, e2] [] p2) X.env y = pure y := by intro _; rfl) :
    PS X (.For (.Tuple [t1, t2] kk tpos) (.Call (.Name "zip" p) [e, e2] [] p2) body [] pos) (mForZ X.K ta i1 i2 tb) :=
  ps_weak (ps_for hp hc (pi_zip hg hm (pa_c ha) hs hpl) hgt hb hs2) fun D σ H q => by
    unfold mForZ at q
    refine ⟨_, q, fun ws H1 r => ?_⟩
    obtain ⟨a, b, xs, ys, Pv, rfl, hx, hy, hl, h0, hq, hs, hd⟩ := r
    refine ⟨a, b, xs, ys, rfl, hx, hy, RZ.for_zipL hl Pv h0 hq (fun i x y T σ' H' h1 h2 p hT => ?_) hd⟩
    exact ⟨T, [x, y], rfl, st_of upd_same, rfl, x, [y], rfl, y, [], rfl, rfl, hs i x y σ' H' _ h1 h2 p (same_upd hT)⟩
end
theorem ite_ei {x y : Int} {A B : Prop} (hc : x = y) (h : A) : if decide (V.int x = V.int y) = true then A else B := ite_t (congrArg V.int hc) h
theorem ite_eif {x y : Int} {A B : Prop} (hc : x ≠ y) (h : B) : if decide (V.int x = V.int y) = true then A else B := ite_f (fun e => hc (V.int.inj e)) h
theorem ite_ni {x y : Int} {A B : Prop} (hc : x = y) (h : B) : if (!decide (V.int x = V.int y)) = true then A else B := ite_nf (congrArg V.int hc) h
theorem ite_nit {x y : Int} {A B : Prop} (hc : x ≠ y) (h : A) : if (!decide (V.int x = V.int y)) = true then A else B := ite_nt (fun e => hc (V.int.inj e)) h
theorem ite_eby {x y : Int} {A B : Prop} (h1 : x = y → A) (h2 : x ≠ y → B) : if decide (V.int x = V.int y) = true then A else B := ite_by (fun e => h1 (V.int.inj e)) (fun n => h2 fun e => n (congrArg V.int e))
theorem ite_enby {x y : Int} {A B : Prop} (h1 : x ≠ y → A) (h2 : x = y → B) : if (!decide (V.int x = V.int y)) = true then A else B := ite_nby (fun n => h1 fun e => n (congrArg V.int e)) (fun e => h2 (V.int.inj e))

/-! ### branches that stop the walk -/
@[irreducible] def Br (b : Bool) (A B : Prop) : Prop := if b = true then A else B
section
variable {b : Bool} {A B : Prop}
theorem Br.un (h : Br b A B) : if b = true then A else B := by
  unfold Br at h
  exact h
theorem br_of (h : if b = true then A else B) : Br b A B := by
  unfold Br
  exact h
theorem br_T (h : A) : Br true A B := br_of (iteT h)
theorem br_F (h : B) : Br false A B := br_of (iteF h)
theorem br_nT (h : A) : Br (!false) A B := br_of (iteT h)
theorem br_nF (h : B) : Br (!true) A B := br_of (iteF h)
theorem br_t {c : Prop} [Decidable c] (hc : c) (h : A) : Br (decide c) A B := br_of (ite_t hc h)
theorem br_f {c : Prop} [Decidable c] (hc : ¬ c) (h : B) : Br (decide c) A B := br_of (ite_f hc h)
theorem br_nt {c : Prop} [Decidable c] (hc : ¬ c) (h : A) : Br (!decide c) A B := br_of (ite_nt hc h)
theorem br_nf {c : Prop} [Decidable c] (hc : c) (h : B) : Br (!decide c) A B := br_of (ite_nf hc h)
theorem br_by {c : Prop} [Decidable c] (h1 : c → A) (h2 : ¬ c → B) : Br (decide c) A B := br_of (ite_by h1 h2)
theorem br_nby {c : Prop} [Decidable c] (h1 : ¬ c → A) (h2 : c → B) : Br (!decide c) A B := br_of (ite_nby h1 h2)
theorem br_ei {x y : Int} (hc : x = y) (h : A) : Br (decide (V.int x = V.int y)) A B := br_of (ite_ei hc h)
theorem br_eif {x y : Int} (hc : x ≠ y) (h : B) : Br (decide (V.int x = V.int y)) A B := br_of (ite_eif hc h)
theorem br_ni {x y : Int} (hc : x = y) (h : B) : Br (!decide (V.int x = V.int y)) A B := br_of (ite_ni hc h)
theorem br_nit {x y : Int} (hc : x ≠ y) (h : A) : Br (!decide (V.int x = V.int y)) A B := br_of (ite_nit hc h)
theorem br_eby {x y : Int} (h1 : x = y → A) (h2 : x ≠ y → B) : Br (decide (V.int x = V.int y)) A B := br_of (ite_eby h1 h2)
theorem br_enby {x y : Int} (h1 : x ≠ y → A) (h2 : x = y → B) : Br (!decide (V.int x = V.int y)) A B := br_of (ite_enby h1 h2)
theorem br_b (h1 : b = true → A) (h2 : b = false → B) : Br b A B := by
  cases b with
  | true => exact br_T (h1 rfl)
  | false => exact br_F (h2 rfl)
end
def mIfS (c : TT) (t u : TS) : TS := fun D σ H => c σ H fun b H1 => Br b (t D σ H1) (u D σ H1)
def mIf (c : TT) (ta tb : TE) : TE := fun σ H Q => c σ H fun b H1 => Br b (ta σ H1 Q) (tb σ H1 Q)
def mAnd (t u : TT) : TT := fun σ H Q => t σ H fun c H1 => Br c (u σ H1 Q) (Q false H1)
def mOr (t u : TT) : TT := fun σ H Q => t σ H fun c H1 => Br c (Q true H1) (u σ H1 Q)
def mAndV (ta tb : TE) : TE := fun σ H Q => ta σ H fun x H1 => ∃ c, x = .bl c ∧ Br c (tb σ H1 Q) (Q (.bl false) H1)
def mOrV (ta tb : TE) : TE := fun σ H Q => ta σ H fun x H1 => ∃ c, x = .bl c ∧ Br c (Q (.bl true) H1) (tb σ H1 Q)
def mChain (r r' : R2) (ta tb tc : TE) : TE := fun σ H Q => ta σ H fun x H1 => tb σ H1 fun y H2 => r x y H2 fun z H3 => ∃ k, z = .bl k ∧ Br k (tc σ H3 fun w' H4 => r' y w' H4 Q) (Q (.bl false) H3)
def mNot (t : TT) : TT := fun σ H Q => t σ H fun c H1 => Q (!c) H1
def cR2 (r : R2) : R2 := fun x y H Q => ∃ R : VK, r x y H R ∧ ∀ v H', R v H' → Q v H'
section
variable {X : Cx} {e a b c : Expr} {ta tb tc : TE} {tt tA tB' : TT} {pos : Pos} {t u : TS} {rest : List Expr}
theorem pw_weak {tt' : TT} (h : PW X e tt) (w : ∀ σ H Q, tt' σ H Q → tt σ H Q) : PW X e tt' := ⟨fun wh pins s σ H Q I q => h.run wh pins s σ H Q I (w σ H Q q)⟩
theorem pt_weak {tt' : TT} (h : PT X e tt) (w : ∀ σ H Q, tt' σ H Q → tt σ H Q) : PT X e tt' := ⟨fun pins s σ H Q I q => h.run pins s σ H Q I (w σ H Q q)⟩
theorem opr_c {f : Value → Value → Sem Value} {r : R2} (h : OpR X f r) : OpR X f (cR2 r) := fun pins s σ H x y v u Q I rx ry ⟨R, h1, h2⟩ => thn (h pins s σ H x y v u R I rx ry h1) fun w s1 ⟨z, H1, I1, rz, q⟩ => ⟨z, H1, I1, rz, h2 _ _ q⟩
theorem ps_ifM {bs us : List Stmt} (hc : PT X c tt) (ha : PSs X bs t) (hb : PSs X us u) : PS X (.If c bs us pos) (mIfS tt t u) := ps_weak (ps_if (pt_c hc) ha hb) fun D σ H q => ⟨_, q, fun b H1 r => r.un⟩
theorem pe_ifM (hc : PT X c tt) (ha : PE X a ta) (hb : PE X b tb) : PE X (.IfExp c a b pos) (mIf tt ta tb) := pe_weak (pe_ifExp (pt_c hc) ha hb) fun σ H Q q => ⟨_, q, fun b H1 r => r.un⟩
theorem pw_andM (ha : PT X a tA) (hb : PW X (.BoolOp .And (b :: rest) pos) tB') : PW X (.BoolOp .And (a :: b :: rest) pos) (mAnd tA tB') := pw_weak (pw_and (pt_c ha) hb) fun σ H Q q => ⟨_, q, fun b H1 r => r.un⟩
theorem pw_orM (ha : PT X a tA) (hb : PW X (.BoolOp .Or (b :: rest) pos) tB') : PW X (.BoolOp .Or (a :: b :: rest) pos) (mOr tA tB') := pw_weak (pw_or (pt_c ha) hb) fun σ H Q q => ⟨_, q, fun b H1 r => r.un⟩
theorem pe_andM (ha : PE X a ta) (hb : PE X (.BoolOp .And (b :: rest) pos) tb) : PE X (.BoolOp .And (a :: b :: rest) pos) (mAndV ta tb) := pe_weak (pe_and (pe_c ha) hb) fun σ H Q q => ⟨_, q, fun v H1 ⟨c, e, r⟩ => ⟨c, e, r.un⟩⟩
theorem pe_orM (ha : PE X a ta) (hb : PE X (.BoolOp .Or (b :: rest) pos) tb) : PE X (.BoolOp .Or (a :: b :: rest) pos) (mOrV ta tb) := pe_weak (pe_or (pe_c ha) hb) fun σ H Q q => ⟨_, q, fun v H1 ⟨c, e, r⟩ => ⟨c, e, r.un⟩⟩
theorem pe_chainM {op op' : CmpOp} {r r' : R2} (ho : OpR X (compareOp op) r) (ho' : OpR X (compareOp op') r') (ha : PE X a ta) (hb : PE X b tb) (hc : PE X c tc) (hm : lastMarks [op, op'] [b, c] = false := by with_unfolding_all rfl) : PE X (.Compare a [op, op'] [b, c] pos) (mChain r r' ta tb tc) :=
  pe_weak (pe_chain (opr_c ho) ho' (pe_c ha) (pe_c hb) hc hm) fun σ H Q q => ⟨_, q, fun x H1 q1 => ⟨_, q1, fun y H2 q2 => ⟨_, q2, fun z H3 ⟨k, e, r⟩ => ⟨k, e, r.un⟩⟩⟩⟩
theorem pt_chainM {op op' : CmpOp} {r r' : R2} (ho : OpR X (compareOp op) r) (ho' : OpR X (compareOp op') r') (ha : PE X a ta) (hb : PE X b tb) (hc : PE X c tc) (hm : lastMarks [op, op'] [b, c] = false := by with_unfolding_all rfl) : PT X (.Compare a [op, op'] [b, c] pos) (tTest (mChain r r' ta tb tc)) :=
  pt_weak (pt_chain (opr_c ho) ho' (pe_c ha) (pe_c hb) hc hm) fun σ H Q q => ⟨_, q, fun x H1 q1 => ⟨_, q1, fun y H2 q2 => ⟨_, q2, fun z H3 ⟨k, e, r⟩ => ⟨k, e, r.un⟩⟩⟩⟩
end
/-! ### the operators, told without a redex -/
def mAdd : R2 := fun x y H Q => ∃ i j, x = .int i ∧ y = .int j ∧ Q (.int (i + j)) H
def mSub : R2 := fun x y H Q => ∃ i j, x = .int i ∧ y = .int j ∧ Q (.int (i - j)) H
def mMul : R2 := fun x y H Q => ∃ i j, x = .int i ∧ y = .int j ∧ CMul i j ∧ Q (.int (i * j)) H
def mMulW : R2 := fun x y H Q => ∃ i j, x = .int i ∧ y = .int j ∧ CMulW i j ∧ Q (.int (i * j)) H
def mDiv : R2 := fun x y H Q => ∃ i j, x = .int i ∧ y = .int j ∧ CDiv i j ∧ Q (.int (i / j)) H
def mDivW : R2 := fun x y H Q => ∃ i j, x = .int i ∧ y = .int j ∧ CDivW i j ∧ Q (.int (i / j)) H
def mMod : R2 := fun x y H Q => ∃ i j, x = .int i ∧ y = .int j ∧ 0 < j ∧ Q (.int (i % j)) H
def mPow : R2 := fun x y H Q => ∃ i j, x = .int i ∧ y = .int j ∧ CPow i j ∧ Q (.int (i ^ j.toNat)) H
def mShl1 : R2 := fun x y H Q => ∃ j, x = .int 1 ∧ y = .int j ∧ (0 ≤ j ∧ j ≤ 1000000) ∧ Q (.int (2 ^ j.toNat)) H
def mShl : R2 := fun x y H Q => ∃ i j, x = .int i ∧ y = .int j ∧ CShl i j ∧ Q (.int (i * 2 ^ j.toNat)) H
def mShr : R2 := fun x y H Q => ∃ i j, x = .int i ∧ y = .int j ∧ 0 ≤ j ∧ Q (.int (i / 2 ^ j.toNat)) H
def mAndI : R2 := fun x y H Q => ∃ i j, x = .int i ∧ y = .int j ∧ Q (.int (Builtin.bitAnd i j)) H
def mXorI : R2 := fun x y H Q => ∃ i j, x = .int i ∧ y = .int j ∧ Q (.int (Builtin.bitXor i j)) H
def mLt : R2 := fun x y H Q => ∃ i j, x = .int i ∧ y = .int j ∧ Q (.bl (decide (i < j))) H
def mLe : R2 := fun x y H Q => ∃ i j, x = .int i ∧ y = .int j ∧ Q (.bl (decide (i ≤ j))) H
def mGt : R2 := fun x y H Q => ∃ i j, x = .int i ∧ y = .int j ∧ Q (.bl (decide (j < i))) H
def mGe : R2 := fun x y H Q => ∃ i j, x = .int i ∧ y = .int j ∧ Q (.bl (decide (j ≤ i))) H
section
variable {X : Cx}
theorem op_addM : OpR X (binaryOp .Add) mAdd := op_add
theorem op_subM : OpR X (binaryOp .Sub) mSub := op_sub
theorem op_mulM : OpR X (binaryOp .Mult) mMul := op_mul
theorem op_mulWM : OpR X (binaryOp .Mult) mMulW := op_mulW
theorem op_fdivM : OpR X (binaryOp .FloorDiv) mDiv := op_fdiv
theorem op_fdivWM : OpR X (binaryOp .FloorDiv) mDivW := op_fdivW
theorem op_modM : OpR X (binaryOp .Mod) mMod := op_mod
theorem op_powM : OpR X (binaryOp .Pow) mPow := op_pow
theorem op_shl1M : OpR X (binaryOp .LShift) mShl1 := fun pins s σ H x y v u Q I rx ry ⟨j, e1, e2, hj, q⟩ => op_shl pins s σ H x y v u Q I rx ry ⟨1, j, e1, e2, ⟨hj.1, hj.2, by decide⟩, by
  show Q (.int (1 * 2 ^ j.toNat)) H
  rw [Int.one_mul]
  exact q⟩
theorem op_shlM : OpR X (binaryOp .LShift) mShl := op_shlW
theorem op_shrM : OpR X (binaryOp .RShift) mShr := op_shr
theorem op_bandM : OpR X (binaryOp .BitAnd) mAndI := op_and
theorem op_bxorM : OpR X (binaryOp .BitXor) mXorI := op_xor
theorem op_ltM : OpR X (compareOp .Lt) mLt := op_lt
theorem op_leM : OpR X (compareOp .LtE) mLe := op_le
theorem op_gtM : OpR X (compareOp .Gt) mGt := op_gt
theorem op_geM : OpR X (compareOp .GtE) mGe := op_ge
end

theorem two_pos (k : Nat) : (0 : Int) < 2 ^ k := Int.pow_pos (by decide)

@[irreducible] def mIsi (K : PySem.W.Frag) : List V → Hp → VK → Prop := rIsi K
theorem call_isiM {X : Cx} : CallR X (.builtin "isinstance") (mIsi X.K) := fun pins s σ H xs us Q I r q => call_isi pins s σ H xs us Q I r (by
  unfold mIsi at q
  exact q)
section
variable {K : PySem.W.Frag} {H : Hp} {Q : VK}
theorem rd_isiIB {i : Int} (h : Q (.bl false) H) : mIsi K [.int i, .ty "bool"] H Q := by
  unfold mIsi
  exact ⟨_, _, _, _, false, rfl, ClsV.ty _, TyX.base (TyOf.int _), by rfl, h⟩
theorem rd_isiII {i : Int} (h : Q (.bl true) H) : mIsi K [.int i, .ty "int"] H Q := by
  unfold mIsi
  exact ⟨_, _, _, _, true, rfl, ClsV.ty _, TyX.base (TyOf.int _), by rfl, h⟩
theorem rd_isiBB {b : Bool} (h : Q (.bl true) H) : mIsi K [.bl b, .ty "bool"] H Q := by
  unfold mIsi
  exact ⟨_, _, _, _, true, rfl, ClsV.ty _, TyX.base (TyOf.bl _), by rfl, h⟩
theorem rd_isiTT {a : Addr} {xs : List V} (e : H a = some (.tup xs)) (h : Q (.bl true) H) : mIsi K [.ref a, .ty "tuple"] H Q := by
  unfold mIsi
  exact ⟨_, _, _, _, true, rfl, ClsV.ty _, TyX.base (TyOf.tup e), by rfl, h⟩
theorem rd_isiLL {a : Addr} {xs : List V} (e : H a = some (.lst xs)) (h : Q (.bl true) H) : mIsi K [.ref a, .ty "list"] H Q := by
  unfold mIsi
  exact ⟨_, _, _, _, true, rfl, ClsV.ty _, TyX.base (TyOf.lst e), by rfl, h⟩
end

/-! ### equal data -/
def Sh (n : Nat) (d : PyData) : Prop := d.canLay0 = true ∧ d.depth ≤ n
def ShA (n : Nat) (ds : List PyData) : Prop := PyData.canLayAll0 ds = true ∧ PyData.depthAll ds ≤ n
theorem sh_int {i : Int} {n : Nat} : Sh n (.int i) := ⟨rfl, Nat.zero_le _⟩
theorem sh_bl {i : Bool} {n : Nat} : Sh n (.bool i) := ⟨rfl, Nat.zero_le _⟩
theorem sh_non {n : Nat} : Sh n .none := ⟨rfl, Nat.zero_le _⟩
theorem sh_str {x : Str} {n : Nat} (h : PyData.canLay0 (.str x) = true) : Sh n (.str x) := ⟨h, Nat.zero_le _⟩
theorem sh_nil {n : Nat} : ShA n [] := ⟨rfl, Nat.zero_le _⟩
theorem sh_cons {n : Nat} {d : PyData} {ds : List PyData} (h : Sh n d) (k : ShA n ds) : ShA n (d :: ds) := by
  refine ⟨?_, ?_⟩
  · show (d.canLay0 && PyData.canLayAll0 ds) = true
    rw [h.1, k.1]
    rfl
  · show max d.depth (PyData.depthAll ds) ≤ n
    have := h.2
    have := k.2
    omega
theorem sh_lst {n : Nat} {ds : List PyData} (h : ShA n ds) : Sh (n + 1) (.list ds) := ⟨h.1, Nat.succ_le_succ h.2⟩
theorem sh_tup {n : Nat} {ds : List PyData} (h : ShA n ds) : Sh (n + 1) (.tuple ds) := ⟨h.1, Nat.succ_le_succ h.2⟩
theorem sh_map {α : Type} {n : Nat} {f : α → PyData} (h : ∀ x, Sh n (f x)) : ∀ l : List α, ShA n (l.map f)
  | [] => sh_nil
  | x :: r => sh_cons (h x) (sh_map h r)
theorem sh_app {n : Nat} : ∀ {ds es : List PyData}, ShA n ds → ShA n es → ShA n (ds ++ es)
  | [], _, _, k => k
  | d :: r, es, h, k => by
    have h1 : (d.canLay0 && PyData.canLayAll0 r) = true := h.1
    have h2 : max d.depth (PyData.depthAll r) ≤ n := h.2
    rw [Bool.and_eq_true] at h1
    exact sh_cons ⟨h1.1, by omega⟩ (sh_app ⟨h1.2, by omega⟩ k)
theorem Sh.shaped {n : Nat} {d : PyData} (h : Sh n d) (hn : n ≤ 64 := by decide) : SeqAt.shaped d = true := by
  unfold SeqAt.shaped
  rw [h.1, decide_eq_true (Nat.le_trans h.2 hn)]
  rfl
theorem sh_ints {n : Nat} (l : List Int) : ShA n (l.map PyData.int) := sh_map (fun _ => sh_int) l
section
variable {K : PySem.W.Frag} {H : Hp} {Q : VK} {x y : V}
theorem dpa_ints : ∀ l : List Int, DpAll K H (l.map V.int) (l.map PyData.int)
  | [] => .nil
  | i :: r => .cons (.int i) (dpa_ints r)
theorem dp_ints {a : Addr} {l : List Int} (h : SqL K H a (l.map V.int)) : Dp K H (.ref a) (.list (l.map PyData.int)) := .lst h (dpa_ints l)
@[irreducible] def mEqD (K : PySem.W.Frag) : R2 := rEqD K
@[irreducible] def mNeD (K : PySem.W.Frag) : R2 := rNeD K
theorem rd_eqS {n : Nat} (d : PyData) (h1 : Dp K H x d) (h2 : Dp K H y d) (hs : Sh n d) (h : Q (.bl true) H) (hn : n ≤ 64 := by decide) : mEqD K x y H Q := by
  unfold mEqD
  exact ⟨d, d, h1, h2, hs.shaped hn, hs.shaped hn, by rw [PySem.SeqAt.eqv_refl d hs.1]; exact h⟩
theorem rd_neS {n : Nat} (d : PyData) (h1 : Dp K H x d) (h2 : Dp K H y d) (hs : Sh n d) (h : Q (.bl false) H) (hn : n ≤ 64 := by decide) : mNeD K x y H Q := by
  unfold mNeD
  exact ⟨d, d, h1, h2, hs.shaped hn, hs.shaped hn, by rw [PySem.SeqAt.eqv_refl d hs.1]; exact h⟩
/-- of any two: the answer is that of the data -/
theorem rd_eqA {n m : Nat} (d e : PyData) (h1 : Dp K H x d) (h2 : Dp K H y e) (hs : Sh n d) (hs2 : Sh m e) (h : Q (.bl (PyData.eqv d e)) H) (hn : n ≤ 64 := by decide) (hm : m ≤ 64 := by decide) : mEqD K x y H Q := by
  unfold mEqD
  exact ⟨d, e, h1, h2, hs.shaped hn, hs2.shaped hm, h⟩
theorem rd_neA {n m : Nat} (d e : PyData) (h1 : Dp K H x d) (h2 : Dp K H y e) (hs : Sh n d) (hs2 : Sh m e) (h : Q (.bl (!PyData.eqv d e)) H) (hn : n ≤ 64 := by decide) (hm : m ≤ 64 := by decide) : mNeD K x y H Q := by
  unfold mNeD
  exact ⟨d, e, h1, h2, hs.shaped hn, hs2.shaped hm, h⟩
end
section
variable {X : Cx}
theorem op_eqDM (hu : X.A.units + 64 < cLine) : OpR X (compareOp .Eq) (mEqD X.K) := fun pins s σ H x y v u Q I rx ry q => op_eqD hu pins s σ H x y v u Q I rx ry (by
  unfold mEqD at q
  exact q)
theorem op_neDM (hu : X.A.units + 64 < cLine) : OpR X (compareOp .NotEq) (mNeD X.K) := fun pins s σ H x y v u Q I rx ry q => op_neD hu pins s σ H x y v u Q I rx ry (by
  unfold mNeD at q
  exact q)
end
/-! ### one-step readings that know their heap -/
@[irreducible] def mIxL (K : PySem.W.Frag) : R2 := rIxL K
theorem ix_listM {X : Cx} : IxR X (mIxL X.K) := fun value slice pins s σ H x y v u Q I rx ry q e => ix_list value slice pins s σ H x y v u Q I rx ry (by
  unfold mIxL at q
  exact q) e
@[irreducible] def mIxT (K : PySem.W.Frag) : R2 := rIxT K
theorem ix_tupM {X : Cx} : IxR X (mIxT X.K) := fun value slice pins s σ H x y v u Q I rx ry q e => ix_tup value slice pins s σ H x y v u Q I rx ry (by
  unfold mIxT at q
  exact q) e
section
variable {K : PySem.W.Frag} {H : Hp} {Q : VK} {a : Addr} {xs : List V} {k : Int} {v : V}
theorem rd_ixL (h : SqL K H a xs) (ha : atI xs k = some v) (q : Q v H) : mIxL K (.ref a) (.int k) H Q := by
  unfold mIxL
  exact ⟨a, xs, k, v, rfl, rfl, h, ha, q⟩
theorem rd_ixT (h : SqT K H a xs) (ha : atI xs k = some v) (q : Q v H) : mIxT K (.ref a) (.int k) H Q := by
  unfold mIxT
  exact ⟨a, xs, k, v, rfl, rfl, h, ha, q⟩
theorem rd_ixI {ns : List Int} (h : SqL K H a (ns.map V.int)) (h0 : 0 ≤ k) (h1 : k < (ns.length : Int)) (q : Q (.int (ns.getD k.toNat 0)) H) : mIxL K (.ref a) (.int k) H Q := rd_ixL h (at_int h0 h1) q
end
@[irreducible] def mLen (K : PySem.W.Frag) : List V → Hp → VK → Prop := fun xs H Q => ∃ p ys, xs = [.ref p] ∧ (SqL K H p ys ∨ SqT K H p ys) ∧ Q (.int ys.length) H
theorem call_lenM {X : Cx} : CallR X (.builtin "len") (mLen X.K) := fun pins s σ H xs us Q I r q => call_len_seq pins s σ H xs us Q I r (by
  unfold mLen at q
  exact q)
theorem rd_len {K : PySem.W.Frag} {H : Hp} {Q : VK} {a : Addr} {xs : List V} (h : SqL K H a xs) (q : Q (.int xs.length) H) : mLen K [.ref a] H Q := by
  unfold mLen
  exact ⟨a, xs, rfl, .inl h, q⟩
theorem rd_lenI {K : PySem.W.Frag} {H : Hp} {Q : VK} {a : Addr} {ns : List Int} (h : SqL K H a (ns.map V.int)) (q : Q (.int ns.length) H) : mLen K [.ref a] H Q := rd_len h (by rw [List.length_map]; exact q)
theorem rd_lenT {K : PySem.W.Frag} {H : Hp} {Q : VK} {a : Addr} {xs : List V} (h : SqT K H a xs) (q : Q (.int xs.length) H) : mLen K [.ref a] H Q := by
  unfold mLen
  exact ⟨a, xs, rfl, .inr h, q⟩
/-- xs.append(e) -/
@[irreducible] def mApp (x y : V) (H : Hp) (Q : VK) : Prop := ∃ l xs, x = .ref l ∧ H l = some (.lst xs) ∧ xs.length < 1000000 ∧ Q .non (upd H l (.lst (xs ++ [y])))
def mAppE (to te : TE) : TE := fun σ H Q => to σ H fun x H1 => ∃ l xs, x = .ref l ∧ H1 l = some (.lst xs) ∧ te σ H1 fun y H2 => mApp x y H2 Q
theorem rd_app {l : Addr} {xs : List V} {y : V} {H : Hp} {Q : VK} (h : H l = some (.lst xs)) (hz : xs.length < 1000000) (q : Q .non (upd H l (.lst (xs ++ [y])))) : mApp (.ref l) y H Q := by
  unfold mApp
  exact ⟨l, xs, rfl, h, hz, q⟩
theorem pe_app {X : Cx} {o e : Expr} {to te : TE} {apos cpos : Pos} (ho : PE X o to) (he : PE X e te) (hbase : attributeBase o "append" X.env (eval o X.env) = eval o X.env := by rfl)
    (hfew : ((backTo cpos (starEach [e] X.env)).all (fun x => !x.1) && (backToKw cpos (keywordEach [] X.env)).all (fun x => x.1.isSome)
      && decide ([e].length + ([] : List Keyword).length + (if ([] : List Keyword).isEmpty then 0 else 1) < 30)) = true := by rfl)
    (hline : (apos.endLine == cpos.line) = true := by rfl) (hs : starEach [e] X.env = (false, eval e X.env) :: starEach [] X.env := by rfl) (hplain : (backTo cpos (starEach [] X.env)).any (·.1) = false := by rfl) :
    PE X (.Call (.Attribute o "append" apos) [e] [] cpos) (mAppE to te) :=
  pe_weak (pe_bm PySem.F.plainAttrs_list PySem.F.slot_list_append PySem.F.type_list_append mt_append (pe_c ho) (pa_cons (pe_c he) pa_nil hs) hbase hfew hline hs hplain) fun σ H Q q => by
    refine ⟨_, q, fun x H1 r => ?_⟩
    obtain ⟨l, xs, rfl, h, r⟩ := r
    refine ⟨Or.inl ⟨rfl, _, SqL.of h⟩, _, r, fun y H2 r2 => ?_⟩
    unfold mApp at r2
    obtain ⟨l2, ys, e2, h2, hz, q2⟩ := r2
    exact ⟨l2, ys, y, e2, rfl, h2, szl hz, q2⟩
/-- o[i] = e, o a list -/
@[irreducible] def mSetL : V → V → V → Hp → (Hp → Prop) → Prop := rSetL
theorem set_listM {X : Cx} : PSet X mSetL := fun pins s σ H o i v uo ui uv Q I ro ri rv q => set_list pins s σ H o i v uo ui uv Q I ro ri rv (by
  unfold mSetL at q
  exact q)
theorem rd_setL {l : Addr} {xs : List V} {k : Int} {y : V} {H : Hp} {Q : Hp → Prop} (h : H l = some (.lst xs)) (h0 : 0 ≤ k) (h1 : k < (xs.length : Int)) (q : Q (upd H l (.lst (xs.set k.toNat y)))) : mSetL (.ref l) (.int k) y H Q := by
  unfold mSetL
  refine ⟨l, xs, k, k.toNat, rfl, rfl, h, ?_, q⟩
  unfold ixN
  first
    | (rw [if_pos h0, if_pos (by omega)]; done)
    | (rw [if_neg (by omega), if_pos (by omega)]; done)
    | simp [show ¬ k < 0 by omega, h0, h1]
/-- what a loop keeps of its own list: all else as it was -/
def But (p : Addr) (H H' : Hp) : Prop := ∀ b o, b ≠ p → H b = some o → H' b = some o

@[irreducible] def mSum (K : PySem.W.Frag) : List V → Hp → VK → Prop := rSum K
theorem call_sumM {X : Cx} (hc : X.calm = true) : CallR X (.builtin "sum") (mSum X.K) := fun pins s σ H xs us Q I r q => cr_sum hc pins s σ H xs us Q I r (by
  unfold mSum at q
  exact q)
theorem rd_sum {K : PySem.W.Frag} {H : Hp} {Q : VK} {a : Addr} {ns : List Int} (h : SqL K H a (ns.map V.int)) (q : Q (.int ns.sum) H) : mSum K [.ref a] H Q := by
  unfold mSum
  exact ⟨a, ns, rfl, h, q⟩

/-- isinstance(e, C), e the error that the suite holds, whatever its class -/
def mIsE (K : PySem.W.Frag) (cls : Value) (d : Option Addr) (a : Addr) : List V → Hp → VK → Prop := fun xs H Q => ∃ (D C : Addr) (b : Bool), xs = [.ref a, .ref C] ∧ cls = .ref D ∧ d = none ∧ ExcC K D ∧ PySem.W.kitOne K (.ref D) (.ref C) = some b ∧ Q (.bl b) H
theorem call_isEM {X : Cx} {a : Addr} {oe : Obj} {cls : Value} {d : Option Addr} {pn : List (Addr × Obj)} (hz : Zc cls d oe) (hf : ∃ vs, oe.data = .fields vs) : CallR (X.suite a ((a, oe) :: pn)) (.builtin "isinstance") (mIsE X.K cls d a) := by
  intro pins s σ H xs us Q I r h
  obtain ⟨D, C, b, rfl, rfl, rfl, hD, hk, q⟩ := h
  exact call_isE hD hz hf pins s σ H [.ref a, .ref C] us Q I r ⟨.ref C, .ref C, b, rfl, fun u hu => hu, hk, q⟩
theorem kit_same {K : PySem.W.Frag} {D : Addr} : PySem.W.kitOne K (.ref D) (.ref D) = some true := by
  unfold PySem.W.kitOne
  rw [if_pos (by simp)]

/-! ### constants, extend, repetition, min of three -/
theorem pe_gint {X : Cx} {x : Str} {n : Int} {pos : Pos} (hg : Gl X x) (hm : ∃ t, X.mg x = some (.int n t)) (hd : (x == ("__debug__" : Str)) = false := by decide) : PE X (.Name x pos) (tC (.int n)) := by
  obtain ⟨t, hm⟩ := hm
  exact pe_glob hg hm ⟨t, rfl⟩ hd
@[irreducible] def mExt (x y : V) (H : Hp) (Q : VK) : Prop := ∃ l b xs zs, x = .ref l ∧ y = .ref b ∧ H l = some (.lst xs) ∧ H b = some (.lst zs) ∧ xs.length + zs.length ≤ 1000000 ∧ Q .non (upd H l (.lst (xs ++ zs)))
def mExtE (to te : TE) : TE := fun σ H Q => to σ H fun x H1 => ∃ l xs, x = .ref l ∧ H1 l = some (.lst xs) ∧ te σ H1 fun y H2 => mExt x y H2 Q
theorem rd_ext {l b : Addr} {xs zs : List V} {H : Hp} {Q : VK} (h : H l = some (.lst xs)) (hb : H b = some (.lst zs)) (hz : xs.length + zs.length ≤ 1000000) (q : Q .non (upd H l (.lst (xs ++ zs)))) : mExt (.ref l) (.ref b) H Q := by
  unfold mExt
  exact ⟨l, b, xs, zs, rfl, rfl, h, hb, hz, q⟩
theorem pe_ext {X : Cx} {o e : Expr} {to te : TE} {apos cpos : Pos} (ho : PE X o to) (he : PE X e te) (hbase : attributeBase o "extend" X.env (eval o X.env) = eval o X.env := by rfl)
    (hfew : ((backTo cpos (starEach [e] X.env)).all (fun x => !x.1) && (backToKw cpos (keywordEach [] X.env)).all (fun x => x.1.isSome)
      && decide ([e].length + ([] : List Keyword).length + (if ([] : List Keyword).isEmpty then 0 else 1) < 30)) = true := by rfl)
    (hline : (apos.endLine == cpos.line) = true := by rfl) (hs : starEach [e] X.env = (false, eval e X.env) :: starEach [] X.env := by rfl) (hplain : (backTo cpos (starEach [] X.env)).any (·.1) = false := by rfl) :
    PE X (.Call (.Attribute o "extend" apos) [e] [] cpos) (mExtE to te) :=
  pe_weak (pe_bm PySem.F.plainAttrs_list PySem.F.slot_list_extend PySem.F.type_list_extend mt_extend (pe_c ho) (pa_cons (pe_c he) pa_nil hs) hbase hfew hline hs hplain) fun σ H Q q => by
    refine ⟨_, q, fun x H1 r => ?_⟩
    obtain ⟨l, xs, rfl, h, r⟩ := r
    refine ⟨Or.inl ⟨rfl, _, SqL.of h⟩, _, r, fun y H2 r2 => ?_⟩
    unfold mExt at r2
    obtain ⟨l2, b2, ys, zs, e2, rfl, h2, h3, hz, q2⟩ := r2
    exact ⟨l2, b2, ys, zs, e2, rfl, h2, h3, sz hz, q2⟩
theorem op_repM {X : Cx} : OpR X (binaryOp .Mult) mRep := fun pins s σ H x y v u Q I rx ry q => op_rep pins s σ H x y v u Q I rx ry (by
  unfold mRep at q
  obtain ⟨l, k, xs, e1, e2, h1, h0, hk, hz, h⟩ := q
  have big : (2 : Int) ^ 63 = 9223372036854775808 := by decide
  exact ⟨l, k, xs, e1, e2, h1, by omega, by omega, sz hz, h.go⟩)
theorem rd_rep {l : Addr} {k : Int} {xs : List V} {H : Hp} {Q : VK} (h1 : H l = some (.lst xs)) (h0 : 0 ≤ k) (hk : k ≤ 100000) (hz : xs.length * k.toNat ≤ 1000000) (h : NewO (.lst (List.replicate k.toNat xs).flatten) H Q) : mRep (.ref l) (.int k) H Q := by
  unfold mRep
  exact ⟨l, k, xs, rfl, rfl, h1, h0, hk, hz, h⟩
def mMin3 : List V → Hp → VK → Prop := fun vs H Q => ∃ i j k, vs = [.int i, .int j, .int k] ∧ Q (.int (min (min i j) k)) H
theorem call_min3M {X : Cx} (hc : X.calm = true) : CallR X (.builtin "min") mMin3 := fun pins s σ H xs us Q I r ⟨i, j, k, e, q⟩ => call_min3Nu hc pins s σ H xs us Q I r ⟨_, _, _, _, e, by
  show (Option.map (fun c => if c = true then V.int j else V.int i) (some (decide (j < i)))).bind _ = _
  by_cases h : j < i
  · rw [decide_eq_true h]
    show Option.map (fun c => if c = true then V.int k else V.int j) (some (decide (k < j))) = some (.int (min (min i j) k))
    by_cases h2 : k < j
    · rw [decide_eq_true h2]
      show some (V.int k) = _
      congr 2
      omega
    · rw [decide_eq_false h2]
      show some (V.int j) = _
      congr 2
      omega
  · rw [decide_eq_false h]
    show Option.map (fun c => if c = true then V.int k else V.int i) (some (decide (k < i))) = some (.int (min (min i j) k))
    by_cases h2 : k < i
    · rw [decide_eq_true h2]
      show some (V.int k) = _
      congr 2
      omega
    · rw [decide_eq_false h2]
      show some (V.int i) = _
      congr 2
      omega, q⟩
/-! ### comprehensions whose elements are new tuples -/
def EltT (te : TE) (σ : L2.St) (H : Hp) (xs : List V) : Prop := ∀ H', Same H H' → te σ H' fun v H'' => Same H' H'' ∧ ∃ p, v = .ref p ∧ H'' p = some (.tup xs)
def NewTs (n : Nat) (f : Nat → List V) (H : Hp) (Q : VK) : Prop := ∀ (D : Addr) (H' : Hp) (ps : List Addr), H D = none → Same H H' → H' D = some (.lst (ps.map V.ref)) → ps.length = n → (∀ i p, ps[i]? = some p → H' p = some (.tup (f i))) → Q (.ref D) H'
@[irreducible] def mLcTR3 (ta : TA) (j : Nat) (te : TE) (vs : List Nat) : TE := fun σ H Q => ta σ H fun ws H1 => ∃ (lo hi c : Int) (n : Nat) (f : Nat → List V), ws = [.int lo, .int hi, .int c] ∧ RgC lo hi c n ∧ n ≤ 1000 ∧ (∀ i, i < n → EltT te ((wipe σ vs).set j (some (.int (lo + (i : Nat) * c)))) H1 (f i)) ∧ NewTs n f H1 Q
theorem rd_lcTR3 {ta : TA} {j : Nat} {te : TE} {vs : List Nat} {σ : L2.St} {H : Hp} {Q : VK} (h : ta σ H fun ws H1 => ∃ (lo hi c : Int) (n : Nat) (f : Nat → List V), ws = [.int lo, .int hi, .int c] ∧ RgC lo hi c n ∧ n ≤ 1000 ∧ (∀ i, i < n → EltT te ((wipe σ vs).set j (some (.int (lo + (i : Nat) * c)))) H1 (f i)) ∧ NewTs n f H1 Q) : mLcTR3 ta j te vs σ H Q := by
  unfold mLcTR3
  exact h
@[irreducible] def mLcTL (K : PySem.W.Frag) (tl : TE) (j : Nat) (te : TE) (vs : List Nat) : TE := fun σ H Q => tl σ H fun x H1 => ∃ (a : Addr) (xs : List V) (f : Nat → List V), x = .ref a ∧ SqL K H1 a xs ∧ xs.length ≤ 1000 ∧ (∀ i y, xs[i]? = some y → EltT te ((wipe σ vs).set j (some y)) H1 (f i)) ∧ NewTs xs.length f H1 Q
theorem rd_lcTL {K : PySem.W.Frag} {tl : TE} {j : Nat} {te : TE} {vs : List Nat} {σ : L2.St} {H : Hp} {Q : VK} (h : tl σ H fun x H1 => ∃ (a : Addr) (xs : List V) (f : Nat → List V), x = .ref a ∧ SqL K H1 a xs ∧ xs.length ≤ 1000 ∧ (∀ i y, xs[i]? = some y → EltT te ((wipe σ vs).set j (some y)) H1 (f i)) ∧ NewTs xs.length f H1 Q) : mLcTL K tl j te vs σ H Q := by
  unfold mLcTL
  exact h
def TsW (H1 : Hp) (D : Addr) (f : Nat → List V) (i : Nat) (H' : Hp) : Prop := Same H1 H' ∧ ∃ ps : List Addr, H' D = some (.lst (ps.map V.ref)) ∧ ps.length = i ∧ ∀ k p, ps[k]? = some p → H' p = some (.tup (f k))
theorem TsW.next {H1 H' H'' : Hp} {D p : Addr} {f : Nat → List V} {i : Nat} (hD : H1 D = none) (w : TsW H1 D f i H') (s : Same H' H'') (hp : H'' p = some (.tup (f i))) : ∃ acc, H'' D = some (.lst acc) ∧ acc.length = i ∧ TsW H1 D f (i + 1) (upd H'' D (.lst (acc ++ [.ref p]))) := by
  obtain ⟨sm, ps, hd, hl, ht⟩ := w
  have hd2 := s _ _ hd
  have ne : ∀ {q : Addr} {xs : List V}, H'' q = some (.tup xs) → q ≠ D := fun {q xs} h e => by
    rw [e, hd2] at h
    cases h
  refine ⟨_, hd2, by rw [List.length_map, hl], same_mut (sm.trans s) hD, ps ++ [p], ?_, by rw [List.length_append, List.length_singleton, hl], fun k q hk => ?_⟩
  · rw [upd_same, List.map_append]
    rfl
  · by_cases h : k < ps.length
    · rw [List.getElem?_append_left h] at hk
      have := s _ _ (ht k q hk)
      rw [upd_ne (ne this)]
      exact this
    · rw [List.getElem?_append_right (by omega)] at hk
      have h0 : k - ps.length = 0 := by
        cases e : k - ps.length with
        | zero => rfl
        | succ m => rw [e] at hk; simp at hk
      rw [h0] at hk
      have e : p = q := Option.some.inj hk
      have ek : k = i := by omega
      subst e
      rw [ek, upd_ne (ne hp)]
      exact hp
section
variable {X : Cx} {te : TE} {ta : TA} {pos : Pos}
theorem lcTR3_of {ta : TA} {j : Nat} {te : TE} {vs : List Nat} {σ : L2.St} {H : Hp} {Q : VK} (hj : vs = [j]) (q : mLcTR3 ta j te vs σ H Q) : tLc (iRng3 (cTA ta)) (gName j) tYes (cTE te) vs σ H Q := by
  unfold mLcTR3 at q
  refine ⟨_, q, fun ws H1 r => ?_⟩
  obtain ⟨lo, hi, c, n, f, rfl, hr, hn, he, hq⟩ := r
  refine ⟨lo, hi, c, n, rfl, hr, fun D hD => ?_⟩
  refine ⟨fun i m H' => m = n - i ∧ i ≤ n ∧ TsW H1 D f i H', ⟨n, rfl, Nat.zero_le _, same_upd hD, [], upd_same, rfl, fun k p h => by cases h⟩, ?_⟩
  rintro i m H' ⟨rfl, hi, w⟩
  by_cases hlt : i < n
  · refine .inr ⟨hlt, TsW H1 D f (i + 1), fun H2 w2 => ⟨n - (i + 1), by omega, rfl, hlt, w2⟩, fun x H2 y => ?_⟩
    obtain ⟨e, y⟩ := y
    subst e
    subst y
    refine ⟨wipe_set hj, _, he i hlt _ w.1, fun v H'' r => ?_⟩
    obtain ⟨s, p, rfl, hp⟩ := r
    obtain ⟨acc, h1, h2, h3⟩ := w.next hD s hp
    exact ⟨acc, h1, szl (by omega), h3⟩
  · have e : i = n := by omega
    subst e
    obtain ⟨sm, ps, hd, hl, ht⟩ := w
    exact .inl ⟨Nat.le_refl _, hq D H' ps hD sm hd hl ht⟩
theorem lcTL_of {K : PySem.W.Frag} {tl : TE} {j : Nat} {te : TE} {vs : List Nat} {σ : L2.St} {H : Hp} {Q : VK} (hj : vs = [j]) (q : mLcTL K tl j te vs σ H Q) : tLc (iList K (cTE tl)) (gName j) tYes (cTE te) vs σ H Q := by
  unfold mLcTL at q
  refine ⟨_, q, fun x H1 r => ?_⟩
  obtain ⟨a, xs, f, rfl, hx, hn, he, hq⟩ := r
  refine ⟨a, rfl, ⟨xs, hx⟩, fun D hD => ?_⟩
  refine lc_list (xs := xs) (fun i H' => TsW H1 D f i H') ⟨same_upd hD, [], upd_same, rfl, fun k p h => by cases h⟩ (fun i H' _ w => w.1.seq hx) (fun i y H' hi w => ⟨wipe_set hj, _, he i y hi H' w.1, fun v H'' r => ?_⟩) fun H' w => ?_
  · obtain ⟨s, p, rfl, hp⟩ := r
    obtain ⟨acc, h1, h2, h3⟩ := w.next hD s hp
    have hl : i < xs.length := (List.getElem?_eq_some_iff.mp hi).1
    exact ⟨acc, h1, szl (by omega), h3⟩
  · obtain ⟨sm, ps, hd, hl, ht⟩ := w
    exact hq D H' ps hD sm hd hl ht
theorem pe_lcTL {elt it : Expr} {scope : Scope} {j : Nat} {x : Str} {xpos : Pos} (hc : X.calm = true) (hN : X.N.Nodup) {tl : TE} (ha : PE X it tl) (ok : BlkOk X.N X.env.scope scope [(x, j)])
    (hgt : ∀ (s : Shared) (H : Hp) (C : Addr) (cl : List (Str × Addr)) (fp : List Addr), PG (X.blk s H scope (compEnvC scope cl C X.env) fp) (.Name x xpos) (gName j))
    (he : ∀ (s : Shared) (H : Hp) (C : Addr) (cl : List (Str × Addr)) (fp : List Addr), PE (X.blk s H scope (compEnvC scope cl C X.env) fp) elt te) (hs2 : ∀ y, foldedSetIterable it X.env y = pure y := by intro _; rfl) :
    PE X (.ListComp elt [⟨.Name x xpos, it, [], 0⟩] scope pos) (mLcTL X.K tl j te [j]) :=
  pe_weak (pe_lc hc hN (pi_list (pe_c ha)) ok hgt (fun _ _ _ _ _ => pts_nil) (fun s H C cl fp => pe_c (he s H C cl fp)) hs2) fun _ _ _ q => lcTL_of rfl q
theorem ps_setLcTL {i : Nat} {y : Str} {py spos : Pos} {elt it : Expr} {scope : Scope} {j : Nat} {x : Str} {xpos : Pos} {tl : TE} (hc : X.calm = true) (hN : X.N.Nodup) (hy : X.N[i]? = some y) (hyl : X.env.scope.names.lookup y = some .local)
    (hsw : swapsWith (.ListComp elt [⟨.Name x xpos, it, [], 0⟩] scope pos) (some (.Name y py)) spos.line X.env = pure true) (ha : PE X it tl) (ok : BlkOk X.N X.env.scope scope [(x, j)])
    (hgt : ∀ (s : Shared) (H : Hp) (C : Addr) (cl : List (Str × Addr)) (fp : List Addr), PG (X.blk s H scope (compEnvC scope cl C X.env) fp) (.Name x xpos) (gName j))
    (he : ∀ (s : Shared) (H : Hp) (C : Addr) (cl : List (Str × Addr)) (fp : List Addr), PE (X.blk s H scope (compEnvC scope cl C X.env) fp) elt te) (hs2 : ∀ y, foldedSetIterable it X.env y = pure y := by intro _; rfl) :
    PS X (.Assign [.Name y py] (.ListComp elt [⟨.Name x xpos, it, [], 0⟩] scope pos) spos) (tAsg (mLcTL X.K tl j te [j]) (gName i)) :=
  ps_weak (ps_setLc hc hN hy hyl hsw (pi_list (pe_c ha)) ok hgt (fun _ _ _ _ _ => pts_nil) (fun s H C cl fp => pe_c (he s H C cl fp)) hs2) fun _ _ _ q => lcTL_of rfl q
theorem ps_setLcTR3 {i : Nat} {y : Str} {py spos : Pos} {elt : Expr} {scope : Scope} {j : Nat} {x : Str} {a b c : Expr} {p p2 xpos : Pos} (hc : X.calm = true) (hN : X.N.Nodup) (hy : X.N[i]? = some y) (hyl : X.env.scope.names.lookup y = some .local)
    (hsw : swapsWith (.ListComp elt [⟨.Name x xpos, .Call (.Name "range" p) [a, b, c] [] p2, [], 0⟩] scope pos) (some (.Name y py)) spos.line X.env = pure true) (hg : Gl X "range") (hm : X.mg "range" = none) (ha : PA X [a, b, c] ta) (ok : BlkOk X.N X.env.scope scope [(x, j)])
    (hgt : ∀ (s : Shared) (H : Hp) (C : Addr) (cl : List (Str × Addr)) (fp : List Addr), PG (X.blk s H scope (compEnvC scope cl C X.env) fp) (.Name x xpos) (gName j))
    (he : ∀ (s : Shared) (H : Hp) (C : Addr) (cl : List (Str × Addr)) (fp : List Addr), PE (X.blk s H scope (compEnvC scope cl C X.env) fp) elt te)
    (hs : starEach [a, b, c] X.env = (false, eval a X.env) :: starEach [b, c] X.env := by rfl) (hpl : (backTo p2 (starEach [b, c] X.env)).any (·.1) = false := by rfl) (hs2 : ∀ y, foldedSetIterable (.Call (.Name "range" p) [a, b, c] [] p2) X.env y = pure y := by intro _; rfl) :
    PS X (.Assign [.Name y py] (.ListComp elt [⟨.Name x xpos, .Call (.Name "range" p) [a, b, c] [] p2, [], 0⟩] scope pos) spos) (tAsg (mLcTR3 ta j te [j]) (gName i)) :=
  ps_weak (ps_setLc hc hN hy hyl hsw (pi_range3 hg hm (pa_c ha) hs hpl) ok hgt (fun _ _ _ _ _ => pts_nil) (fun s H C cl fp => pe_c (he s H C cl fp)) hs2) fun _ _ _ q => lcTR3_of rfl q
end

/-! ### the same rules within a comprehension: the written part by its own name -/
section
variable {X : Cx} {K : PySem.W.Frag}
theorem ix_listK (h : X.K = K) : IxR X (mIxL K) := h ▸ ix_listM
theorem ix_tupK (h : X.K = K) : IxR X (mIxT K) := h ▸ ix_tupM
theorem call_lenK (h : X.K = K) : CallR X (.builtin "len") (mLen K) := h ▸ call_lenM
end

theorem br_nonI {x : Int} {A B : Prop} (h : B) : Br (decide (V.int x = V.non)) A B := br_f (fun e => by cases e) h
theorem br_nonR {x : Addr} {A B : Prop} (h : B) : Br (decide (V.ref x = V.non)) A B := br_f (fun e => by cases e) h
theorem br_nonN {A B : Prop} (h : A) : Br (decide (V.non = V.non)) A B := br_t rfl h
theorem dec_nonI {x : Int} : decide (V.int x = V.non) = false := decide_eq_false fun e => by cases e
theorem dec_nonR {x : Addr} : decide (V.ref x = V.non) = false := decide_eq_false fun e => by cases e

/-! ### if t: x = e, told once by what x holds behind it -/
@[irreducible] def IfSet (b : Bool) (te : TE) (i : Nat) (D : Ends) (σ : L2.St) (H : Hp) : Prop := ∃ P : V → Hp → Prop, (b = true → te σ H P) ∧ (b = false → ∃ v, σ.set i (some v) = σ ∧ P v H) ∧ ∀ v H', P v H' → D.nx (σ.set i (some v)) H'
theorem rd_ifSet {b : Bool} {te : TE} {i : Nat} {D : Ends} {σ : L2.St} {H : Hp} (P : V → Hp → Prop) (h1 : b = true → te σ H P) (h2 : b = false → ∃ v, σ.set i (some v) = σ ∧ P v H) (k : ∀ v H', P v H' → D.nx (σ.set i (some v)) H') : IfSet b te i D σ H := by
  unfold IfSet
  exact ⟨P, h1, h2, k⟩
def mIfSet (tt : TT) (te : TE) (i : Nat) : TS := fun D σ H => tt σ H fun b H1 => IfSet b te i D σ H1
theorem ps_ifSet {X : Cx} {i : Nat} {x : Str} {c e : Expr} {tt : TT} {te : TE} {pos pos2 pos' : Pos} (hc : PT X c tt) (hN : X.N.Nodup) (hi : X.N[i]? = some x) (hx : Loc X.env.scope x) (he : PE X e te) (hs : swapsWith e (some (.Name x pos')) pos2.line X.env = pure false := by rfl)
    (hf : X.fn x = true ∨ X.env.scope.names.lookup x = some .local := by first | exact .inl rfl | exact .inr rfl | assumption) : PS X (.If c [.Assign [.Name x pos'] e pos2] [] pos) (mIfSet tt te i) :=
  ps_weak (ps_if (pt_c hc) (pss_one (ps_set (i := i) hN hi hx (pe_c he) hs hf)) pss_nil) fun D σ H q => ⟨_, q, fun b H1 r => by
    unfold IfSet at r
    obtain ⟨P, h1, h2, k⟩ := r
    cases b with
    | true => exact iteT ⟨P, h1 rfl, fun v H' p => k v H' p⟩
    | false =>
      obtain ⟨v, e, p⟩ := h2 rfl
      refine iteF ?_
      have := k v H1 p
      rw [e] at this
      exact this⟩
section
variable {X : Cx}
/-- what stands in a list at a whole number, as the store in place reads it -/
theorem get_listM : PGet X (mIxL X.K) := fun pins s σ H x y vx vy Q inv rx ry h => by
  unfold mIxL at h
  obtain ⟨p, xs, k, z, rfl, rfl, hsq, hat, q⟩ := h
  cases rx
  obtain ⟨tk, rfl⟩ := ry
  obtain ⟨its, rel, plain, _⟩ := inv.list hsq
  obtain ⟨j, hj, hget, hn, hlo, hhi⟩ := atI_get hat
  obtain ⟨wv, hwv, relz⟩ := rel.get hget
  have hlen := rel.length
  have h63 := line63
  by_cases hk : 0 ≤ k
  · have ej : k.toNat = j := by
      rw [seqIndex_of hk hhi] at hj
      exact Option.some.inj hj
    exact wpAny_getItem_list plain.isList hk (by omega) (by rw [ej]; simpa using hwv) ⟨z, H, inv, relz, q⟩
  · have ej : (k + (its.toArray.size : Int)).toNat = j := by
      rw [seqIndex_neg (by omega) hlo] at hj
      rw [List.size_toArray, ← hlen]
      exact Option.some.inj hj
    exact wpAny_getItem_list_neg plain.isList (by omega) (by rw [List.size_toArray]; omega) (by omega) (by rw [ej]; simpa using hwv) ⟨z, H, inv, relz, q⟩
end
section
variable {X : Cx} {te : TE} {ta : TA} {pos : Pos}
/-- [(…) for x in range(n)] -/
@[irreducible] def mLcTR1 (ta : TA) (j : Nat) (te : TE) (vs : List Nat) : TE := fun σ H Q => ta σ H fun ws H1 => ∃ (n : Int) (f : Nat → List V), ws = [.int n] ∧ (-100000 ≤ n ∧ n ≤ 100000) ∧ (∀ i, i < n.toNat → EltT te ((wipe σ vs).set j (some (.int (i : Nat)))) H1 (f i)) ∧ NewTs n.toNat f H1 Q
theorem rd_lcTR1 {ta : TA} {j : Nat} {te : TE} {vs : List Nat} {σ : L2.St} {H : Hp} {Q : VK} (h : ta σ H fun ws H1 => ∃ (n : Int) (f : Nat → List V), ws = [.int n] ∧ (-100000 ≤ n ∧ n ≤ 100000) ∧ (∀ i, i < n.toNat → EltT te ((wipe σ vs).set j (some (.int (i : Nat)))) H1 (f i)) ∧ NewTs n.toNat f H1 Q) : mLcTR1 ta j te vs σ H Q := by
  unfold mLcTR1
  exact h
theorem lcTR1_of {ta : TA} {j : Nat} {te : TE} {vs : List Nat} {σ : L2.St} {H : Hp} {Q : VK} (hj : vs = [j]) (q : mLcTR1 ta j te vs σ H Q) : tLc (iRng1 (cTA ta)) (gName j) tYes (cTE te) vs σ H Q := by
  unfold mLcTR1 at q
  refine ⟨_, q, fun ws H1 r => ?_⟩
  obtain ⟨n, f, rfl, ⟨hn0, hn⟩, he, hq⟩ := r
  have big : (2 : Int) ^ 62 = 4611686018427387904 := by decide
  refine ⟨n, rfl, by omega, by omega, fun D hD => ?_⟩
  refine lc_range (lo := 0) (n := n.toNat) (fun i H' => TsW H1 D f i H') ⟨same_upd hD, [], upd_same, rfl, fun k p h => by cases h⟩ (fun i H' hi w => ⟨wipe_set hj, ?_⟩) fun H' w => ?_
  · show cTE te ((wipe σ vs).set j (some (.int (0 + (i : Int))))) H' _
    rw [Int.zero_add]
    refine ⟨_, he i hi H' w.1, fun v H'' r => ?_⟩
    obtain ⟨s, p, rfl, hp⟩ := r
    obtain ⟨acc, h1, h2, h3⟩ := w.next hD s hp
    exact ⟨acc, h1, szl (by omega), h3⟩
  · obtain ⟨sm, ps, hd, hl, ht⟩ := w
    exact hq D H' ps hD sm hd hl ht
theorem ps_setLcTR1 {i : Nat} {y : Str} {py spos : Pos} {elt : Expr} {scope : Scope} {j : Nat} {x : Str} {a : Expr} {p p2 xpos : Pos} (hc : X.calm = true) (hN : X.N.Nodup) (hy : X.N[i]? = some y) (hyl : X.env.scope.names.lookup y = some .local)
    (hsw : swapsWith (.ListComp elt [⟨.Name x xpos, .Call (.Name "range" p) [a] [] p2, [], 0⟩] scope pos) (some (.Name y py)) spos.line X.env = pure true) (hg : Gl X "range") (hm : X.mg "range" = none) (ha : PA X [a] ta) (ok : BlkOk X.N X.env.scope scope [(x, j)])
    (hgt : ∀ (s : Shared) (H : Hp) (C : Addr) (cl : List (Str × Addr)) (fp : List Addr), PG (X.blk s H scope (compEnvC scope cl C X.env) fp) (.Name x xpos) (gName j))
    (he : ∀ (s : Shared) (H : Hp) (C : Addr) (cl : List (Str × Addr)) (fp : List Addr), PE (X.blk s H scope (compEnvC scope cl C X.env) fp) elt te)
    (hs : starEach [a] X.env = [(false, eval a X.env)] := by rfl) (hs2 : ∀ y, foldedSetIterable (.Call (.Name "range" p) [a] [] p2) X.env y = pure y := by intro _; rfl) :
    PS X (.Assign [.Name y py] (.ListComp elt [⟨.Name x xpos, .Call (.Name "range" p) [a] [] p2, [], 0⟩] scope pos) spos) (tAsg (mLcTR1 ta j te [j]) (gName i)) :=
  ps_weak (ps_setLc hc hN hy hyl hsw (pi_range1 hg hm (pa_c ha) hs) ok hgt (fun _ _ _ _ _ => pts_nil) (fun s H C cl fp => pe_c (he s H C cl fp)) hs2) fun _ _ _ q => lcTR1_of rfl q
end
/-! ### a comprehension over any walk, its elements values, some left out -/
def IMono (wi' wi : TI) : Prop := ∀ (σ : L2.St) (H : Hp) (R R' : It → Hp → Prop), (∀ J H', R J H' → R' J H') → wi' σ H R → wi σ H R'
section
variable {K : PySem.W.Frag}
theorem im_zip {ta : TA} : IMono (iZip K ta) (iZip K (cTA ta)) := fun σ H R R' h q => ⟨_, q, fun v H' r => by
  obtain ⟨a, b, xs, ys, e, h1, h2, r⟩ := r
  exact ⟨a, b, xs, ys, e, h1, h2, h _ _ r⟩⟩
theorem im_enum {ta : TA} : IMono (iEnum K ta) (iEnum K (cTA ta)) := fun σ H R R' h q => ⟨_, q, fun v H' r => by
  obtain ⟨a, xs, e, h1, r⟩ := r
  exact ⟨a, xs, e, h1, h _ _ r⟩⟩
theorem im_list {tl : TE} : IMono (iList K tl) (iList K (cTE tl)) := fun σ H R R' h q => ⟨_, q, fun v H' r => by
  obtain ⟨a, e, h1, r⟩ := r
  exact ⟨a, e, h1, h _ _ r⟩⟩
theorem im_tup {tl : TE} : IMono (iTup K tl) (iTup K (cTE tl)) := fun σ H R R' h q => ⟨_, q, fun v H' r => by
  obtain ⟨a, e, h1, r⟩ := r
  exact ⟨a, e, h1, h _ _ r⟩⟩
theorem im_rng1 {ta : TA} : IMono (iRng1 ta) (iRng1 (cTA ta)) := fun σ H R R' h q => ⟨_, q, fun v H' r => by
  obtain ⟨j, e, h1, h2, r⟩ := r
  exact ⟨j, e, h1, h2, h _ _ r⟩⟩
theorem im_rng2 {ta : TA} : IMono (iRng2 ta) (iRng2 (cTA ta)) := fun σ H R R' h q => ⟨_, q, fun v H' r => by
  obtain ⟨i, j, e, h1, r⟩ := r
  exact ⟨i, j, e, h1, h _ _ r⟩⟩
end
/-- the new list at D behind i turns -/
structure LcP (H1 : Hp) (D : Addr) (keep : Nat → Bool) (f : Nat → V) (i : Nat) (H' : Hp) : Prop where
  sm : Same H1 H'
  at' : H' D = some (.lst (((List.range i).filter keep).map f))
def LcN (H1 : Hp) (D : Addr) (keep : Nat → Bool) (f : Nat → V) (i : Nat) (y : V) (H4 : Hp) : Prop := ∃ acc, H4 D = some (.lst acc) ∧ acc.length < sizeLine ∧ LcP H1 D keep f (i + 1) (upd H4 D (.lst (acc ++ [y])))
theorem LcP.put {H1 H' H4 : Hp} {D : Addr} {keep : Nat → Bool} {f : Nat → V} {i : Nat} {y : V} (p : LcP H1 D keep f i H') (hD : H1 D = none) (hi : i < 100000) (s : Same H' H4) (hk : keep i = true) (e : y = f i) : LcN H1 D keep f i y H4 := by
  refine ⟨_, s _ _ p.at', ?_, same_mut (p.sm.trans s) hD, ?_⟩
  · have h1 := List.length_filter_le keep (List.range i)
    rw [List.length_range] at h1
    rw [List.length_map]
    exact szl (by omega)
  · rw [upd_same, List.range_succ, List.filter_append, List.map_append, e]
    have e2 : [i].filter keep = [i] := by
      rw [List.filter_cons, if_pos hk]
      rfl
    rw [e2]
    rfl
theorem LcP.skip {H1 H' H4 : Hp} {D : Addr} {keep : Nat → Bool} {f : Nat → V} {i : Nat} (p : LcP H1 D keep f i H') (s : Same H' H4) (hk : keep i = false) : LcP H1 D keep f (i + 1) H4 := by
  refine ⟨p.sm.trans s, ?_⟩
  rw [s _ _ p.at', List.range_succ, List.filter_append]
  have e2 : [i].filter keep = [] := by
    rw [List.filter_cons, if_neg (by rw [hk]; decide)]
    rfl
  rw [e2, List.append_nil]
@[irreducible] def mLcP (wi : TI) (g : TG) (tt : TT) (te : TE) (vs : List Nat) : TE := fun σ H Q => wi σ H fun J H1 => ∃ (n : Nat) (G : Hp → Prop) (Y : Nat → Hp → V → Hp → Prop) (keep : Nat → Bool) (f : Nat → V), Walk J n G Y ∧ n ≤ 100000 ∧ (∀ H', Same H1 H' → G H') ∧
  (∀ D, H1 D = none → ∀ i x H' H'', i < n → LcP H1 D keep f i H' → Y i H' x H'' → g x (wipe σ vs) H'' fun σ2 H2 => wipe σ2 vs = wipe σ vs ∧ tt σ2 H2 fun b H3 => Br b (te σ2 H3 fun y H4 => LcN H1 D keep f i y H4) (LcP H1 D keep f (i + 1) H3)) ∧ NewO (.lst (((List.range n).filter keep).map f)) H1 Q
theorem rd_lcP {wi : TI} {g : TG} {tt : TT} {te : TE} {vs : List Nat} {σ : L2.St} {H : Hp} {Q : VK} (h : wi σ H fun J H1 => ∃ (n : Nat) (G : Hp → Prop) (Y : Nat → Hp → V → Hp → Prop) (keep : Nat → Bool) (f : Nat → V), Walk J n G Y ∧ n ≤ 100000 ∧ (∀ H', Same H1 H' → G H') ∧
  (∀ D, H1 D = none → ∀ i x H' H'', i < n → LcP H1 D keep f i H' → Y i H' x H'' → g x (wipe σ vs) H'' fun σ2 H2 => wipe σ2 vs = wipe σ vs ∧ tt σ2 H2 fun b H3 => Br b (te σ2 H3 fun y H4 => LcN H1 D keep f i y H4) (LcP H1 D keep f (i + 1) H3)) ∧ NewO (.lst (((List.range n).filter keep).map f)) H1 Q) : mLcP wi g tt te vs σ H Q := by
  unfold mLcP
  exact h
def cTG (g : TG) : TG := fun v σ H Q => ∃ R : L2.St → Hp → Prop, g v σ H R ∧ ∀ σ' H', R σ' H' → Q σ' H'
section
variable {X : Cx} {e tg : Expr} {ifs : List Expr} {g : TG} {tt : TT} {te : TE}
theorem pg_c (h : PG X tg g) : PG X tg (cTG g) := ⟨fun pins s σ H v u Q I r ⟨R, h1, h2⟩ => wpAny_mono (h.run pins s σ H v u R I r h1) (fun _ s1 ⟨σ1, H1, I1, q⟩ => ⟨σ1, H1, I1, h2 _ _ q⟩) fun _ _ z => z⟩
theorem pts_c (h : PTs X ifs tt) : PTs X ifs (cTT tt) := ⟨fun pins s σ H Q I ⟨R, h1, h2⟩ => wpAny_mono (h.run pins s σ H R I h1) (fun _ s1 ⟨H1, I1, q⟩ => ⟨H1, I1, h2 _ _ q⟩) fun _ _ z => z⟩
theorem lcP_of {wi wi' : TI} {vs : List Nat} {σ : L2.St} {H : Hp} {Q : VK} (hw : IMono wi' wi) (q : mLcP wi' g tt te vs σ H Q) : tLc wi (cTG g) (cTT tt) (cTE te) vs σ H Q := by
  unfold mLcP at q
  refine hw _ _ _ _ (fun J H1 r => ?_) q
  obtain ⟨n, G, Y, keep, f, w, hn, hG, ht, hq⟩ := r
  intro D hD
  refine lc_it w (LcP H1 D keep f) ⟨same_upd hD, upd_same⟩ (fun i H' _ p => hG H' p.sm) (fun i x H' H'' hi p y => ?_) fun H' p => hq D H' hD p.sm p.at'
  refine ⟨_, ht D hD i x H' H'' hi p y, fun σ2 H2 r => ⟨r.1, _, r.2, fun b H3 r => ?_⟩⟩
  cases b with
  | true => exact iteT ⟨_, (r.un : if true = true then _ else _), fun y H4 z => z⟩
  | false => exact iteF (r.un : if false = true then _ else _)
theorem pe_lcP {iter elt : Expr} {scope : Scope} {own : List (Str × Nat)} {pos : Pos} {wi wi' : TI} (vs : List Nat) (hw : IMono wi' wi) (hc : X.calm = true) (hN : X.N.Nodup) (hi : PI X tg iter wi) (ok : BlkOk X.N X.env.scope scope own)
    (hg : ∀ (s : Shared) (H : Hp) (C : Addr) (cl : List (Str × Addr)) (fp : List Addr), PG (X.blk s H scope (compEnvC scope cl C X.env) fp) tg g) (ht : ∀ (s : Shared) (H : Hp) (C : Addr) (cl : List (Str × Addr)) (fp : List Addr), PTs (X.blk s H scope (compEnvC scope cl C X.env) fp) ifs tt)
    (he : ∀ (s : Shared) (H : Hp) (C : Addr) (cl : List (Str × Addr)) (fp : List Addr), PE (X.blk s H scope (compEnvC scope cl C X.env) fp) elt te) (hvs : own.map (·.2) = vs := by rfl) (hs : ∀ x, foldedSetIterable iter X.env x = pure x := by intro _; rfl) :
    PE X (.ListComp elt [⟨tg, iter, ifs, 0⟩] scope pos) (mLcP wi' g tt te vs) :=
  pe_weak (pe_lc hc hN hi ok (fun s H C cl fp => pg_c (hg s H C cl fp)) (fun s H C cl fp => pts_c (ht s H C cl fp)) (fun s H C cl fp => pe_c (he s H C cl fp)) hs) fun _ _ _ q => by
    rw [hvs]
    exact lcP_of hw q
theorem ps_setLcP {i : Nat} {y : Str} {py : Pos} {iter elt : Expr} {scope : Scope} {own : List (Str × Nat)} {pos spos : Pos} {wi wi' : TI} (vs : List Nat) (hw : IMono wi' wi) (hc : X.calm = true) (hN : X.N.Nodup) (hy : X.N[i]? = some y) (hyl : X.env.scope.names.lookup y = some .local)
    (hsw : swapsWith (.ListComp elt [⟨tg, iter, ifs, 0⟩] scope pos) (some (.Name y py)) spos.line X.env = pure true) (hi : PI X tg iter wi) (ok : BlkOk X.N X.env.scope scope own)
    (hg : ∀ (s : Shared) (H : Hp) (C : Addr) (cl : List (Str × Addr)) (fp : List Addr), PG (X.blk s H scope (compEnvC scope cl C X.env) fp) tg g) (ht : ∀ (s : Shared) (H : Hp) (C : Addr) (cl : List (Str × Addr)) (fp : List Addr), PTs (X.blk s H scope (compEnvC scope cl C X.env) fp) ifs tt)
    (he : ∀ (s : Shared) (H : Hp) (C : Addr) (cl : List (Str × Addr)) (fp : List Addr), PE (X.blk s H scope (compEnvC scope cl C X.env) fp) elt te) (hvs : own.map (·.2) = vs := by rfl) (hs : ∀ x, foldedSetIterable iter X.env x = pure x := by intro _; rfl) :
    PS X (.Assign [.Name y py] (.ListComp elt [⟨tg, iter, ifs, 0⟩] scope pos) spos) (tAsg (mLcP wi' g tt te vs) (gName i)) :=
  ps_weak (ps_setLc hc hN hy hyl hsw hi ok (fun s H C cl fp => pg_c (hg s H C cl fp)) (fun s H C cl fp => pts_c (ht s H C cl fp)) (fun s H C cl fp => pe_c (he s H C cl fp)) hs) fun _ _ _ q => by
    rw [hvs]
    exact lcP_of hw q
end
theorem wipe2 {σ : L2.St} {i j : Nat} {x y : Option V} (h : i ≠ j) : wipe (((wipe σ [i, j]).set i x).set j y) [i, j] = wipe σ [i, j] := by
  show (((((σ.set j none).set i none).set i x).set j y).set j none).set i none = (σ.set j none).set i none
  have e : ∀ (z : Option V), ((σ.set j none).set i z).set j none = (σ.set j none).set i z := fun z => by rw [List.set_comm _ _ h, List.set_set]
  rw [List.set_set, List.set_set, e, List.set_set]
/-! ### slices; lists of whole numbers compared -/
theorem sIx_nn {n d : Nat} {k : Int} (h : 0 ≤ k) : HT.sIx n d (some k) = min k.toNat n := by
  show (if k < 0 then (k + (n : Int)).toNat else min k.toNat n) = _
  rw [if_neg (by omega)]
theorem sIx_neg {n d : Nat} {k : Int} (h : k < 0) : HT.sIx n d (some k) = (k + (n : Int)).toNat := by
  show (if k < 0 then (k + (n : Int)).toNat else min k.toNat n) = _
  rw [if_pos h]
theorem drop_min {α : Type} (xs : List α) (k : Nat) : xs.drop (min k xs.length) = xs.drop k := by
  by_cases h : k ≤ xs.length
  · rw [Nat.min_eq_left h]
  · rw [Nat.min_eq_right (by omega), List.drop_of_length_le (Nat.le_refl _), List.drop_of_length_le (by omega)]
theorem take_all {α : Type} (xs : List α) {k m : Nat} (h : xs.length ≤ k) (h2 : xs.length ≤ m) : xs.take k = xs.take m := by
  rw [List.take_of_length_le h, List.take_of_length_le h2]
theorem cutX_from {xs : List V} {k : Int} (h : 0 ≤ k) : cutV xs (some k) none = xs.drop k.toNat := by
  unfold cutV
  rw [HT.sIx_none, sIx_nn h, drop_min]
  refine List.take_of_length_le ?_
  rw [List.length_drop]
  omega
theorem cutX_to {xs : List V} {k : Int} (h : 0 ≤ k) : cutV xs none (some k) = xs.take k.toNat := by
  unfold cutV
  rw [HT.sIx_none, sIx_nn h, List.drop_zero, Nat.sub_zero]
  by_cases h2 : k.toNat ≤ xs.length
  · rw [Nat.min_eq_left h2]
  · exact take_all _ (by omega) (by omega)
theorem cutX_nn {xs : List V} {i j : Int} (h : 0 ≤ i) (h' : 0 ≤ j) : cutV xs (some i) (some j) = (xs.drop i.toNat).take (j.toNat - i.toNat) := by
  unfold cutV
  rw [sIx_nn h, sIx_nn h', drop_min]
  by_cases h2 : j.toNat ≤ xs.length
  · by_cases h3 : i.toNat ≤ xs.length
    · rw [Nat.min_eq_left h2, Nat.min_eq_left h3]
    · rw [List.drop_of_length_le (by omega), List.take_nil, List.take_nil]
  · refine take_all _ ?_ ?_ <;> (rw [List.length_drop]; omega)
theorem cutX_butLast {xs : List V} {i : Int} (h : 0 ≤ i) : cutV xs (some i) (some (-1)) = (xs.drop i.toNat).take (xs.length - 1 - i.toNat) := by
  unfold cutV
  rw [sIx_nn h, sIx_neg (by decide), drop_min]
  have e : (-1 + (xs.length : Int)).toNat = xs.length - 1 := by omega
  rw [e]
  by_cases h3 : i.toNat ≤ xs.length
  · rw [Nat.min_eq_left h3]
  · rw [List.drop_of_length_le (by omega), List.take_nil, List.take_nil]
theorem eqvAll_ints : ∀ ns ms : List Int, PyData.eqvAll (ns.map PyData.int) (ms.map PyData.int) = decide (ns = ms)
  | [], [] => rfl
  | [], _ :: _ => by
    rw [decide_eq_false (by intro e; cases e)]
    rfl
  | _ :: _, [] => by
    rw [decide_eq_false (by intro e; cases e)]
    rfl
  | a :: r, b :: s => by
    rw [List.map_cons, List.map_cons, PyData.eqvAll, eqvAll_ints r s, PyData.eqv]
    by_cases h : a = b
    · subst h
      simp
    · simp [h]
section
variable {K : PySem.W.Frag} {H : Hp} {Q : VK} {a b : Addr}
theorem rd_eqI {ns ms : List Int} (h1 : SqL K H a (ns.map V.int)) (h2 : SqL K H b (ms.map V.int)) (h : Q (.bl (decide (ns = ms))) H) : mEqD K (.ref a) (.ref b) H Q :=
  rd_eqA (n := 1) (m := 1) (.list (ns.map PyData.int)) (.list (ms.map PyData.int)) (dp_ints h1) (dp_ints h2) (sh_lst (sh_ints _)) (sh_lst (sh_ints _)) (by rw [PyData.eqv, eqvAll_ints]; exact h)
theorem rd_neI {ns ms : List Int} (h1 : SqL K H a (ns.map V.int)) (h2 : SqL K H b (ms.map V.int)) (h : Q (.bl (!decide (ns = ms))) H) : mNeD K (.ref a) (.ref b) H Q :=
  rd_neA (n := 1) (m := 1) (.list (ns.map PyData.int)) (.list (ms.map PyData.int)) (dp_ints h1) (dp_ints h2) (sh_lst (sh_ints _)) (sh_lst (sh_ints _)) (by rw [PyData.eqv, eqvAll_ints]; exact h)
end
theorem rd_yes {σ : L2.St} {H : Hp} {Q : Bool → Hp → Prop} (h : Q true H) : tYes σ H Q := h
theorem at_last {ns : List Int} (h : 0 < ns.length) : atI (ns.map V.int) (-1) = some (.int (ns.getD (ns.length - 1) 0)) := by
  have hne : ns ≠ [] := fun e => by
    rw [e] at h
    cases h
  obtain ⟨r, x, rfl⟩ : ∃ r x, ns = r ++ [x] := ⟨ns.dropLast, ns.getLast hne, (List.dropLast_concat_getLast hne).symm⟩
  rw [List.map_append]
  have e : (r ++ [x]).getD ((r ++ [x]).length - 1) 0 = x := by
    rw [List.length_append, List.length_singleton, Nat.add_sub_cancel, List.getD_eq_getElem?_getD, List.getElem?_append_right (Nat.le_refl _), Nat.sub_self]
    rfl
  rw [e]
  exact atI_last _ _
/-- the frame in another form -/
theorem frS {F : L2.St → Hp → Prop} {σ σ' : L2.St} {H : Hp} (e : σ' = σ) (h : F σ' H) : F σ H := e ▸ h
theorem br_xnonI {x : Int} {A B : Prop} (h : A) : Br (!decide (V.int x = V.non)) A B := br_nt (fun e => by cases e) h
theorem br_xnonR {x : Addr} {A B : Prop} (h : A) : Br (!decide (V.ref x = V.non)) A B := br_nt (fun e => by cases e) h
theorem br_xnonN {A B : Prop} (h : B) : Br (!decide (V.non = V.non)) A B := br_nf rfl h
theorem rd_listT {K : PySem.W.Frag} {a : Addr} {xs : List V} {H : Hp} {Q : VK} (h1 : SqT K H a xs) (h : NewO (.lst xs) H Q) : mListOf K [.ref a] H Q := by
  unfold mListOf
  exact ⟨a, xs, rfl, .inr h1, h⟩
/-- tuple(xs) of a list -/
@[irreducible] def mTupOf (K : PySem.W.Frag) : List V → Hp → VK → Prop := fun xs H Q => ∃ p ys, xs = [.ref p] ∧ SqL K H p ys ∧ NewO (.tup ys) H Q
theorem rd_tupOf {K : PySem.W.Frag} {a : Addr} {xs : List V} {H : Hp} {Q : VK} (h1 : SqL K H a xs) (h : NewO (.tup xs) H Q) : mTupOf K [.ref a] H Q := by
  unfold mTupOf
  exact ⟨a, xs, rfl, h1, h⟩
theorem call_tupOfM {X : Cx} : CallR X (.type "tuple") (mTupOf X.K) := fun pins s σ H xs us Q I r q => call_tuple_of pins s σ H xs us Q I r (by
  unfold mTupOf at q
  obtain ⟨a, ys, e1, h1, h⟩ := q
  exact ⟨a, ys, e1, .inl ⟨h1, h.go⟩⟩)
end My

namespace My
open PySem L2
/-! ### the text by places -/
def topS (i : Nat) : Stmt := PySem.Challenge.pw_bearerwise_k23_one_changed_byte.main.body.getD i (.Pass ⟨0, 0, 0, 0⟩)
abbrev S_row_of : Stmt := topS 4
abbrev S_mark_of : Stmt := topS 5
abbrev S_u_with_row : Stmt := topS 6
abbrev S_cover : Stmt := topS 7
abbrev S_uncover : Stmt := topS 8
abbrev S_u_law_cell : Stmt := topS 10
abbrev S_u_law_digits : Stmt := topS 11
abbrev S_u_law_bytes : Stmt := topS 12
abbrev S_u_law_is_bytes : Stmt := topS 13
abbrev S_u_law_parts : Stmt := topS 14
abbrev S_law : Stmt := topS 15
theorem sc_row_of : FnScope ["key", "bearer", "way", "count", "size", "state", "row", "_"] ["key", "bearer", "way", "count", "size"] (defScope S_row_of) := ⟨rfl, rfl, rfl, by decide +kernel, rfl, by decide +kernel, by decide +kernel⟩
theorem sc_mark_of : FnScope ["key", "bearer", "way", "count", "mark"] ["key", "bearer", "way", "count"] (defScope S_mark_of) := ⟨rfl, rfl, rfl, by decide +kernel, rfl, by decide +kernel, by decide +kernel⟩
theorem sc_u_with_row : FnScope ["row", "packet", "one", "other"] ["row", "packet"] (defScope S_u_with_row) := ⟨rfl, rfl, rfl, by decide +kernel, rfl, by decide +kernel, by decide +kernel⟩
theorem sc_cover : FnScope ["key", "bearer", "way", "count", "packet", "row"] ["key", "bearer", "way", "count", "packet"] (defScope S_cover) := ⟨rfl, rfl, rfl, by decide +kernel, rfl, by decide +kernel, by decide +kernel⟩
theorem sc_uncover : FnScope ["key", "bearer", "way", "count", "covered", "size", "packet"] ["key", "bearer", "way", "count", "covered"] (defScope S_uncover) := ⟨rfl, rfl, rfl, by decide +kernel, rfl, by decide +kernel, by decide +kernel⟩
theorem sc_u_law_cell : FnScope ["script", "k"] ["script", "k"] (defScope S_u_law_cell) := ⟨rfl, rfl, rfl, by decide +kernel, rfl, by decide +kernel, by decide +kernel⟩
theorem sc_u_law_digits : FnScope ["cell", "bases", "digits", "rest", "base", "mixed"] ["cell", "bases"] (defScope S_u_law_digits) := ⟨rfl, rfl, rfl, by decide +kernel, rfl, by decide +kernel, by decide +kernel⟩
theorem sc_u_law_bytes : FnScope ["cell", "size", "digits", "k"] ["cell", "size"] (defScope S_u_law_bytes) := ⟨rfl, rfl, rfl, by decide +kernel, rfl, by decide +kernel, by decide +kernel⟩
theorem sc_u_law_is_bytes : FnScope ["value", "size", "byte"] ["value", "size"] (defScope S_u_law_is_bytes) := ⟨rfl, rfl, rfl, by decide +kernel, rfl, by decide +kernel, by decide +kernel⟩
theorem sc_u_law_parts : FnScope ["cell", "digits", "key", "count"] ["cell"] (defScope S_u_law_parts) := ⟨rfl, rfl, rfl, by decide +kernel, rfl, by decide +kernel, by decide +kernel⟩
theorem sc_law : FnScope ["script", "k", "key", "bearer", "way", "count", "packet", "covered", "digits", "place", "changed"] ["script"] (defScope S_law) := ⟨rfl, rfl, rfl, by decide +kernel, rfl, by decide +kernel, by decide +kernel⟩
/-! ### what the top has written -/
structure Tx (P : Program) (w : World) (K : PySem.W.Frag) (mg : Str → Option Value) (base : Heap) where
  n_len : mg "len" = none
  n_range : mg "range" = none
  n_int : mg "int" = none
  n_sum : mg "sum" = none
  n_zip : mg "zip" = none
  n_min : mg "min" = none
  n_isinstance : mg "isinstance" = none
  n_list : mg "list" = none
  n_bool : mg "bool" = none
  g_MODULUS : (∃ t, mg "MODULUS" = some (.int 2147483647 t))
  g_MARK_MASK : (∃ t, mg "MARK_MASK" = some (.int 23205 t))
  g_TAIL_BYTES : (∃ t, mg "TAIL_BYTES" = some (.int 3 t))
  a_row_of : Addr
  d_row_of : FuncData
  p_row_of : DefAt K mg "row_of" "row_of" S_row_of ["key", "bearer", "way", "count", "size"] a_row_of d_row_of
  a_mark_of : Addr
  d_mark_of : FuncData
  p_mark_of : DefAt K mg "mark_of" "mark_of" S_mark_of ["key", "bearer", "way", "count"] a_mark_of d_mark_of
  a_u_with_row : Addr
  d_u_with_row : FuncData
  p_u_with_row : DefAt K mg "_with_row" "_with_row" S_u_with_row ["row", "packet"] a_u_with_row d_u_with_row
  a_cover : Addr
  d_cover : FuncData
  p_cover : DefAt K mg "cover" "cover" S_cover ["key", "bearer", "way", "count", "packet"] a_cover d_cover
  a_uncover : Addr
  d_uncover : FuncData
  p_uncover : DefAt K mg "uncover" "uncover" S_uncover ["key", "bearer", "way", "count", "covered"] a_uncover d_uncover
  a_u_law_cell : Addr
  d_u_law_cell : FuncData
  p_u_law_cell : DefAt K mg "_law_cell" "_law_cell" S_u_law_cell ["script", "k"] a_u_law_cell d_u_law_cell
  a_u_law_digits : Addr
  d_u_law_digits : FuncData
  p_u_law_digits : DefAt K mg "_law_digits" "_law_digits" S_u_law_digits ["cell", "bases"] a_u_law_digits d_u_law_digits
  a_u_law_bytes : Addr
  d_u_law_bytes : FuncData
  p_u_law_bytes : DefAt K mg "_law_bytes" "_law_bytes" S_u_law_bytes ["cell", "size"] a_u_law_bytes d_u_law_bytes
  a_u_law_is_bytes : Addr
  d_u_law_is_bytes : FuncData
  p_u_law_is_bytes : DefAt K mg "_law_is_bytes" "_law_is_bytes" S_u_law_is_bytes ["value", "size"] a_u_law_is_bytes d_u_law_is_bytes
  a_u_law_parts : Addr
  d_u_law_parts : FuncData
  p_u_law_parts : DefAt K mg "_law_parts" "_law_parts" S_u_law_parts ["cell"] a_u_law_parts d_u_law_parts
  a_law : Addr
  d_law : FuncData
  p_law : DefAt K mg "law" "law" S_law ["script"] a_law d_law
/-! ### the walk's own steps -/
local macro_rules | `(tactic| walk_at "side") => `(tactic| first
  | exact rfl
  | assumption
  | omega
  | decide
  | exact Nat.le_of_ble_eq_true rfl
  | exact ⟨by omega, by omega⟩
  | exact ⟨by omega, by omega, by omega⟩
  | exact Or.inl ⟨by omega, by omega⟩
  | exact Or.inr ⟨by omega, by omega⟩)
local macro_rules | `(tactic| walk_at "sm") => `(tactic| first
  | assumption
  | exact Same.refl _
  | (refine Same.trans ?_ (by assumption); walk_at "sm"))
local macro_rules | `(tactic| walk_at "nn") => `(tactic| first
  | assumption
  | (refine same_none (?_ : Same _ _) (by assumption); walk_at "sm"))
local macro_rules | `(tactic| walk_at "hp") => `(tactic| first
  | assumption
  | (apply hp_step; assumption; walk_at "sm"))
local macro_rules | `(tactic| walk_at "sq") => `(tactic| first
  | assumption
  | (apply sq_of; assumption)
  | (apply st_of; assumption)
  | (apply sq_step; assumption; walk_at "sm")
  | (apply sqt_step; assumption; walk_at "sm")
  | (apply sq_of; walk_at "hp")
  | (apply st_of; walk_at "hp"))
local macro_rules | `(tactic| walk_at "rd") => `(tactic| first
  | refine ⟨_, rfl, ?_⟩
  | refine ⟨_, _, rfl, rfl, ?_⟩
  | refine Or.inl ⟨_, rfl, ?_⟩
  | refine Or.inr ⟨_, rfl, ?_⟩
  | refine ⟨_, _, _, rfl, ?_⟩
  | with_reducible refine br_nonI ?_
  | with_reducible refine br_nonR ?_
  | with_reducible refine br_nonN ?_
  | with_reducible refine br_xnonI ?_
  | with_reducible refine br_xnonR ?_
  | with_reducible refine br_xnonN ?_
  | refine And.intro (by walk_at "side") ?_
  | refine rd_tup ?_
  | refine rd_lst ?_
  | with_reducible refine br_F ?_
  | with_reducible refine br_T ?_
  | with_reducible refine br_nF ?_
  | with_reducible refine br_nT ?_
  | refine ⟨_, rfl, rfl, ?_⟩
  | with_reducible refine rd_yes ?_
  | refine rd_isiIB ?_
  | refine rd_isiII ?_
  | refine rd_sum (by walk_at "sq") ?_
  | refine rd_lenI (by walk_at "sq") ?_
  | refine rd_len (by walk_at "sq") ?_
  | refine ⟨_, _, rfl, (by walk_at "hp"), ?_⟩)

section
variable {P : Program} {w : World} {K : PySem.W.Frag} {mg : Str → Option Value} {base : Heap}
def sp_u_law_cell (K : PySem.W.Frag) : Sp := fun vs H Q _ => ∃ (a : Addr) (ns : List Int) (k : Int), vs = [.ref a, .int k] ∧ SqL K H a (ns.map V.int) ∧ 0 ≤ k ∧ Q (.int (ns.getD k.toNat 0)) H
@[irreducible] def ip_u_law_cell (K : PySem.W.Frag) : Sp := sp_u_law_cell K
theorem op_u_law_cell {K : PySem.W.Frag} {vs : List V} {H : Hp} {Q : VK} {E : XK} (h : sp_u_law_cell K vs H Q E) : ip_u_law_cell K vs H Q E := by
  unfold ip_u_law_cell
  exact h
theorem un_u_law_cell {K : PySem.W.Frag} {vs : List V} {H : Hp} {Q : VK} {E : XK} (h : ip_u_law_cell K vs H Q E) : sp_u_law_cell K vs H Q E := by
  unfold ip_u_law_cell at h
  exact h
theorem ok_u_law_cell (T : Tx P w K mg base) : FnOk P w K mg base CX0 1 T.a_u_law_cell T.d_u_law_cell ["script", "k"] (ip_u_law_cell K) := by
  refine T.p_u_law_cell.F.ok sc_u_law_cell (fun vs H Q E h => ?_) (fun cdv A outer s H vs Q E hr h => ?_)
  · obtain ⟨a, ns, k, rfl, hS, hk, q⟩ := un_u_law_cell h
    rfl
  · obtain ⟨a, ns, k, rfl, hS, hk, q⟩ := un_u_law_cell h
    refine ⟨_, (pss_cons (ps_ifM (pt_cmpR op_ltM (pv 1) (pe_callB call_lenM (by rfl) T.n_len PySem.boot_len (pa_cons (pv 0) pa_nil)) (nomark _)) (pss_one (ps_ret (pe_callTy call_int1 (by rfl) T.n_int (by decide +kernel) (pa_cons (pe_ix ix_listM (pv 0) (pv 1) (fun _ _ => rfl)) pa_nil)))) pss_nil) (pss_one (ps_ret pe_int))), ?_⟩
    (repeat walk_at "rd")
    refine br_by (fun h => ?_) (fun h => ?_)
    · (repeat walk_at "rd")
      refine rd_ixI hS hk h ?_
      (repeat walk_at "rd")
      exact q
    · have e : ns.getD k.toNat 0 = 0 := by
        rw [List.getD_eq_getElem?_getD, List.getElem?_eq_none (by omega)]
        rfl
      rw [e] at q
      exact q
end
/-! digits within their bases -/
inductive DigOk : List Int → List Int → Prop where
  | nil : DigOk [] []
  | cons {b d : Int} {bs ds : List Int} (h0 : 0 ≤ d) (h1 : d < b) (h : DigOk bs ds) : DigOk (b :: bs) (d :: ds)
theorem DigOk.snoc {b d : Int} {bs ds : List Int} (h : DigOk bs ds) (h0 : 0 ≤ d) (h1 : d < b) : DigOk (bs ++ [b]) (ds ++ [d]) := by
  induction h with
  | nil => exact .cons h0 h1 .nil
  | cons a0 a1 _ ih => exact .cons a0 a1 ih
theorem DigOk.len {bs ds : List Int} (h : DigOk bs ds) : ds.length = bs.length := by
  induction h with
  | nil => rfl
  | cons _ _ _ ih => rw [List.length_cons, List.length_cons, ih]
theorem DigOk.un {b : Int} {bs ds : List Int} (h : DigOk (b :: bs) ds) : ∃ d r, ds = d :: r ∧ (0 ≤ d ∧ d < b) ∧ DigOk bs r := by
  cases h with
  | cons h0 h1 h => exact ⟨_, _, rfl, ⟨h0, h1⟩, h⟩
theorem DigOk.end {ds : List Int} (h : DigOk [] ds) : ds = [] := by
  cases h
  rfl
theorem dig_take {bs : List Int} {i : Nat} {b : Int} (h : bs[i]? = some b) : bs.take (i + 1) = bs.take i ++ [b] := by
  rw [List.take_add_one, h]
  rfl
section
variable {P : Program} {w : World} {K : PySem.W.Frag} {mg : Str → Option Value} {base : Heap}
def sp_u_law_digits (K : PySem.W.Frag) : Sp := fun vs H Q _ => ∃ (c : Int) (b : Addr) (bs : List Int), vs = [.int c, .ref b] ∧ SqL K H b (bs.map V.int) ∧ (∀ x ∈ bs, 1 ≤ x ∧ x ≤ 1000000000000) ∧ bs.length ≤ 100 ∧ ∀ ds, DigOk bs ds → NewO (.lst (ds.map V.int)) H Q
structure DigW (H : Hp) (c : Int) (b p : Addr) (bs : List Int) (i : Nat) (σ : L2.St) (H' : Hp) : Prop where
  sm : Same H H'
  dg : ∃ ds, H' p = some (.lst (ds.map V.int)) ∧ DigOk (bs.take i) ds
  fr : ∃ r x y, σ = [some (.int c), some (.ref b), some (.ref p), some (.int r), x, y]
@[irreducible] def ip_u_law_digits (K : PySem.W.Frag) : Sp := sp_u_law_digits K
theorem op_u_law_digits {K : PySem.W.Frag} {vs : List V} {H : Hp} {Q : VK} {E : XK} (h : sp_u_law_digits K vs H Q E) : ip_u_law_digits K vs H Q E := by
  unfold ip_u_law_digits
  exact h
theorem un_u_law_digits {K : PySem.W.Frag} {vs : List V} {H : Hp} {Q : VK} {E : XK} (h : ip_u_law_digits K vs H Q E) : sp_u_law_digits K vs H Q E := by
  unfold ip_u_law_digits at h
  exact h
theorem ok_u_law_digits (T : Tx P w K mg base) : FnOk P w K mg base CX0 1 T.a_u_law_digits T.d_u_law_digits ["cell", "bases"] (ip_u_law_digits K) := by
  refine T.p_u_law_digits.F.ok sc_u_law_digits (fun vs H Q E h => ?_) (fun cdv A outer s H vs Q E hr h => ?_)
  · obtain ⟨c, b, bs, rfl, hS, hb, hl, q⟩ := un_u_law_digits h
    rfl
  · obtain ⟨c, b, bs, rfl, hS, hb, hl, q⟩ := un_u_law_digits h
    refine ⟨_, (pss_cons (ps_set (i := 2) sc_u_law_digits.nd rfl (Or.inl rfl) (pe_lstM pa_nil)) (pss_cons (ps_set (i := 3) sc_u_law_digits.nd rfl (Or.inl rfl) (pe_callTy call_int1 (by rfl) T.n_int (by decide +kernel) (pa_cons (pv 0) pa_nil))) (pss_cons (ps_forL PassesOwn.never rfl (pv 1) (pg_name (i := 4) sc_u_law_digits.nd rfl (Or.inl rfl)) (pss_one (ps_ifM (pt_cmpR op_geM (pv 0) (pe_op op_powM pe_int pe_int) (nomark _)) (pss_cons (ps_expr (pe_app (pv 2) (pe_op op_modM (pe_callTy call_int1 (by rfl) T.n_int (by decide +kernel) (pa_cons (pv 3) pa_nil)) (pv 4)))) (pss_one (ps_set (i := 3) sc_u_law_digits.nd rfl (Or.inl rfl) (pe_op op_fdivWM (pv 3) (pv 4))))) (pss_cons (ps_set (i := 3) sc_u_law_digits.nd rfl (Or.inl rfl) (pe_op op_modM (pe_op op_addM (pe_op op_addM (pe_op op_mulM (pe_callTy call_int1 (by rfl) T.n_int (by decide +kernel) (pa_cons (pv 3) pa_nil)) pe_int) (pe_op op_mulM pe_int (pe_callB call_lenM (by rfl) T.n_len PySem.boot_len (pa_cons (pv 2) pa_nil)))) pe_int) pe_int)) (pss_cons (ps_set (i := 5) sc_u_law_digits.nd rfl (Or.inl rfl) (pe_op op_modM (pe_op op_mulM (pe_callTy call_int1 (by rfl) T.n_int (by decide +kernel) (pa_cons (pv 3) pa_nil)) (pe_callTy call_int1 (by rfl) T.n_int (by decide +kernel) (pa_cons (pv 3) pa_nil))) pe_int)) (pss_one (ps_expr (pe_app (pv 2) (pe_op op_modM (pe_op op_fdivM (pe_callTy call_int1 (by rfl) T.n_int (by decide +kernel) (pa_cons (pv 5) pa_nil)) pe_int) (pv 4)))))))))) (pss_one (ps_ret (pv 2)))))), ?_⟩
    refine rd_lst ?_
    (repeat walk_at "rd")
    intro p H1 np s1 e1
    (repeat walk_at "rd")
    refine rd_forL ?_
    (repeat walk_at "rd")
    refine ⟨b, bs.map V.int, fun i σ H' => Stop (DigW H c b p bs i σ H'), rfl, (by walk_at "sq"), .a ⟨s1, ⟨[], e1, .nil⟩, _, _, _, rfl⟩, fun i σ' H' _ w => w.un.sm.seq hS, fun i y σ' H' hi w => ?_, fun σ' H' w => ?_⟩
    · obtain ⟨sm, ⟨ds, ed, hd⟩, r, x, z, rfl⟩ := w.un
      rw [List.getElem?_map] at hi
      obtain ⟨ba, hba, rfl⟩ := Option.map_eq_some_iff.mp hi
      have hb1 := hb ba (List.mem_of_getElem? hba)
      have hi2 : i < bs.length := (List.getElem?_eq_some_iff.mp hba).1
      have hdl : ds.length ≤ 100 := by
        rw [hd.len, List.length_take]
        omega
      (repeat walk_at "rd")
      refine br_by (fun h => ?_) (fun h => ?_)
      · (repeat walk_at "rd")
        refine rd_app ed (by rw [List.length_map]; omega) ?_
        (repeat walk_at "rd")
        refine ⟨wide_div (b := 64) (by omega) (by omega) (by decide) (by decide), ?_⟩
        refine .a ⟨same_mut sm np, ⟨ds ++ [r % ba], ?_, ?_⟩, _, _, _, rfl⟩
        · rw [upd_same, List.map_append]
          rfl
        · rw [dig_take hba]
          exact hd.snoc (Int.emod_nonneg _ (by omega)) (Int.emod_lt_of_pos _ (by omega))
      · (repeat walk_at "rd")
        refine rd_app ed (by rw [List.length_map]; omega) ?_
        refine .a ⟨same_mut sm np, ⟨ds ++ [?w], ?h1, ?h2⟩, ?r, ?x, ?y, ?h3⟩
        case h3 => rfl
        case h1 =>
          rw [upd_same, List.map_append]
          rfl
        case h2 =>
          rw [dig_take hba]
          exact hd.snoc (Int.emod_nonneg _ (by omega)) (Int.emod_lt_of_pos _ (by omega))
    · obtain ⟨sm, ⟨ds, ed, hd⟩, r, x, z, rfl⟩ := w.un
      (repeat walk_at "rd")
      rw [List.length_map, List.take_length] at hd
      exact q ds hd p H' np sm ed
end
/-! bytes of the law's own -/
def BytesOk (ns : List Int) : Prop := ∀ x ∈ ns, 0 ≤ x ∧ x < 256
theorem dig4 {a b c d : Int} {ds : List Int} (h : DigOk [a, b, c, d] ds) : ∃ p q r s, ds = [p, q, r, s] ∧ (0 ≤ p ∧ p < a) ∧ (0 ≤ q ∧ q < b) ∧ (0 ≤ r ∧ r < c) ∧ (0 ≤ s ∧ s < d) := by
  obtain ⟨p, _, rfl, h1, h⟩ := h.un
  obtain ⟨q, _, rfl, h2, h⟩ := h.un
  obtain ⟨r, _, rfl, h3, h⟩ := h.un
  obtain ⟨s, _, rfl, h4, h⟩ := h.un
  have e := h.end
  subst e
  exact ⟨p, q, r, s, rfl, h1, h2, h3, h4⟩
theorem rep1 (n : Nat) (x : Int) : (List.replicate n [V.int x]).flatten = (List.replicate n x).map V.int := by
  induction n with
  | zero => rfl
  | succ n ih =>
    rw [List.replicate_succ, List.flatten_cons, ih, List.replicate_succ, List.map_cons]
    rfl
section
variable {P : Program} {w : World} {K : PySem.W.Frag} {mg : Str → Option Value} {base : Heap}
def sp_u_law_bytes (K : PySem.W.Frag) : Sp := fun vs H Q _ => ∃ c n : Int, vs = [.int c, .int n] ∧ 0 ≤ n ∧ n ≤ 1000 ∧ ∀ ds, BytesOk ds → ds.length = n.toNat → NewO (.lst (ds.map V.int)) H Q
@[irreducible] def ip_u_law_bytes (K : PySem.W.Frag) : Sp := sp_u_law_bytes K
theorem op_u_law_bytes {K : PySem.W.Frag} {vs : List V} {H : Hp} {Q : VK} {E : XK} (h : sp_u_law_bytes K vs H Q E) : ip_u_law_bytes K vs H Q E := by
  unfold ip_u_law_bytes
  exact h
theorem un_u_law_bytes {K : PySem.W.Frag} {vs : List V} {H : Hp} {Q : VK} {E : XK} (h : ip_u_law_bytes K vs H Q E) : sp_u_law_bytes K vs H Q E := by
  unfold ip_u_law_bytes at h
  exact h
theorem ok_u_law_bytes (T : Tx P w K mg base) : FnOk P w K mg base CX0 2 T.a_u_law_bytes T.d_u_law_bytes ["cell", "size"] (ip_u_law_bytes K) := by
  have G_u_law_digits := ok_u_law_digits T
  refine T.p_u_law_bytes.F.ok sc_u_law_bytes (fun vs H Q E h => ?_) (fun cdv A outer s H vs Q E hr h => ?_)
  · obtain ⟨c, n, rfl, h0, hn, q⟩ := un_u_law_bytes h
    rfl
  · obtain ⟨c, n, rfl, h0, hn, q⟩ := un_u_law_bytes h
    refine ⟨_, (pss_cons (ps_set (i := 2) sc_u_law_bytes.nd rfl (Or.inr rfl) (pe_call G_u_law_digits (hr.mono (by decide)) rfl T.p_u_law_digits.m T.p_u_law_digits.F.kp T.p_u_law_digits.b .nil pass0 (pa_cons (pv 0) (pa_cons (pe_lstM (pa_cons pe_int (pa_cons pe_int (pa_cons pe_int (pa_cons pe_int pa_nil))))) pa_nil)))) (pss_cons (ps_ifM (pt_cmpR op_eq (pe_ix ix_listM (pv 2) pe_int (fun _ _ => rfl)) pe_int (nomark _)) (pss_one (ps_ret (pe_op op_repM (pe_lstM (pa_cons (pe_ix ix_listM (pv 2) pe_int (fun _ _ => rfl)) pa_nil)) (pv 1)))) pss_nil) (pss_one (ps_ret (pe_lcR1 rfl sc_u_law_bytes.nd rfl T.n_range (pa_cons (pv 1) pa_nil) (blkOk_by (own := [("k", 3)]) (N := ["cell", "size", "digits", "k"]) (sc := defScope S_u_law_bytes) (by decide +kernel)) (fun _ _ _ _ _ => (pg_name (i := 3) sc_u_law_bytes.nd rfl (Or.inl rfl))) (fun _ _ _ _ _ => (pe_op op_modM (pe_op op_addM (pe_op op_addM (pe_ix (ix_listK (K := K) rfl) (pv 2) pe_int (fun _ _ => rfl)) (pe_op op_mulM (pe_op op_mulM (pe_op op_addM (pe_op op_mulM pe_int (pe_ix (ix_listK (K := K) rfl) (pv 2) pe_int (fun _ _ => rfl))) pe_int) (pv 3)) (pv 3))) (pe_op op_mulM (pe_ix (ix_listK (K := K) rfl) (pv 2) pe_int (fun _ _ => rfl)) (pv 3))) pe_int))))))), ?_⟩
    (repeat walk_at "rd")
    intro t H1 n1 s1 e1
    (repeat walk_at "rd")
    refine op_u_law_digits ⟨c, t, [3, 256, 256, 7], rfl, (by walk_at "sq"), (by decide), (by decide), fun ds hd p H2 n2 s2 e2 => ?_⟩
    obtain ⟨d0, d1, d2, d3, rfl, k0, k1, k2, k3⟩ := dig4 hd
    (repeat walk_at "rd")
    refine rd_ixI (by walk_at "sq") (by decide) (by show _ < (4 : Int); decide) ?_
    (repeat walk_at "rd")
    refine br_eby (fun h => ?_) (fun h => ?_)
    · (repeat walk_at "rd")
      refine rd_ixI (by walk_at "sq") (by decide) (by show _ < (4 : Int); decide) ?_
      (repeat walk_at "rd")
      intro p3 H3 n3 s3 e3
      (repeat walk_at "rd")
      refine rd_rep (by walk_at "hp") h0 (by omega) (by show 1 * _ ≤ _; omega) ?_
      intro p4 H4 n4 s4 e4
      (repeat walk_at "rd")
      refine q (List.replicate n.toNat d1) (fun x hx => ?_) (by rw [List.length_replicate]) p4 H4 (by walk_at "nn") (by walk_at "sm") ?_
      · rw [(List.mem_replicate.mp hx).2]
        exact k1
      · rw [e4, rep1]
        rfl
    · (repeat walk_at "rd")
      refine rd_lcR1 ?_
      (repeat walk_at "rd")
      refine ⟨n, fun i => V.int ((d1 + (2 * d3 + 1) * (i : Int) * (i : Int) + d2 * (i : Int)) % 256), rfl, ⟨by omega, by omega⟩, fun i hi H3 s3 => ?_, ?_⟩
      · (repeat walk_at "rd")
        refine rd_ixI (by walk_at "sq") (by decide) (by show _ < (4 : Int); decide) ?_
        (repeat walk_at "rd")
        refine rd_ixI (by walk_at "sq") (by decide) (by show _ < (4 : Int); decide) ?_
        (repeat walk_at "rd")
        refine rd_ixI (by walk_at "sq") (by decide) (by show _ < (4 : Int); decide) ?_
        (repeat walk_at "rd")
        exact (by walk_at "sm")
      · intro p3 H3 n3 s3 e3
        (repeat walk_at "rd")
        refine q ((List.range n.toNat).map fun (i : Nat) => (d1 + (2 * d3 + 1) * (i : Int) * (i : Int) + d2 * (i : Int)) % 256) (fun x hx => ?_) (by rw [List.length_map, List.length_range]) p3 H3 (by walk_at "nn") (by walk_at "sm") ?_
        · obtain ⟨i, _, rfl⟩ := List.mem_map.mp hx
          omega
        · rw [e3, List.map_map]
          rfl
def sp_u_law_is_bytes (K : PySem.W.Frag) : Sp := fun vs H Q _ => ∃ (a : Addr) (ns : List Int) (n : Int), vs = [.ref a, .int n] ∧ H a = some (.lst (ns.map V.int)) ∧ BytesOk ns ∧ (ns.length : Int) = n ∧ ns.length ≤ 100000 ∧ Q (.bl true) H
@[irreducible] def ip_u_law_is_bytes (K : PySem.W.Frag) : Sp := sp_u_law_is_bytes K
theorem op_u_law_is_bytes {K : PySem.W.Frag} {vs : List V} {H : Hp} {Q : VK} {E : XK} (h : sp_u_law_is_bytes K vs H Q E) : ip_u_law_is_bytes K vs H Q E := by
  unfold ip_u_law_is_bytes
  exact h
theorem un_u_law_is_bytes {K : PySem.W.Frag} {vs : List V} {H : Hp} {Q : VK} {E : XK} (h : ip_u_law_is_bytes K vs H Q E) : sp_u_law_is_bytes K vs H Q E := by
  unfold ip_u_law_is_bytes at h
  exact h
theorem ok_u_law_is_bytes (T : Tx P w K mg base) : FnOk P w K mg base CX0 1 T.a_u_law_is_bytes T.d_u_law_is_bytes ["value", "size"] (ip_u_law_is_bytes K) := by
  refine T.p_u_law_is_bytes.F.ok sc_u_law_is_bytes (fun vs H Q E h => ?_) (fun cdv A outer s H vs Q E hr h => ?_)
  · obtain ⟨a, ns, n, rfl, hS, hb, hl, hl2, q⟩ := un_u_law_is_bytes h
    rfl
  · obtain ⟨a, ns, n, rfl, hS, hb, hl, hl2, q⟩ := un_u_law_is_bytes h
    refine ⟨_, (pss_cons (ps_ifM (PW.pt (pw_orM (pt_not (pt_val (pe_callB call_isiM (by rfl) T.n_isinstance (by decide +kernel) (pa_cons (pv 0) (pa_cons (pe_bltn (v := .ty "list") rfl T.n_list (by decide +kernel) rfl) pa_nil))))) (pw_or1 (pt_cmpR op_ne (pe_callB call_lenM (by rfl) T.n_len PySem.boot_len (pa_cons (pv 0) pa_nil)) (pv 1) (nomark _))))) (pss_one (ps_ret pe_bl)) pss_nil) (pss_cons (ps_forL PassesOwn.never rfl (pv 0) (pg_name (i := 2) sc_u_law_is_bytes.nd rfl (Or.inl rfl)) (pss_one (ps_ifM (PW.pt (pw_orM (pt_not (pt_val (pe_callB call_isiM (by rfl) T.n_isinstance (by decide +kernel) (pa_cons (pv 2) (pa_cons (pe_bltn (v := .ty "int") rfl T.n_int (by decide +kernel) rfl) pa_nil))))) (pw_orM (pt_val (pe_callB call_isiM (by rfl) T.n_isinstance (by decide +kernel) (pa_cons (pv 2) (pa_cons (pe_bltn (v := .ty "bool") rfl T.n_bool (by decide +kernel) rfl) pa_nil)))) (pw_orM (pt_cmpR op_ltM (pv 2) pe_int (nomark _)) (pw_or1 (pt_cmpR op_gtM (pv 2) pe_int (nomark _))))))) (pss_one (ps_ret pe_bl)) pss_nil))) (pss_one (ps_ret pe_bl)))), ?_⟩
    (repeat walk_at "rd")
    refine rd_isiLL hS ?_
    (repeat walk_at "rd")
    refine br_ni hl ?_
    (repeat walk_at "rd")
    refine rd_forL ?_
    (repeat walk_at "rd")
    refine ⟨a, ns.map V.int, fun i σ H' => Stop (H' = H ∧ ∃ x, σ = [some (.ref a), some (.int n), x]), rfl, (by walk_at "sq"), .a ⟨rfl, _, rfl⟩, fun i σ' H' _ w => by rw [w.un.1]; exact (by walk_at "sq"), fun i y σ' H' hi w => ?_, fun σ' H' w => ?_⟩
    · obtain ⟨rfl, x, rfl⟩ := w.un
      rw [List.getElem?_map] at hi
      obtain ⟨k, hk, rfl⟩ := Option.map_eq_some_iff.mp hi
      have hb1 := hb k (List.mem_of_getElem? hk)
      (repeat walk_at "rd")
      refine br_f (by omega) ?_
      (repeat walk_at "rd")
      refine br_f (by omega) ?_
      (repeat walk_at "rd")
      exact .a ⟨rfl, _, rfl⟩
    · obtain ⟨rfl, x, rfl⟩ := w.un
      (repeat walk_at "rd")
      exact q
/-- a key, a bearer, a way and a count as a law makes them -/
def PartsOk (k b w c : Int) : Prop := (0 ≤ k ∧ k < 1000000000) ∧ (0 ≤ b ∧ b < 9) ∧ (0 ≤ w ∧ w < 2) ∧ (0 ≤ c ∧ c < 1000000000)
def sp_u_law_parts (K : PySem.W.Frag) : Sp := fun vs H Q _ => ∃ c : Int, vs = [.int c] ∧ ∀ k b w n, PartsOk k b w n → NewO (.tup [.int k, .int b, .int w, .int n]) H Q
theorem dig7 {a b c d e f g : Int} {ds : List Int} (h : DigOk [a, b, c, d, e, f, g] ds) : ∃ p q r s t u v, ds = [p, q, r, s, t, u, v] ∧ (0 ≤ p ∧ p < a) ∧ (0 ≤ q ∧ q < b) ∧ (0 ≤ r ∧ r < c) ∧ (0 ≤ s ∧ s < d) ∧ (0 ≤ t ∧ t < e) ∧ (0 ≤ u ∧ u < f) ∧ (0 ≤ v ∧ v < g) := by
  obtain ⟨p, _, rfl, h1, h⟩ := h.un
  obtain ⟨q, _, rfl, h2, h⟩ := h.un
  obtain ⟨r, _, rfl, h3, h⟩ := h.un
  obtain ⟨s, t, u, v, rfl, h4⟩ := dig4 h
  exact ⟨p, q, r, s, t, u, v, rfl, h1, h2, h3, h4⟩
@[irreducible] def ip_u_law_parts (K : PySem.W.Frag) : Sp := sp_u_law_parts K
theorem op_u_law_parts {K : PySem.W.Frag} {vs : List V} {H : Hp} {Q : VK} {E : XK} (h : sp_u_law_parts K vs H Q E) : ip_u_law_parts K vs H Q E := by
  unfold ip_u_law_parts
  exact h
theorem un_u_law_parts {K : PySem.W.Frag} {vs : List V} {H : Hp} {Q : VK} {E : XK} (h : ip_u_law_parts K vs H Q E) : sp_u_law_parts K vs H Q E := by
  unfold ip_u_law_parts at h
  exact h
theorem ok_u_law_parts (T : Tx P w K mg base) : FnOk P w K mg base CX0 2 T.a_u_law_parts T.d_u_law_parts ["cell"] (ip_u_law_parts K) := by
  have G_u_law_digits := ok_u_law_digits T
  refine T.p_u_law_parts.F.ok sc_u_law_parts (fun vs H Q E h => ?_) (fun cdv A outer s H vs Q E hr h => ?_)
  · obtain ⟨c, rfl, q⟩ := un_u_law_parts h
    rfl
  · obtain ⟨c, rfl, q⟩ := un_u_law_parts h
    refine ⟨_, (pss_cons (ps_set (i := 1) sc_u_law_parts.nd rfl (Or.inl rfl) (pe_call G_u_law_digits (hr.mono (by decide)) rfl T.p_u_law_digits.m T.p_u_law_digits.F.kp T.p_u_law_digits.b .nil pass0 (pa_cons (pv 0) (pa_cons (pe_lstM (pa_cons pe_int (pa_cons pe_int (pa_cons (pe_op op_powM pe_int pe_int) (pa_cons pe_int (pa_cons pe_int (pa_cons pe_int (pa_cons (pe_op op_powM pe_int pe_int) pa_nil)))))))) pa_nil)))) (pss_cons (ps_set (i := 2) sc_u_law_parts.nd rfl (Or.inl rfl) (pe_ix ix_listM (pv 1) pe_int (fun _ _ => rfl))) (pss_cons (ps_set (i := 3) sc_u_law_parts.nd rfl (Or.inl rfl) (pe_ix ix_listM (pv 1) pe_int (fun _ _ => rfl))) (pss_cons (ps_ifM (pt_cmpR op_eq (pe_ix ix_listM (pv 1) pe_int (fun _ _ => rfl)) pe_int (nomark _)) (pss_cons (ps_set (i := 2) sc_u_law_parts.nd rfl (Or.inl rfl) (pe_ix ix_listM (pv 1) pe_int (fun _ _ => rfl))) (pss_one (ps_set (i := 3) sc_u_law_parts.nd rfl (Or.inl rfl) (pe_ix ix_listM (pv 1) pe_int (fun _ _ => rfl))))) pss_nil) (pss_one (ps_ret (pe_tupM (pa_cons (pv 2) (pa_cons (pe_ix ix_listM (pv 1) pe_int (fun _ _ => rfl)) (pa_cons (pe_ix ix_listM (pv 1) pe_int (fun _ _ => rfl)) (pa_cons (pv 3) pa_nil))))))))))), ?_⟩
    (repeat walk_at "rd")
    intro t H1 n1 s1 e1
    (repeat walk_at "rd")
    refine op_u_law_digits ⟨c, t, [4, 200, 10 ^ (9 : Int).toNat, 9, 2, 300, 10 ^ (9 : Int).toNat], rfl, (by walk_at "sq"), (by decide), (by decide), fun ds hd p H2 n2 s2 e2 => ?_⟩
    obtain ⟨d0, d1, d2, d3, d4, d5, d6, rfl, k0, k1, k2, k3, k4, k5, k6⟩ := dig7 hd
    (repeat walk_at "rd")
    refine rd_ixI (by walk_at "sq") (by decide) (by show _ < (7 : Int); decide) ?_
    (repeat walk_at "rd")
    refine rd_ixI (by walk_at "sq") (by decide) (by show _ < (7 : Int); decide) ?_
    (repeat walk_at "rd")
    refine rd_ixI (by walk_at "sq") (by decide) (by show _ < (7 : Int); decide) ?_
    (repeat walk_at "rd")
    have hk6 : (10 : Int) ^ (9 : Int).toNat = 1000000000 := rfl
    rw [hk6] at k2 k6
    refine br_eby (fun h => ?_) (fun h => ?_)
    · (repeat walk_at "rd")
      refine rd_ixI (by walk_at "sq") (by decide) (by show _ < (7 : Int); decide) ?_
      (repeat walk_at "rd")
      refine rd_ixI (by walk_at "sq") (by decide) (by show _ < (7 : Int); decide) ?_
      (repeat walk_at "rd")
      refine rd_ixI (by walk_at "sq") (by decide) (by show _ < (7 : Int); decide) ?_
      (repeat walk_at "rd")
      refine rd_ixI (by walk_at "sq") (by decide) (by show _ < (7 : Int); decide) ?_
      (repeat walk_at "rd")
      intro t3 H3 n3 s3 e3
      exact q d2 d3 d4 d6 ⟨k2, k3, k4, k6⟩ t3 H3 (by walk_at "nn") (by walk_at "sm") e3
    · (repeat walk_at "rd")
      refine rd_ixI (by walk_at "sq") (by decide) (by show _ < (7 : Int); decide) ?_
      (repeat walk_at "rd")
      refine rd_ixI (by walk_at "sq") (by decide) (by show _ < (7 : Int); decide) ?_
      (repeat walk_at "rd")
      intro t3 H3 n3 s3 e3
      refine q d1 d3 d4 d5 ⟨?_, k3, k4, ?_⟩ t3 H3 (by walk_at "nn") (by walk_at "sm") e3
      · omega
      · omega
end
/-! covers: the row -/
def stF (s : Int) : Nat → Int
  | 0 => s
  | n + 1 => (48271 * stF s n + 11) % 2147483647
def st0 (k b w c : Int) : Int := (k * 48271 + b * 69621 + w * 40692 + c * 16807 + 1) % 2147483647
def rowF (s : Int) (n : Nat) : List Int := (List.range n).map fun k => stF s (k + 1) / 257 % 256
theorem rowF_len (s : Int) (n : Nat) : (rowF s n).length = n := by
  unfold rowF
  rw [List.length_map, List.length_range]
theorem rowF_ok (s : Int) (n : Nat) : ∀ x ∈ rowF s n, 0 ≤ x ∧ x < 256 := fun x hx => by
  obtain ⟨k, _, rfl⟩ := List.mem_map.mp hx
  omega
theorem rowF_succ (s : Int) (n : Nat) : rowF s (n + 1) = rowF s n ++ [stF s (n + 1) / 257 % 256] := by
  unfold rowF
  rw [List.range_succ, List.map_append]
  rfl
theorem rowF_take (s : Int) {n m : Nat} (h : m ≤ n) : (rowF s n).take m = rowF s m := by
  unfold rowF
  rw [← List.map_take, List.take_range, Nat.min_eq_left h]
section
variable {P : Program} {w : World} {K : PySem.W.Frag} {mg : Str → Option Value} {base : Heap}
def sp_row_of (K : PySem.W.Frag) : Sp := fun vs H Q _ => ∃ k b w c n : Int, vs = [.int k, .int b, .int w, .int c, .int n] ∧ 0 ≤ n ∧ n ≤ 10000 ∧ NewO (.lst ((rowF (st0 k b w c) n.toNat).map V.int)) H Q
@[irreducible] def ip_row_of (K : PySem.W.Frag) : Sp := sp_row_of K
theorem op_row_of {K : PySem.W.Frag} {vs : List V} {H : Hp} {Q : VK} {E : XK} (h : sp_row_of K vs H Q E) : ip_row_of K vs H Q E := by
  unfold ip_row_of
  exact h
theorem un_row_of {K : PySem.W.Frag} {vs : List V} {H : Hp} {Q : VK} {E : XK} (h : ip_row_of K vs H Q E) : sp_row_of K vs H Q E := by
  unfold ip_row_of at h
  exact h
theorem ok_row_of (T : Tx P w K mg base) : FnOk P w K mg base CX0 1 T.a_row_of T.d_row_of ["key", "bearer", "way", "count", "size"] (ip_row_of K) := by
  refine T.p_row_of.F.ok sc_row_of (fun vs H Q E h => ?_) (fun cdv A outer s H vs Q E hr h => ?_)
  · obtain ⟨k, b, w, c, n, rfl, h0, hn, q⟩ := un_row_of h
    rfl
  · obtain ⟨k, b, w, c, n, rfl, h0, hn, q⟩ := un_row_of h
    refine ⟨_, (pss_cons (ps_set (i := 5) sc_row_of.nd rfl (Or.inl rfl) (pe_op op_modM (pe_op op_addM (pe_op op_addM (pe_op op_addM (pe_op op_addM (pe_op op_mulM (pv 0) pe_int) (pe_op op_mulM (pv 1) pe_int)) (pe_op op_mulM (pv 2) pe_int)) (pe_op op_mulM (pv 3) pe_int)) pe_int) (pe_gint rfl T.g_MODULUS))) (pss_cons (ps_set (i := 6) sc_row_of.nd rfl (Or.inl rfl) (pe_lstM pa_nil)) (pss_cons (ps_forR1 PassesOwn.never rfl rfl T.n_range (pa_cons (pv 4) pa_nil) (pg_name (i := 7) sc_row_of.nd rfl (Or.inl rfl)) (pss_cons (ps_set (i := 5) sc_row_of.nd rfl (Or.inl rfl) (pe_op op_modM (pe_op op_addM (pe_op op_mulM pe_int (pv 5)) pe_int) (pe_gint rfl T.g_MODULUS))) (pss_one (ps_expr (pe_app (pv 6) (pe_op op_modM (pe_op op_fdivM (pv 5) pe_int) pe_int)))))) (pss_one (ps_ret (pv 6)))))), ?_⟩
    (repeat walk_at "rd")
    intro p H1 np s1 e1
    refine rd_forR1 ?_
    (repeat walk_at "rd")
    refine ⟨n, fun i σ H' => Stop (Same H H' ∧ H' p = some (.lst ((rowF (st0 k b w c) i).map V.int)) ∧ ∃ x, σ = [some (.int k), some (.int b), some (.int w), some (.int c), some (.int n), some (.int (stF (st0 k b w c) i)), some (.ref p), x]), rfl, ⟨by omega, by omega⟩, .a ⟨s1, e1, _, rfl⟩, fun i σ' H' hi w1 => ?_, fun σ' H' w1 => ?_⟩
    · obtain ⟨sm, ep, x, rfl⟩ := w1.un
      (repeat walk_at "rd")
      refine rd_app ep (by rw [List.length_map, rowF_len]; omega) ?_
      refine .a ⟨same_mut sm np, ?_, _, rfl⟩
      rw [upd_same, rowF_succ, List.map_append]
      rfl
    · obtain ⟨sm, ep, x, rfl⟩ := w1.un
      (repeat walk_at "rd")
      exact q p H' np sm ep
end
/-! bits of bytes -/
def xr (a b : Int) : Int := Builtin.bitXor a b
theorem xr_undo {a b : Int} (ha : 0 ≤ a) (hb : 0 ≤ b) : xr (xr a b) b = a := by
  unfold xr
  rw [Bits.bitXor_pp (Bits.bitXor_nonneg ha hb) hb, Bits.bitXor_pp ha hb, Int.toNat_natCast, Nat.xor_assoc, Nat.xor_self, Nat.xor_zero]
  omega
theorem xr_lt {a b : Int} (n : Nat) (ha : 0 ≤ a ∧ a < ((2 ^ n : Nat) : Int)) (hb : 0 ≤ b ∧ b < ((2 ^ n : Nat) : Int)) : 0 ≤ xr a b ∧ xr a b < ((2 ^ n : Nat) : Int) := by
  refine ⟨Bits.bitXor_nonneg ha.1 hb.1, ?_⟩
  unfold xr
  rw [Bits.bitXor_pp ha.1 hb.1]
  have h := @Nat.xor_lt_two_pow a.toNat b.toNat n (by omega) (by omega)
  omega
theorem xr_byte {a b : Int} (ha : 0 ≤ a ∧ a < 256) (hb : 0 ≤ b ∧ b < 256) : 0 ≤ xr a b ∧ xr a b < 256 := xr_lt 8 ha hb
theorem xr_inj {a b m : Int} (ha : 0 ≤ a) (hb : 0 ≤ b) (hm : 0 ≤ m) (h : xr a m = xr b m) : a = b := by
  rw [← xr_undo ha hm, h, xr_undo hb hm]
def markX (k b w c : Int) : Int := k % 64 * 1024 + b % 4 * 256 + w * 128 + c % 128
def markF (k b w c : Int) : Int := xr (markX k b w c) 23205
def markL (k b w c : Int) : List Int := [markF k b w c / 256, markF k b w c % 256]
def WayOk (w : Int) : Prop := 0 ≤ w ∧ w < 2
theorem markX_ok {k b w c : Int} (h : WayOk w) : 0 ≤ markX k b w c ∧ markX k b w c < 65536 := by
  unfold markX WayOk at *
  omega
theorem markF_ok {k b w c : Int} (h : WayOk w) : 0 ≤ markF k b w c ∧ markF k b w c < 65536 := xr_lt 16 (markX_ok h) (by decide)
theorem markL_ok {k b w c : Int} (h : WayOk w) : ∀ x ∈ markL k b w c, 0 ≤ x ∧ x < 256 := fun x hx => by
  have := @markF_ok k b w c h
  unfold markL at hx
  rcases List.mem_cons.mp hx with e | hx
  · omega
  · have e := List.mem_singleton.mp hx
    omega
def SameMark (k b w c k' b' w' c' : Int) : Prop := k % 64 = k' % 64 ∧ b % 4 = b' % 4 ∧ w = w' ∧ c % 128 = c' % 128
theorem markL_same {k b w c k' b' w' c' : Int} (h : WayOk w) (h' : WayOk w') : markL k b w c = markL k' b' w' c' ↔ SameMark k b w c k' b' w' c' := by
  constructor
  · intro e
    unfold markL at e
    obtain ⟨e1, e2⟩ := List.cons.inj e
    have e3 := (List.cons.inj e2).1
    have em : markF k b w c = markF k' b' w' c' := by omega
    have ex := xr_inj (markX_ok h).1 (markX_ok h').1 (by decide) em
    unfold markX WayOk SameMark at *
    omega
  · rintro ⟨e1, e2, e3, e4⟩
    unfold markL markF markX
    rw [e1, e2, e3, e4]
def withRow (ns ms : List Int) : List Int := (List.range ns.length).map fun i => xr (ns.getD i 0) (ms.getD i 0)
theorem withRow_len (ns ms : List Int) : (withRow ns ms).length = ns.length := by
  unfold withRow
  rw [List.length_map, List.length_range]
theorem getD_ok {ns : List Int} (h : ∀ x ∈ ns, 0 ≤ x ∧ x < 256) (i : Nat) : 0 ≤ ns.getD i 0 ∧ ns.getD i 0 < 256 := by
  rw [List.getD_eq_getElem?_getD]
  cases e : ns[i]? with
  | none => exact ⟨Int.le_refl 0, by decide⟩
  | some x => exact h x (List.mem_of_getElem? e)
theorem withRow_ok {ns ms : List Int} (h : ∀ x ∈ ns, 0 ≤ x ∧ x < 256) (k : ∀ x ∈ ms, 0 ≤ x ∧ x < 256) : ∀ x ∈ withRow ns ms, 0 ≤ x ∧ x < 256 := fun x hx => by
  obtain ⟨i, _, rfl⟩ := List.mem_map.mp hx
  exact xr_byte (getD_ok h i) (getD_ok k i)
theorem withRow_getD {ns ms : List Int} {i : Nat} (h : i < ns.length) : (withRow ns ms).getD i 0 = xr (ns.getD i 0) (ms.getD i 0) := by
  unfold withRow
  rw [List.getD_eq_getElem?_getD, List.getElem?_map, List.getElem?_range h]
  rfl
theorem list_getD {ns ms : List Int} (hl : ns.length = ms.length) (h : ∀ i, i < ns.length → ns.getD i 0 = ms.getD i 0) : ns = ms := by
  apply List.ext_getElem?
  intro i
  by_cases hi : i < ns.length
  · have := h i hi
    rw [List.getD_eq_getElem?_getD, List.getD_eq_getElem?_getD, List.getElem?_eq_getElem hi, List.getElem?_eq_getElem (by omega)] at this
    rw [List.getElem?_eq_getElem hi, List.getElem?_eq_getElem (by omega)]
    exact congrArg some this
  · rw [List.getElem?_eq_none (by omega), List.getElem?_eq_none (by omega)]
theorem withRow_undo {ns ms : List Int} (h : ∀ x ∈ ns, 0 ≤ x ∧ x < 256) (k : ∀ x ∈ ms, 0 ≤ x ∧ x < 256) : withRow (withRow ns ms) ms = ns := by
  refine list_getD (by rw [withRow_len, withRow_len]) fun i hi => ?_
  rw [withRow_len, withRow_len] at hi
  rw [withRow_getD (by rw [withRow_len]; exact hi), withRow_getD hi, xr_undo (getD_ok h i).1 (getD_ok k i).1]
/-- a covered packet; what uncovering gives -/
def covF (k b w c : Int) (ns : List Int) : List Int := withRow ns (rowF (st0 k b w c) ns.length) ++ markL k b w c ++ [ns.sum % 256]
def uncF (k b w c : Int) (cs : List Int) : Option (List Int) :=
  if cs.length < 3 then none
  else if (cs.drop (cs.length - 3)).take 2 = markL k b w c then
    (if cs.getD (cs.length - 1) 0 = (withRow (cs.take (cs.length - 3)) (rowF (st0 k b w c) (cs.length - 3))).sum % 256 then some (withRow (cs.take (cs.length - 3)) (rowF (st0 k b w c) (cs.length - 3))) else none)
  else none
theorem covF_len (k b w c : Int) (ns : List Int) : (covF k b w c ns).length = ns.length + 3 := by
  unfold covF markL
  rw [List.length_append, List.length_append, withRow_len]
  rfl
theorem covF_ok {k b w c : Int} {ns : List Int} (hw : WayOk w) (h : ∀ x ∈ ns, 0 ≤ x ∧ x < 256) : ∀ x ∈ covF k b w c ns, 0 ≤ x ∧ x < 256 := fun x hx => by
  unfold covF at hx
  rcases List.mem_append.mp hx with hx | hx
  · rcases List.mem_append.mp hx with hx | hx
    · exact withRow_ok h (rowF_ok _ _) x hx
    · exact markL_ok hw x hx
  · have e := List.mem_singleton.mp hx
    omega
theorem covF_take (k b w c : Int) (ns : List Int) : (covF k b w c ns).take ns.length = withRow ns (rowF (st0 k b w c) ns.length) := by
  unfold covF
  rw [List.append_assoc, List.take_append_of_le_length (by rw [withRow_len]; exact Nat.le_refl _), List.take_of_length_le (by rw [withRow_len]; exact Nat.le_refl _)]
theorem covF_drop (k b w c : Int) (ns : List Int) : (covF k b w c ns).drop ns.length = markL k b w c ++ [ns.sum % 256] := by
  unfold covF
  rw [List.append_assoc, List.drop_append, List.drop_of_length_le (by rw [withRow_len]; exact Nat.le_refl _), withRow_len, Nat.sub_self, List.drop_zero]
  rfl
theorem covF_last (k b w c : Int) (ns : List Int) : (covF k b w c ns).getD (ns.length + 2) 0 = ns.sum % 256 := by
  have e := covF_drop k b w c ns
  have e2 : ((covF k b w c ns).drop ns.length)[2]? = some (ns.sum % 256) := by rw [e]; rfl
  rw [List.getElem?_drop] at e2
  rw [List.getD_eq_getElem?_getD, e2]
  rfl
theorem unc_cov {k b w c : Int} {ns : List Int} (h : ∀ x ∈ ns, 0 ≤ x ∧ x < 256) : uncF k b w c (covF k b w c ns) = some ns := by
  unfold uncF
  have e3 : ns.length + 3 - 3 = ns.length := by omega
  have e1 : ns.length + 3 - 1 = ns.length + 2 := by omega
  rw [covF_len, if_neg (by omega), e3, e1, covF_drop, if_pos (by unfold markL; rfl), covF_take, withRow_undo h (rowF_ok _ _), covF_last, if_pos rfl]
theorem unc_other {k b w c k' b' w' c' : Int} {ns : List Int} (hw : WayOk w) (hw' : WayOk w') (n : ¬ SameMark k b w c k' b' w' c') : uncF k' b' w' c' (covF k b w c ns) = none := by
  unfold uncF
  have e3 : ns.length + 3 - 3 = ns.length := by omega
  rw [covF_len, if_neg (by omega), e3, covF_drop, if_neg]
  intro e
  exact n ((markL_same hw hw').mp e)
section
variable {P : Program} {w : World} {K : PySem.W.Frag} {mg : Str → Option Value} {base : Heap}
def sp_mark_of (K : PySem.W.Frag) : Sp := fun vs H Q _ => ∃ k b w c : Int, vs = [.int k, .int b, .int w, .int c] ∧ NewO (.lst ((markL k b w c).map V.int)) H Q
@[irreducible] def ip_mark_of (K : PySem.W.Frag) : Sp := sp_mark_of K
theorem op_mark_of {K : PySem.W.Frag} {vs : List V} {H : Hp} {Q : VK} {E : XK} (h : sp_mark_of K vs H Q E) : ip_mark_of K vs H Q E := by
  unfold ip_mark_of
  exact h
theorem un_mark_of {K : PySem.W.Frag} {vs : List V} {H : Hp} {Q : VK} {E : XK} (h : ip_mark_of K vs H Q E) : sp_mark_of K vs H Q E := by
  unfold ip_mark_of at h
  exact h
theorem ok_mark_of (T : Tx P w K mg base) : FnOk P w K mg base CX0 1 T.a_mark_of T.d_mark_of ["key", "bearer", "way", "count"] (ip_mark_of K) := by
  refine T.p_mark_of.F.ok sc_mark_of (fun vs H Q E h => ?_) (fun cdv A outer s H vs Q E hr h => ?_)
  · obtain ⟨k, b, w, c, rfl, q⟩ := un_mark_of h
    rfl
  · obtain ⟨k, b, w, c, rfl, q⟩ := un_mark_of h
    refine ⟨_, (pss_cons (ps_set (i := 4) sc_mark_of.nd rfl (Or.inl rfl) (pe_op op_bxorM (pe_op op_addM (pe_op op_addM (pe_op op_addM (pe_op op_mulM (pe_op op_modM (pv 0) pe_int) pe_int) (pe_op op_mulM (pe_op op_modM (pv 1) pe_int) pe_int)) (pe_op op_mulM (pv 2) pe_int)) (pe_op op_modM (pv 3) pe_int)) (pe_gint rfl T.g_MARK_MASK))) (pss_one (ps_ret (pe_lstM (pa_cons (pe_op op_fdivM (pv 4) pe_int) (pa_cons (pe_op op_modM (pv 4) pe_int) pa_nil)))))), ?_⟩
    (repeat walk_at "rd")
    exact q
def sp_u_with_row (K : PySem.W.Frag) : Sp := fun vs H Q _ => ∃ (a d : Addr) (ms ns : List Int), vs = [.ref a, .ref d] ∧ SqL K H a (ms.map V.int) ∧ SqL K H d (ns.map V.int) ∧ ms.length = ns.length ∧ ns.length ≤ 10000 ∧ NewO (.lst ((withRow ns ms).map V.int)) H Q
theorem filt_true {n : Nat} : (List.range n).filter (fun _ => true) = List.range n := List.filter_eq_self.mpr fun _ _ => rfl
@[irreducible] def ip_u_with_row (K : PySem.W.Frag) : Sp := sp_u_with_row K
theorem op_u_with_row {K : PySem.W.Frag} {vs : List V} {H : Hp} {Q : VK} {E : XK} (h : sp_u_with_row K vs H Q E) : ip_u_with_row K vs H Q E := by
  unfold ip_u_with_row
  exact h
theorem un_u_with_row {K : PySem.W.Frag} {vs : List V} {H : Hp} {Q : VK} {E : XK} (h : ip_u_with_row K vs H Q E) : sp_u_with_row K vs H Q E := by
  unfold ip_u_with_row at h
  exact h
theorem ok_u_with_row (T : Tx P w K mg base) : FnOk P w K mg base CX0 1 T.a_u_with_row T.d_u_with_row ["row", "packet"] (ip_u_with_row K) := by
  refine T.p_u_with_row.F.ok sc_u_with_row (fun vs H Q E h => ?_) (fun cdv A outer s H vs Q E hr h => ?_)
  · obtain ⟨a, d, ms, ns, rfl, hM, hN, hl, hn, q⟩ := un_u_with_row h
    rfl
  · obtain ⟨a, d, ms, ns, rfl, hM, hN, hl, hn, q⟩ := un_u_with_row h
    refine ⟨_, (pss_one (ps_ret (pe_lcP (own := [("one", 2), ("other", 3)]) (g := (gTup K 2 (gCons (gName 2) (gCons (gName 3) gNil)))) [2, 3] im_zip rfl sc_u_with_row.nd (pi_zip (by rfl) T.n_zip (pa_c (pa_cons (pv 1) (pa_cons (pv 0) pa_nil)))) (blkOk_by (own := [("one", 2), ("other", 3)]) (N := ["row", "packet", "one", "other"]) (sc := defScope S_u_with_row) (by decide +kernel)) (fun _ _ _ _ _ => (pg_tup rfl (pgs_cons (pg_name (i := 2) sc_u_with_row.nd rfl (Or.inl rfl)) (pgs_cons (pg_name (i := 3) sc_u_with_row.nd rfl (Or.inl rfl)) pgs_nil)))) (fun _ _ _ _ _ => pts_nil) (fun _ _ _ _ _ => (pe_op op_bxorM (pv 2) (pv 3)))))), ?_⟩
    refine rd_lcP ?_
    (repeat walk_at "rd")
    refine ⟨_, _, _, _, rfl, hN, hM, ?_⟩
    refine ⟨ns.length, _, _, fun _ => true, fun i => V.int (xr (ns.getD i 0) (ms.getD i 0)), walk_zip (by rw [List.length_map, List.length_map]; omega), by omega, fun H' s => ⟨s.seq hN, s.seq hM⟩, fun D hD i x H' H'' hi p y => ?_, ?_⟩
    · obtain ⟨t, x1, x2, rfl, hT, rfl, h1, h2⟩ := y
      dsimp only at h1 h2
      rw [List.getElem?_map] at h1 h2
      obtain ⟨k1, hk1, rfl⟩ := Option.map_eq_some_iff.mp h1
      obtain ⟨k2, hk2, rfl⟩ := Option.map_eq_some_iff.mp h2
      refine ⟨t, _, rfl, st_of upd_same, rfl, _, _, rfl, _, _, rfl, rfl, wipe2 (by decide), ?_⟩
      (repeat walk_at "rd")
      refine p.put hD (by omega) (same_upd hT) rfl ?_
      rw [List.getD_eq_getElem?_getD, List.getD_eq_getElem?_getD, hk1, hk2]
      rfl
    · intro p1 H1 n1 s1 e1
      refine q p1 H1 n1 s1 ?_
      rw [e1, filt_true]
      unfold withRow
      rw [List.map_map]
      rfl
def sp_cover (K : PySem.W.Frag) : Sp := fun vs H Q _ => ∃ (k b w c : Int) (a : Addr) (ns : List Int), vs = [.int k, .int b, .int w, .int c, .ref a] ∧ SqL K H a (ns.map V.int) ∧ ns.length ≤ 5000 ∧ NewO (.lst ((covF k b w c ns).map V.int)) H Q
@[irreducible] def ip_cover (K : PySem.W.Frag) : Sp := sp_cover K
theorem op_cover {K : PySem.W.Frag} {vs : List V} {H : Hp} {Q : VK} {E : XK} (h : sp_cover K vs H Q E) : ip_cover K vs H Q E := by
  unfold ip_cover
  exact h
theorem un_cover {K : PySem.W.Frag} {vs : List V} {H : Hp} {Q : VK} {E : XK} (h : ip_cover K vs H Q E) : sp_cover K vs H Q E := by
  unfold ip_cover at h
  exact h
theorem ok_cover (T : Tx P w K mg base) : FnOk P w K mg base CX0 2 T.a_cover T.d_cover ["key", "bearer", "way", "count", "packet"] (ip_cover K) := by
  have G_row_of := ok_row_of T
  have G_u_with_row := ok_u_with_row T
  have G_mark_of := ok_mark_of T
  refine T.p_cover.F.ok sc_cover (fun vs H Q E h => ?_) (fun cdv A outer s H vs Q E hr h => ?_)
  · obtain ⟨k, b, w, c, a, ns, rfl, hS, hn, q⟩ := un_cover h
    rfl
  · obtain ⟨k, b, w, c, a, ns, rfl, hS, hn, q⟩ := un_cover h
    refine ⟨_, (pss_cons (ps_set (i := 5) sc_cover.nd rfl (Or.inl rfl) (pe_call G_row_of (hr.mono (by decide)) rfl T.p_row_of.m T.p_row_of.F.kp T.p_row_of.b .nil pass0 (pa_cons (pv 0) (pa_cons (pv 1) (pa_cons (pv 2) (pa_cons (pv 3) (pa_cons (pe_callB call_lenM (by rfl) T.n_len PySem.boot_len (pa_cons (pv 4) pa_nil)) pa_nil))))))) (pss_one (ps_ret (pe_op op_catM (pe_op op_catM (pe_call G_u_with_row (hr.mono (by decide)) rfl T.p_u_with_row.m T.p_u_with_row.F.kp T.p_u_with_row.b .nil pass0 (pa_cons (pv 5) (pa_cons (pv 4) pa_nil))) (pe_call G_mark_of (hr.mono (by decide)) rfl T.p_mark_of.m T.p_mark_of.F.kp T.p_mark_of.b .nil pass0 (pa_cons (pv 0) (pa_cons (pv 1) (pa_cons (pv 2) (pa_cons (pv 3) pa_nil)))))) (pe_lstM (pa_cons (pe_op op_modM (pe_callB (call_sumM rfl) (by rfl) T.n_sum (by decide +kernel) (pa_cons (pv 4) pa_nil)) pe_int) pa_nil)))))), ?_⟩
    (repeat walk_at "rd")
    refine op_row_of ⟨k, b, w, c, _, rfl, by omega, by omega, fun p1 H1 n1 s1 e1 => ?_⟩
    (repeat walk_at "rd")
    refine op_u_with_row ⟨p1, a, _, ns, rfl, (by walk_at "sq"), (by walk_at "sq"), by rw [rowF_len]; omega, by omega, fun p2 H2 n2 s2 e2 => ?_⟩
    (repeat walk_at "rd")
    refine op_mark_of ⟨k, b, w, c, rfl, fun p3 H3 n3 s3 e3 => ?_⟩
    (repeat walk_at "rd")
    refine rd_cat (by walk_at "hp") (by walk_at "hp") (by rw [List.length_map, List.length_map, withRow_len]; show _ + 2 ≤ _; omega) ?_
    intro p4 H4 n4 s4 e4
    (repeat walk_at "rd")
    intro p5 H5 n5 s5 e5
    (repeat walk_at "rd")
    refine rd_cat (by walk_at "hp") (by walk_at "hp") (by rw [List.length_append, List.length_map, List.length_map, withRow_len]; show _ + 2 + 1 ≤ _; omega) ?_
    intro p6 H6 n6 s6 e6
    refine q p6 H6 (by walk_at "nn") (by walk_at "sm") ?_
    rw [e6, Int.toNat_natCast]
    unfold covF
    rw [List.map_append, List.map_append]
    rfl
def sp_uncover (K : PySem.W.Frag) : Sp := fun vs H Q _ => ∃ (k b w c : Int) (a : Addr) (cs : List Int), vs = [.int k, .int b, .int w, .int c, .ref a] ∧ SqL K H a (cs.map V.int) ∧ cs.length ≤ 5000 ∧ (uncF k b w c cs = none → ∀ H', Same H H' → Q .non H') ∧ ∀ ns, uncF k b w c cs = some ns → NewO (.lst (ns.map V.int)) H Q
@[irreducible] def ip_uncover (K : PySem.W.Frag) : Sp := sp_uncover K
theorem op_uncover {K : PySem.W.Frag} {vs : List V} {H : Hp} {Q : VK} {E : XK} (h : sp_uncover K vs H Q E) : ip_uncover K vs H Q E := by
  unfold ip_uncover
  exact h
theorem un_uncover {K : PySem.W.Frag} {vs : List V} {H : Hp} {Q : VK} {E : XK} (h : ip_uncover K vs H Q E) : sp_uncover K vs H Q E := by
  unfold ip_uncover at h
  exact h
theorem ok_uncover (T : Tx P w K mg base) : FnOk P w K mg base CX0 2 T.a_uncover T.d_uncover ["key", "bearer", "way", "count", "covered"] (ip_uncover K) := by
  have G_u_with_row := ok_u_with_row T
  have G_row_of := ok_row_of T
  have G_mark_of := ok_mark_of T
  refine T.p_uncover.F.ok sc_uncover (fun vs H Q E h => ?_) (fun cdv A outer s H vs Q E hr h => ?_)
  · obtain ⟨k, b, w, c, a, cs, rfl, hS, hn, q1, q2⟩ := un_uncover h
    rfl
  · obtain ⟨k, b, w, c, a, cs, rfl, hS, hn, q1, q2⟩ := un_uncover h
    refine ⟨_, (pss_cons (ps_set (i := 5) sc_uncover.nd rfl (Or.inl rfl) (pe_op op_subM (pe_callB call_lenM (by rfl) T.n_len PySem.boot_len (pa_cons (pv 4) pa_nil)) (pe_gint rfl T.g_TAIL_BYTES))) (pss_cons (ps_ifM (PW.pt (pw_orM (pt_cmpR op_ltM (pv 5) pe_int (nomark _)) (pw_or1 (pt_cmpR (op_neDM hr.units) (pe_slice sl_listM (pv 4) (po_some (pv 5)) (po_some (pe_un un_neg pe_int))) (pe_call G_mark_of (hr.mono (by decide)) rfl T.p_mark_of.m T.p_mark_of.F.kp T.p_mark_of.b .nil pass0 (pa_cons (pv 0) (pa_cons (pv 1) (pa_cons (pv 2) (pa_cons (pv 3) pa_nil))))) (nomark _))))) (pss_one (ps_ret pe_non)) pss_nil) (pss_cons (ps_set (i := 6) sc_uncover.nd rfl (Or.inl rfl) (pe_call G_u_with_row (hr.mono (by decide)) rfl T.p_u_with_row.m T.p_u_with_row.F.kp T.p_u_with_row.b .nil pass0 (pa_cons (pe_call G_row_of (hr.mono (by decide)) rfl T.p_row_of.m T.p_row_of.F.kp T.p_row_of.b .nil pass0 (pa_cons (pv 0) (pa_cons (pv 1) (pa_cons (pv 2) (pa_cons (pv 3) (pa_cons (pv 5) pa_nil)))))) (pa_cons (pe_slice sl_listM (pv 4) po_none (po_some (pv 5))) pa_nil)))) (pss_cons (ps_ifM (pt_cmpR op_ne (pe_ix ix_listM (pv 4) (pe_un un_neg pe_int) (fun _ _ => rfl)) (pe_op op_modM (pe_callB (call_sumM rfl) (by rfl) T.n_sum (by decide +kernel) (pa_cons (pv 6) pa_nil)) pe_int) (nomark _)) (pss_one (ps_ret pe_non)) pss_nil) (pss_one (ps_ret (pv 6))))))), ?_⟩
    (repeat walk_at "rd")
    refine br_by (fun h => ?_) (fun h => ?_)
    · (repeat walk_at "rd")
      refine q1 ?_ _ (Same.refl _)
      unfold uncF
      rw [if_pos (by omega)]
    · have e3 : ((cs.length : Int) - 3).toNat = cs.length - 3 := by omega
      (repeat walk_at "rd")
      refine rd_sl (by walk_at "sq") ?_
      intro p1 H1 n1 s1 e1
      (repeat walk_at "rd")
      refine op_mark_of ⟨k, b, w, c, rfl, fun p2 H2 n2 s2 e2 => ?_⟩
      (repeat walk_at "rd")
      rw [cutX_butLast (by omega), List.length_map, e3, ← List.map_drop, ← List.map_take] at e1
      have e2' : cs.length - 1 - (cs.length - 3) = 2 := by omega
      rw [e2'] at e1
      refine rd_neI (by walk_at "sq") (by walk_at "sq") ?_
      (repeat walk_at "rd")
      refine br_nby (fun hm => ?_) (fun hm => ?_)
      · (repeat walk_at "rd")
        refine q1 ?_ _ (by walk_at "sm")
        unfold uncF
        rw [if_neg (by omega), if_neg hm]
      · (repeat walk_at "rd")
        refine op_row_of ⟨k, b, w, c, _, rfl, by omega, by omega, fun p3 H3 n3 s3 e4 => ?_⟩
        (repeat walk_at "rd")
        refine rd_sl (by walk_at "sq") ?_
        intro p4 H4 n4 s4 e5
        rw [cutX_to (by omega), e3, ← List.map_take] at e5
        rw [e3] at e4
        (repeat walk_at "rd")
        refine op_u_with_row ⟨p3, p4, _, _, rfl, (by walk_at "sq"), (by walk_at "sq"), by rw [rowF_len, List.length_take]; omega, by rw [List.length_take]; omega, fun p5 H5 n5 s5 e6 => ?_⟩
        have el : cs.getD (cs.length - 1) 0 = (withRow (cs.take (cs.length - 3)) (rowF (st0 k b w c) (cs.length - 3))).sum % 256 → uncF k b w c cs = some (withRow (cs.take (cs.length - 3)) (rowF (st0 k b w c) (cs.length - 3))) := fun z => by
          unfold uncF
          rw [if_neg (by omega), if_pos hm, if_pos z]
        have en : ¬ cs.getD (cs.length - 1) 0 = (withRow (cs.take (cs.length - 3)) (rowF (st0 k b w c) (cs.length - 3))).sum % 256 → uncF k b w c cs = none := fun z => by
          unfold uncF
          rw [if_neg (by omega), if_pos hm, if_neg z]
        have hat : atI (cs.map V.int) (-1) = some (.int (cs.getD (cs.length - 1) 0)) := at_last (by omega)
        (repeat walk_at "rd")
        refine rd_ixL (by walk_at "sq") hat ?_
        (repeat walk_at "rd")
        refine br_enby (fun hz => ?_) (fun hz => ?_)
        · (repeat walk_at "rd")
          exact q1 (en hz) _ (by walk_at "sm")
        · (repeat walk_at "rd")
          exact q2 _ (el hz) _ _ (by walk_at "nn") (by walk_at "sm") e6
end
theorem set_getD (xs : List Int) {j : Nat} (v : Int) (i : Nat) (h : j < xs.length) : (xs.set j v).getD i 0 = if i = j then v else xs.getD i 0 := by
  rw [List.getD_eq_getElem?_getD, List.getElem?_set, List.getD_eq_getElem?_getD]
  by_cases e : j = i
  · subst e
    rw [if_pos rfl, if_pos h, if_pos rfl]
    rfl
  · rw [if_neg e, if_neg (Ne.symm e)]
theorem set_sum : ∀ (xs : List Int) (j : Nat) (v : Int), j < xs.length → (xs.set j v).sum = xs.sum - xs.getD j 0 + v
  | [], j, v, h => by cases h
  | x :: r, 0, v, _ => by
    show v + r.sum = x + r.sum - x + v
    omega
  | x :: r, j + 1, v, h => by
    have e := set_sum r j v (Nat.lt_of_succ_lt_succ h)
    show x + (r.set j v).sum = x + r.sum - (r.getD j 0) + v
    omega
theorem withRow_set {xs ms : List Int} {j : Nat} {v : Int} (h : j < xs.length) : withRow (xs.set j v) ms = (withRow xs ms).set j (xr v (ms.getD j 0)) := by
  refine list_getD (by rw [withRow_len, List.length_set, List.length_set, withRow_len]) fun i hi => ?_
  rw [withRow_len, List.length_set] at hi
  rw [withRow_getD (by rw [List.length_set]; exact hi), set_getD _ _ _ h, set_getD _ _ _ (by rw [withRow_len]; exact h)]
  by_cases e : i = j
  · subst e
    rw [if_pos rfl, if_pos rfl]
  · rw [if_neg e, if_neg e, withRow_getD hi]
theorem xr_ne {x m : Int} (hx : 0 ≤ x) (hm : 0 < m) : xr x m ≠ x := fun e => by
  unfold xr at e
  rw [Bits.bitXor_pp hx (Int.le_of_lt hm)] at e
  have e1 : x.toNat ^^^ m.toNat = x.toNat := by omega
  have e2 : x.toNat ^^^ (x.toNat ^^^ m.toNat) = x.toNat ^^^ x.toNat := by rw [e1]
  rw [← Nat.xor_assoc, Nat.xor_self, Nat.zero_xor] at e2
  omega
theorem take_getD (xs : List Int) (n i : Nat) (h : i < n) : (xs.take n).getD i 0 = xs.getD i 0 := by
  rw [List.getD_eq_getElem?_getD, List.getElem?_take, if_pos h, List.getD_eq_getElem?_getD]
theorem drop_getD (xs : List Int) (n i : Nat) : (xs.drop n).getD i 0 = xs.getD (n + i) 0 := by
  rw [List.getD_eq_getElem?_getD, List.getElem?_drop, List.getD_eq_getElem?_getD]
theorem unc_changed {k b w c : Int} {ns : List Int} {j : Nat} {v : Int} (hw : WayOk w) (hb : ∀ x ∈ ns, 0 ≤ x ∧ x < 256) (hj : j < ns.length + 3) (hv : 0 ≤ v ∧ v < 256) (hne : v ≠ (covF k b w c ns).getD j 0) : uncF k b w c ((covF k b w c ns).set j v) = none := by
  have hlen := covF_len k b w c ns
  have hdrop := covF_drop k b w c ns
  have hlast := covF_last k b w c ns
  have htake := covF_take k b w c ns
  have hund := withRow_undo hb (rowF_ok (st0 k b w c) ns.length)
  generalize covF k b w c ns = cs at *
  have g0 : cs.getD ns.length 0 = (markL k b w c).getD 0 0 := by
    have := drop_getD cs ns.length 0
    rw [hdrop] at this
    exact this.symm
  have g1 : cs.getD (ns.length + 1) 0 = (markL k b w c).getD 1 0 := by
    have := drop_getD cs ns.length 1
    rw [hdrop] at this
    exact this.symm
  unfold uncF
  rw [List.length_set, hlen, if_neg (by omega)]
  have e3 : ns.length + 3 - 3 = ns.length := by omega
  have e1 : ns.length + 3 - 1 = ns.length + 2 := by omega
  rw [e3, e1]
  by_cases hm : ((cs.set j v).drop ns.length).take 2 = markL k b w c
  · rw [if_pos hm]
    have m0 : ((cs.set j v).drop ns.length).getD 0 0 = (markL k b w c).getD 0 0 := by rw [← hm, take_getD _ _ _ (by decide)]
    have m1 : ((cs.set j v).drop ns.length).getD 1 0 = (markL k b w c).getD 1 0 := by rw [← hm, take_getD _ _ _ (by decide)]
    rw [drop_getD, set_getD _ _ _ (by omega)] at m0 m1
    have hj0 : ns.length ≠ j := fun e => by
      subst e
      rw [Nat.add_zero, if_pos rfl, ← g0] at m0
      exact hne m0
    have hj1 : ns.length + 1 ≠ j := fun e => by
      subst e
      rw [if_pos rfl, ← g1] at m1
      exact hne m1
    rw [if_neg]
    rw [set_getD _ _ _ (by omega)]
    by_cases h2 : j < ns.length
    · rw [if_neg (by omega), hlast]
      have et : (cs.set j v).take ns.length = (cs.take ns.length).set j v := by
        rw [List.take_set]
      rw [et, withRow_set (by rw [List.length_take]; omega), htake, hund, set_sum _ _ _ h2]
      have hr := getD_ok (rowF_ok (st0 k b w c) ns.length) j
      have hu := xr_byte hv hr
      have ho := getD_ok hb j
      have hn2 : xr v ((rowF (st0 k b w c) ns.length).getD j 0) ≠ ns.getD j 0 := fun e => by
        have z := xr_undo hv.1 hr.1
        rw [e] at z
        have y := take_getD cs ns.length j h2
        rw [htake, withRow_getD h2, z] at y
        exact hne y
      omega
    · have e4 : j = ns.length + 2 := by omega
      subst e4
      rw [if_pos rfl]
      have et : (cs.set (ns.length + 2) v).take ns.length = cs.take ns.length := by
        rw [List.take_set_of_le (by omega)]
      rw [et, htake, hund, ← hlast]
      exact hne
  · rw [if_neg hm]
section
variable {P : Program} {w : World} {K : PySem.W.Frag} {mg : Str → Option Value} {base : Heap}
def sp_law (K : PySem.W.Frag) : Sp := fun vs H Q _ => ∃ (a : Addr) (ns : List Int), vs = [.ref a] ∧ SqL K H a (ns.map V.int) ∧ ns.length ≤ 63 ∧ ∀ H', Q (.bl true) H'
@[irreducible] def ip_law (K : PySem.W.Frag) : Sp := sp_law K
theorem op_law {K : PySem.W.Frag} {vs : List V} {H : Hp} {Q : VK} {E : XK} (h : sp_law K vs H Q E) : ip_law K vs H Q E := by
  unfold ip_law
  exact h
theorem un_law {K : PySem.W.Frag} {vs : List V} {H : Hp} {Q : VK} {E : XK} (h : ip_law K vs H Q E) : sp_law K vs H Q E := by
  unfold ip_law at h
  exact h
theorem ok_law (T : Tx P w K mg base) : FnOk P w K mg base CX0 3 T.a_law T.d_law ["script"] (ip_law K) := by
  have G_u_law_parts := ok_u_law_parts T
  have G_u_law_bytes := ok_u_law_bytes T
  have G_cover := ok_cover T
  have G_u_law_digits := ok_u_law_digits T
  have G_u_law_cell := ok_u_law_cell T
  have G_uncover := ok_uncover T
  refine T.p_law.F.ok sc_law (fun vs H Q E h => ?_) (fun cdv A outer s H vs Q E hr h => ?_)
  · obtain ⟨a, ns, rfl, hS, hlen, q⟩ := un_law h
    rfl
  · obtain ⟨a, ns, rfl, hS, hlen, q⟩ := un_law h
    refine ⟨_, (pss_cons (ps_forR1 PassesOwn.never rfl rfl T.n_range (pa_cons (pe_op op_addM pe_int (pe_callB (call_min2 rfl) (by rfl) T.n_min (by decide +kernel) (pa_cons (pe_callB call_lenM (by rfl) T.n_len PySem.boot_len (pa_cons (pv 0) pa_nil)) (pa_cons pe_int pa_nil)))) pa_nil) (pg_name (i := 1) sc_law.nd rfl (Or.inl rfl)) (pss_cons (ps_asg (pe_call G_u_law_parts (hr.mono (by decide)) rfl T.p_u_law_parts.m T.p_u_law_parts.F.kp T.p_u_law_parts.b .nil pass0 (pa_cons (pe_op op_addM (pe_call G_u_law_cell (hr.mono (by decide)) rfl T.p_u_law_cell.m T.p_u_law_cell.F.kp T.p_u_law_cell.b .nil pass0 (pa_cons (pv 0) (pa_cons (pv 1) pa_nil))) (pv 1)) pa_nil)) (pg_tup rfl (pgs_cons (pg_name (i := 2) sc_law.nd rfl (Or.inl rfl)) (pgs_cons (pg_name (i := 3) sc_law.nd rfl (Or.inl rfl)) (pgs_cons (pg_name (i := 4) sc_law.nd rfl (Or.inl rfl)) (pgs_cons (pg_name (i := 5) sc_law.nd rfl (Or.inl rfl)) pgs_nil)))))) (pss_cons (ps_set (i := 6) sc_law.nd rfl (Or.inl rfl) (pe_call G_u_law_bytes (hr.mono (by decide)) rfl T.p_u_law_bytes.m T.p_u_law_bytes.F.kp T.p_u_law_bytes.b .nil pass0 (pa_cons (pe_call G_u_law_cell (hr.mono (by decide)) rfl T.p_u_law_cell.m T.p_u_law_cell.F.kp T.p_u_law_cell.b .nil pass0 (pa_cons (pv 0) (pa_cons (pv 1) pa_nil))) (pa_cons (pe_op op_modM (pe_op op_fdivM (pe_callTy call_int1 (by rfl) T.n_int (by decide +kernel) (pa_cons (pe_call G_u_law_cell (hr.mono (by decide)) rfl T.p_u_law_cell.m T.p_u_law_cell.F.kp T.p_u_law_cell.b .nil pass0 (pa_cons (pv 0) (pa_cons (pv 1) pa_nil))) pa_nil)) pe_int) pe_int) pa_nil)))) (pss_cons (ps_set (i := 7) sc_law.nd rfl (Or.inl rfl) (pe_call G_cover (hr.mono (by decide)) rfl T.p_cover.m T.p_cover.F.kp T.p_cover.b .nil pass0 (pa_cons (pv 2) (pa_cons (pv 3) (pa_cons (pv 4) (pa_cons (pv 5) (pa_cons (pv 6) pa_nil))))))) (pss_cons (ps_set (i := 8) sc_law.nd rfl (Or.inl rfl) (pe_call G_u_law_digits (hr.mono (by decide)) rfl T.p_u_law_digits.m T.p_u_law_digits.F.kp T.p_u_law_digits.b .nil pass0 (pa_cons (pe_op op_addM (pe_call G_u_law_cell (hr.mono (by decide)) rfl T.p_u_law_cell.m T.p_u_law_cell.F.kp T.p_u_law_cell.b .nil pass0 (pa_cons (pv 0) (pa_cons (pe_op op_addM (pv 1) pe_int) pa_nil))) (pe_op op_mulM pe_int (pv 1))) (pa_cons (pe_lstM (pa_cons pe_int (pa_cons pe_int (pa_cons pe_int (pa_cons pe_int pa_nil))))) pa_nil)))) (pss_cons (ps_set (i := 9) sc_law.nd rfl (Or.inl rfl) (pe_op op_modM (pe_ix ix_listM (pv 8) pe_int (fun _ _ => rfl)) (pe_callB call_lenM (by rfl) T.n_len PySem.boot_len (pa_cons (pv 7) pa_nil)))) (pss_cons (ps_set (i := 10) sc_law.nd rfl (Or.inl rfl) (pe_callTy call_listM (by rfl) T.n_list (by decide +kernel) (pa_cons (pv 7) pa_nil))) (pss_cons (ps_asg (pe_op op_bxorM (pe_ix ix_listM (pv 10) (pv 9) (fun _ _ => rfl)) (pe_ix ix_listM (pe_lstM (pa_cons pe_int (pa_cons pe_int (pa_cons pe_int (pa_cons pe_int (pa_cons pe_int (pa_cons pe_int (pa_cons pe_int (pa_cons pe_int pa_nil))))))))) (pe_ix ix_listM (pv 8) pe_int (fun _ _ => rfl)) (fun _ _ => rfl))) (pg_sub (pv 10) (pv 9) set_listM)) (pss_cons (ps_ifM (pt_cmpR op_eq (pe_ix ix_listM (pv 8) pe_int (fun _ _ => rfl)) pe_int (nomark _)) (pss_one (ps_asg (pe_op op_modM (pe_op op_addM (pe_op op_addM (pe_ix ix_listM (pv 7) (pv 9) (fun _ _ => rfl)) pe_int) (pe_ix ix_listM (pv 8) pe_int (fun _ _ => rfl))) pe_int) (pg_sub (pv 10) (pv 9) set_listM))) pss_nil) (pss_cons (ps_ifM (pt_cmpR op_notN (pe_call G_uncover (hr.mono (by decide)) rfl T.p_uncover.m T.p_uncover.F.kp T.p_uncover.b .nil pass0 (pa_cons (pv 2) (pa_cons (pv 3) (pa_cons (pv 4) (pa_cons (pv 5) (pa_cons (pv 10) pa_nil)))))) pe_non (nomark _)) (pss_one (ps_ret pe_bl)) pss_nil) (pss_one (ps_ifM (pt_cmpR (op_neDM hr.units) (pe_call G_uncover (hr.mono (by decide)) rfl T.p_uncover.m T.p_uncover.F.kp T.p_uncover.b .nil pass0 (pa_cons (pv 2) (pa_cons (pv 3) (pa_cons (pv 4) (pa_cons (pv 5) (pa_cons (pv 7) pa_nil)))))) (pv 6) (nomark _)) (pss_one (ps_ret pe_bl)) pss_nil)))))))))))) (pss_one (ps_ret pe_bl))), ?_⟩
    refine rd_forR1 ?_
    (repeat walk_at "rd")
    refine ⟨_, _, rfl, ?_⟩
    (repeat walk_at "rd")
    refine ⟨_, fun i σ H' => Stop (Same H H' ∧ ∃ x1 x2 x3 x4 x5 x6 x7 x8 x9 x10, σ = [some (.ref a), x1, x2, x3, x4, x5, x6, x7, x8, x9, x10]), rfl, ⟨by split <;> omega, by split <;> omega⟩, .a ⟨Same.refl _, _, _, _, _, _, _, _, _, _, _, rfl⟩, fun i σ' H' hi w1 => ?_, fun σ' H' w1 => ?_⟩
    · obtain ⟨sm, x1, x2, x3, x4, x5, x6, x7, x8, x9, x10, rfl⟩ := w1.un
      (repeat walk_at "rd")
      refine op_u_law_cell ⟨a, ns, _, rfl, (by walk_at "sq"), (by omega), ?_⟩
      (repeat walk_at "rd")
      refine op_u_law_parts ⟨_, rfl, fun k b w c hp t1 H1 n1 s1 e1 => ?_⟩
      (repeat walk_at "rd")
      refine ⟨t1, _, rfl, (by walk_at "sq"), rfl, _, _, rfl, _, _, rfl, _, _, rfl, _, _, rfl, rfl, ?_⟩
      refine frS (σ' := [_, _, _, _, _, _, _, _, _, _, _]) rfl ?_
      (repeat walk_at "rd")
      refine op_u_law_cell ⟨a, ns, _, rfl, (by walk_at "sq"), (by omega), ?_⟩
      (repeat walk_at "rd")
      refine op_u_law_cell ⟨a, ns, _, rfl, (by walk_at "sq"), (by omega), ?_⟩
      (repeat walk_at "rd")
      refine op_u_law_bytes ⟨_, _, rfl, (by omega), by omega, fun ds hd hl t2 H2 n2 s2 e2 => ?_⟩
      have hl2 : ds.length ≤ 41 := by omega
      (repeat walk_at "rd")
      refine op_cover ⟨k, b, w, c, t2, ds, rfl, (by walk_at "sq"), by omega, fun p3 H3 n3 s3 e3 => ?_⟩
      have hcl := covF_len k b w c ds
      have hcb := covF_ok hp.2.2.1 hd (k := k) (b := b) (c := c)
      (repeat walk_at "rd")
      refine op_u_law_cell ⟨a, ns, _, rfl, (by walk_at "sq"), (by omega), ?_⟩
      (repeat walk_at "rd")
      intro t4 H4 n4 s4 e4
      (repeat walk_at "rd")
      refine op_u_law_digits ⟨_, t4, [43, 255, 8, 2], rfl, (by walk_at "sq"), (by decide), (by decide), fun ds' hd' p5 H5 n5 s5 e5 => ?_⟩
      obtain ⟨d0, d1, d2, d3, rfl, k0, k1, k2, k3⟩ := dig4 hd'
      (repeat walk_at "rd")
      refine rd_ixI (by walk_at "sq") (by decide) (by show _ < (4 : Int); decide) ?_
      (repeat walk_at "rd")
      have hpl : ∃ j : Nat, [d0, d1, d2, d3].getD (0 : Int).toNat 0 % ((covF k b w c ds).length : Int) = (j : Int) ∧ j < (covF k b w c ds).length := by
        have h1 := Int.emod_nonneg d0 (show ((covF k b w c ds).length : Int) ≠ 0 by omega)
        have h2 := Int.emod_lt_of_pos d0 (show (0 : Int) < ((covF k b w c ds).length : Int) by omega)
        exact ⟨(d0 % ((covF k b w c ds).length : Int)).toNat, by show d0 % _ = _; omega, by omega⟩
      obtain ⟨j, ej, hj⟩ := hpl
      rw [ej]
      (repeat walk_at "rd")
      refine rd_list (by walk_at "sq") ?_
      intro p6 H6 n6 s6 e6
      (repeat walk_at "rd")
      refine rd_ixI (by walk_at "sq") (by omega) (by omega) ?_
      (repeat walk_at "rd")
      intro t7 H7 n7 s7 e7
      (repeat walk_at "rd")
      refine rd_ixI (by walk_at "sq") (by decide) (by show _ < (4 : Int); decide) ?_
      (repeat walk_at "rd")
      have hs : ∃ z : Int, atI [V.int 1, V.int 2, V.int 4, V.int 8, V.int 16, V.int 32, V.int 64, V.int 128] d2 = some (.int z) ∧ 0 < z ∧ z < 256 := by
        have h6 : d2 = 0 ∨ d2 = 1 ∨ d2 = 2 ∨ d2 = 3 ∨ d2 = 4 ∨ d2 = 5 ∨ d2 = 6 ∨ d2 = 7 := by omega
        rcases h6 with e | e | e | e | e | e | e | e <;> subst e <;> exact ⟨_, rfl, by decide, by decide⟩
      obtain ⟨z, hz, hz0, hz1⟩ := hs
      refine rd_ixL (by walk_at "sq") hz ?_
      (repeat walk_at "rd")
      have e6' : H7 p6 = some (.lst ((covF k b w c ds).map V.int)) := (by walk_at "hp")
      have hset : ∀ (v : Int), upd H7 p6 (.lst (((covF k b w c ds).map V.int).set (j : Int).toNat (.int v))) p6 = some (.lst (((covF k b w c ds).set j v).map V.int)) := fun v => by
        rw [upd_same, Int.toNat_natCast, List.map_set]
      refine rd_setL e6' (by omega) (by rw [List.length_map]; omega) ?_
      have xb := getD_ok hcb j
      have v1b : 0 ≤ xr ((covF k b w c ds).getD j 0) z ∧ xr ((covF k b w c ds).getD j 0) z < 256 := xr_byte xb ⟨Int.le_of_lt hz0, hz1⟩
      have v1n : xr ((covF k b w c ds).getD j 0) z ≠ (covF k b w c ds).getD j 0 := xr_ne xb.1 hz0
      have e8 := hset (xr ((covF k b w c ds).getD j 0) z)
      have s8 : Same H5 (upd H7 p6 (.lst (((covF k b w c ds).map V.int).set (j : Int).toNat (.int (xr ((covF k b w c ds).getD j 0) z))))) := same_mut (by walk_at "sm") n6
      show (fun H8 => _) (upd H7 p6 (.lst (((covF k b w c ds).map V.int).set (j : Int).toNat (.int (xr ((covF k b w c ds).getD j 0) z)))))
      generalize upd H7 p6 (.lst (((covF k b w c ds).map V.int).set (j : Int).toNat (.int (xr ((covF k b w c ds).getD j 0) z)))) = H8 at *
      clear hset s6 s7 e6 e7 e6' n7
      dsimp only
      (repeat walk_at "rd")
      refine rd_ixI (by walk_at "sq") (by decide) (by show _ < (4 : Int); decide) ?_
      (repeat walk_at "rd")
      refine br_eby (fun h3 => ?_) (fun h3 => ?_)
      · (repeat walk_at "rd")
        refine rd_ixI (by walk_at "sq") (by omega) (by omega) ?_
        (repeat walk_at "rd")
        refine rd_ixI (by walk_at "sq") (by decide) (by show _ < (4 : Int); decide) ?_
        (repeat walk_at "rd")
        refine rd_setL e8 (by omega) (by rw [List.length_map, List.length_set]; omega) ?_
        (repeat walk_at "rd")
        have E9 : upd H8 p6 (.lst ((((covF k b w c ds).set j (xr ((covF k b w c ds).getD j 0) z)).map V.int).set (j : Int).toNat (.int (((covF k b w c ds).getD j 0 + 1 + d1) % 256)))) p6 = some (.lst (((covF k b w c ds).set j (((covF k b w c ds).getD j 0 + 1 + d1) % 256)).map V.int)) := by
          rw [upd_same, Int.toNat_natCast, ← List.map_set, List.set_set]
        have S9 : Same H5 (upd H8 p6 (.lst ((((covF k b w c ds).set j (xr ((covF k b w c ds).getD j 0) z)).map V.int).set (j : Int).toNat (.int (((covF k b w c ds).getD j 0 + 1 + d1) % 256))))) := same_mut (by walk_at "sm") n6
        have VB : 0 ≤ ((covF k b w c ds).getD j 0 + 1 + d1) % 256 ∧ ((covF k b w c ds).getD j 0 + 1 + d1) % 256 < 256 := by omega
        have VN : ((covF k b w c ds).getD j 0 + 1 + d1) % 256 ≠ (covF k b w c ds).getD j 0 := by omega
        refine op_uncover ⟨k, b, w, c, p6, _, rfl, sq_of E9, by rw [List.length_set]; omega, fun z H10 s10 => ?_, fun ns' z => ?_⟩
        · (repeat walk_at "rd")
          have S10 : Same H5 H10 := Same.trans S9 s10
          refine op_uncover ⟨k, b, w, c, p3, covF k b w c ds, rfl, (by walk_at "sq"), by omega, fun z2 => ?_, fun ns2 z2 p11 H11 n11 s11 e11 => ?_⟩
          · rw [unc_cov hd] at z2
            cases z2
          · rw [unc_cov hd] at z2
            obtain rfl := Option.some.inj z2
            (repeat walk_at "rd")
            refine rd_neS (n := 1) (.list (ds.map PyData.int)) (dp_ints (by walk_at "sq")) (dp_ints (by walk_at "sq")) (sh_lst (sh_ints _)) ?_
            (repeat walk_at "rd")
            exact .a ⟨(by walk_at "sm"), _, _, _, _, _, _, _, _, _, _, rfl⟩
        · rw [unc_changed hp.2.2.1 hd (by omega) VB VN] at z
          cases z
      · have E9 := e8
        have S9 := s8
        have VB := v1b
        have VN := v1n
        (repeat walk_at "rd")
        refine op_uncover ⟨k, b, w, c, p6, _, rfl, sq_of E9, by rw [List.length_set]; omega, fun z H10 s10 => ?_, fun ns' z => ?_⟩
        · (repeat walk_at "rd")
          have S10 : Same H5 H10 := Same.trans S9 s10
          refine op_uncover ⟨k, b, w, c, p3, covF k b w c ds, rfl, (by walk_at "sq"), by omega, fun z2 => ?_, fun ns2 z2 p11 H11 n11 s11 e11 => ?_⟩
          · rw [unc_cov hd] at z2
            cases z2
          · rw [unc_cov hd] at z2
            obtain rfl := Option.some.inj z2
            (repeat walk_at "rd")
            refine rd_neS (n := 1) (.list (ds.map PyData.int)) (dp_ints (by walk_at "sq")) (dp_ints (by walk_at "sq")) (sh_lst (sh_ints _)) ?_
            (repeat walk_at "rd")
            exact .a ⟨(by walk_at "sm"), _, _, _, _, _, _, _, _, _, _, rfl⟩
        · rw [unc_changed hp.2.2.1 hd (by omega) VB VN] at z
          cases z
    · obtain ⟨sm, x1, x2, x3, x4, x5, x6, x7, x8, x9, x10, rfl⟩ := w1.un
      (repeat walk_at "rd")
      exact q _
end
end My
namespace My
open PySem L2
theorem all_mk {P : Program} {w : World} {K : PySem.W.Frag} {h : Heap} {mg : Str → Option Value} {fa : Addr} (X : K.In h) (G : h.Ns mainGlobals mg) (hfa : mg "law" = some (.ref fa))
    {tk_MODULUS : Tok}
    {tk_MARK_MASK : Tok}
    {tk_TAIL_BYTES : Tok}
    {f_row_of : Addr} {od_row_of an_row_of : Option Addr} {sl_row_of : Array (Option Value)} {oc_row_of kV_row_of dc_row_of pm_row_of cd_row_of ct_row_of : Value}
    {f_mark_of : Addr} {od_mark_of an_mark_of : Option Addr} {sl_mark_of : Array (Option Value)} {oc_mark_of kV_mark_of dc_mark_of pm_mark_of cd_mark_of ct_mark_of : Value}
    {f_u_with_row : Addr} {od_u_with_row an_u_with_row : Option Addr} {sl_u_with_row : Array (Option Value)} {oc_u_with_row kV_u_with_row dc_u_with_row pm_u_with_row cd_u_with_row ct_u_with_row : Value}
    {f_cover : Addr} {od_cover an_cover : Option Addr} {sl_cover : Array (Option Value)} {oc_cover kV_cover dc_cover pm_cover cd_cover ct_cover : Value}
    {f_uncover : Addr} {od_uncover an_uncover : Option Addr} {sl_uncover : Array (Option Value)} {oc_uncover kV_uncover dc_uncover pm_uncover cd_uncover ct_uncover : Value}
    {f_u_law_cell : Addr} {od_u_law_cell an_u_law_cell : Option Addr} {sl_u_law_cell : Array (Option Value)} {oc_u_law_cell kV_u_law_cell dc_u_law_cell pm_u_law_cell cd_u_law_cell ct_u_law_cell : Value}
    {f_u_law_digits : Addr} {od_u_law_digits an_u_law_digits : Option Addr} {sl_u_law_digits : Array (Option Value)} {oc_u_law_digits kV_u_law_digits dc_u_law_digits pm_u_law_digits cd_u_law_digits ct_u_law_digits : Value}
    {f_u_law_bytes : Addr} {od_u_law_bytes an_u_law_bytes : Option Addr} {sl_u_law_bytes : Array (Option Value)} {oc_u_law_bytes kV_u_law_bytes dc_u_law_bytes pm_u_law_bytes cd_u_law_bytes ct_u_law_bytes : Value}
    {f_u_law_is_bytes : Addr} {od_u_law_is_bytes an_u_law_is_bytes : Option Addr} {sl_u_law_is_bytes : Array (Option Value)} {oc_u_law_is_bytes kV_u_law_is_bytes dc_u_law_is_bytes pm_u_law_is_bytes cd_u_law_is_bytes ct_u_law_is_bytes : Value}
    {f_u_law_parts : Addr} {od_u_law_parts an_u_law_parts : Option Addr} {sl_u_law_parts : Array (Option Value)} {oc_u_law_parts kV_u_law_parts dc_u_law_parts pm_u_law_parts cd_u_law_parts ct_u_law_parts : Value}
    {f_law : Addr} {od_law an_law : Option Addr} {sl_law : Array (Option Value)} {oc_law kV_law dc_law pm_law cd_law ct_law : Value}
    (z_len : PySem.W.nsIn K mainGlobals "len" = some none)
    (z_range : PySem.W.nsIn K mainGlobals "range" = some none)
    (z_int : PySem.W.nsIn K mainGlobals "int" = some none)
    (z_sum : PySem.W.nsIn K mainGlobals "sum" = some none)
    (z_zip : PySem.W.nsIn K mainGlobals "zip" = some none)
    (z_min : PySem.W.nsIn K mainGlobals "min" = some none)
    (z_isinstance : PySem.W.nsIn K mainGlobals "isinstance" = some none)
    (z_list : PySem.W.nsIn K mainGlobals "list" = some none)
    (z_bool : PySem.W.nsIn K mainGlobals "bool" = some none)
    (z_MODULUS : PySem.W.nsIn K mainGlobals "MODULUS" = some (some (.int 2147483647 tk_MODULUS)))
    (z_MARK_MASK : PySem.W.nsIn K mainGlobals "MARK_MASK" = some (some (.int 23205 tk_MARK_MASK)))
    (z_TAIL_BYTES : PySem.W.nsIn K mainGlobals "TAIL_BYTES" = some (some (.int 3 tk_TAIL_BYTES)))
    (a_row_of : PySem.W.nsIn K mainGlobals "row_of" = some (some (.ref f_row_of)))
    (l_row_of : K.lookup f_row_of = some ⟨oc_row_of, od_row_of, .func (PySem.W.fnOf "row_of" "row_of" (defArgs S_row_of) (defBody S_row_of) (defScope S_row_of) .none kV_row_of dc_row_of pm_row_of an_row_of cd_row_of ct_row_of), sl_row_of⟩)
    (c_row_of : PySem.W.codeIn K cd_row_of "row_of" = true)
    (k_row_of : PySem.W.keepIn K (.ref f_row_of) = true)
    (a_mark_of : PySem.W.nsIn K mainGlobals "mark_of" = some (some (.ref f_mark_of)))
    (l_mark_of : K.lookup f_mark_of = some ⟨oc_mark_of, od_mark_of, .func (PySem.W.fnOf "mark_of" "mark_of" (defArgs S_mark_of) (defBody S_mark_of) (defScope S_mark_of) .none kV_mark_of dc_mark_of pm_mark_of an_mark_of cd_mark_of ct_mark_of), sl_mark_of⟩)
    (c_mark_of : PySem.W.codeIn K cd_mark_of "mark_of" = true)
    (k_mark_of : PySem.W.keepIn K (.ref f_mark_of) = true)
    (a_u_with_row : PySem.W.nsIn K mainGlobals "_with_row" = some (some (.ref f_u_with_row)))
    (l_u_with_row : K.lookup f_u_with_row = some ⟨oc_u_with_row, od_u_with_row, .func (PySem.W.fnOf "_with_row" "_with_row" (defArgs S_u_with_row) (defBody S_u_with_row) (defScope S_u_with_row) .none kV_u_with_row dc_u_with_row pm_u_with_row an_u_with_row cd_u_with_row ct_u_with_row), sl_u_with_row⟩)
    (c_u_with_row : PySem.W.codeIn K cd_u_with_row "_with_row" = true)
    (k_u_with_row : PySem.W.keepIn K (.ref f_u_with_row) = true)
    (a_cover : PySem.W.nsIn K mainGlobals "cover" = some (some (.ref f_cover)))
    (l_cover : K.lookup f_cover = some ⟨oc_cover, od_cover, .func (PySem.W.fnOf "cover" "cover" (defArgs S_cover) (defBody S_cover) (defScope S_cover) .none kV_cover dc_cover pm_cover an_cover cd_cover ct_cover), sl_cover⟩)
    (c_cover : PySem.W.codeIn K cd_cover "cover" = true)
    (k_cover : PySem.W.keepIn K (.ref f_cover) = true)
    (a_uncover : PySem.W.nsIn K mainGlobals "uncover" = some (some (.ref f_uncover)))
    (l_uncover : K.lookup f_uncover = some ⟨oc_uncover, od_uncover, .func (PySem.W.fnOf "uncover" "uncover" (defArgs S_uncover) (defBody S_uncover) (defScope S_uncover) .none kV_uncover dc_uncover pm_uncover an_uncover cd_uncover ct_uncover), sl_uncover⟩)
    (c_uncover : PySem.W.codeIn K cd_uncover "uncover" = true)
    (k_uncover : PySem.W.keepIn K (.ref f_uncover) = true)
    (a_u_law_cell : PySem.W.nsIn K mainGlobals "_law_cell" = some (some (.ref f_u_law_cell)))
    (l_u_law_cell : K.lookup f_u_law_cell = some ⟨oc_u_law_cell, od_u_law_cell, .func (PySem.W.fnOf "_law_cell" "_law_cell" (defArgs S_u_law_cell) (defBody S_u_law_cell) (defScope S_u_law_cell) .none kV_u_law_cell dc_u_law_cell pm_u_law_cell an_u_law_cell cd_u_law_cell ct_u_law_cell), sl_u_law_cell⟩)
    (c_u_law_cell : PySem.W.codeIn K cd_u_law_cell "_law_cell" = true)
    (k_u_law_cell : PySem.W.keepIn K (.ref f_u_law_cell) = true)
    (a_u_law_digits : PySem.W.nsIn K mainGlobals "_law_digits" = some (some (.ref f_u_law_digits)))
    (l_u_law_digits : K.lookup f_u_law_digits = some ⟨oc_u_law_digits, od_u_law_digits, .func (PySem.W.fnOf "_law_digits" "_law_digits" (defArgs S_u_law_digits) (defBody S_u_law_digits) (defScope S_u_law_digits) .none kV_u_law_digits dc_u_law_digits pm_u_law_digits an_u_law_digits cd_u_law_digits ct_u_law_digits), sl_u_law_digits⟩)
    (c_u_law_digits : PySem.W.codeIn K cd_u_law_digits "_law_digits" = true)
    (k_u_law_digits : PySem.W.keepIn K (.ref f_u_law_digits) = true)
    (a_u_law_bytes : PySem.W.nsIn K mainGlobals "_law_bytes" = some (some (.ref f_u_law_bytes)))
    (l_u_law_bytes : K.lookup f_u_law_bytes = some ⟨oc_u_law_bytes, od_u_law_bytes, .func (PySem.W.fnOf "_law_bytes" "_law_bytes" (defArgs S_u_law_bytes) (defBody S_u_law_bytes) (defScope S_u_law_bytes) .none kV_u_law_bytes dc_u_law_bytes pm_u_law_bytes an_u_law_bytes cd_u_law_bytes ct_u_law_bytes), sl_u_law_bytes⟩)
    (c_u_law_bytes : PySem.W.codeIn K cd_u_law_bytes "_law_bytes" = true)
    (k_u_law_bytes : PySem.W.keepIn K (.ref f_u_law_bytes) = true)
    (a_u_law_is_bytes : PySem.W.nsIn K mainGlobals "_law_is_bytes" = some (some (.ref f_u_law_is_bytes)))
    (l_u_law_is_bytes : K.lookup f_u_law_is_bytes = some ⟨oc_u_law_is_bytes, od_u_law_is_bytes, .func (PySem.W.fnOf "_law_is_bytes" "_law_is_bytes" (defArgs S_u_law_is_bytes) (defBody S_u_law_is_bytes) (defScope S_u_law_is_bytes) .none kV_u_law_is_bytes dc_u_law_is_bytes pm_u_law_is_bytes an_u_law_is_bytes cd_u_law_is_bytes ct_u_law_is_bytes), sl_u_law_is_bytes⟩)
    (c_u_law_is_bytes : PySem.W.codeIn K cd_u_law_is_bytes "_law_is_bytes" = true)
    (k_u_law_is_bytes : PySem.W.keepIn K (.ref f_u_law_is_bytes) = true)
    (a_u_law_parts : PySem.W.nsIn K mainGlobals "_law_parts" = some (some (.ref f_u_law_parts)))
    (l_u_law_parts : K.lookup f_u_law_parts = some ⟨oc_u_law_parts, od_u_law_parts, .func (PySem.W.fnOf "_law_parts" "_law_parts" (defArgs S_u_law_parts) (defBody S_u_law_parts) (defScope S_u_law_parts) .none kV_u_law_parts dc_u_law_parts pm_u_law_parts an_u_law_parts cd_u_law_parts ct_u_law_parts), sl_u_law_parts⟩)
    (c_u_law_parts : PySem.W.codeIn K cd_u_law_parts "_law_parts" = true)
    (k_u_law_parts : PySem.W.keepIn K (.ref f_u_law_parts) = true)
    (a_law : PySem.W.nsIn K mainGlobals "law" = some (some (.ref f_law)))
    (l_law : K.lookup f_law = some ⟨oc_law, od_law, .func (PySem.W.fnOf "law" "law" (defArgs S_law) (defBody S_law) (defScope S_law) .none kV_law dc_law pm_law an_law cd_law ct_law), sl_law⟩)
    (c_law : PySem.W.codeIn K cd_law "law" = true)
    (k_law : PySem.W.keepIn K (.ref f_law) = true)
    : ∃ fd : FuncData, (∀ (s : Shared) (v : Value), BindsTo s fd ⟨[v], []⟩ [("script", v)]) ∧ ∀ base : Heap, K.In base → base.Ns mainGlobals mg → FnOk P w K mg base CX0 3 fa fd ["script"] (ip_law K) := by
  have e := hfa.symm.trans (PySem.W.mg_of X G a_law)
  cases e
  have F_row_of := fun_mk (st := S_row_of) l_row_of c_row_of k_row_of
  have b_row_of := F_row_of.binds (ps := ["key", "bearer", "way", "count", "size"]) fun _ _ _ _ _ _ us hl => match us, hl with | [_, _, _, _, _], _ => rfl
  have F_mark_of := fun_mk (st := S_mark_of) l_mark_of c_mark_of k_mark_of
  have b_mark_of := F_mark_of.binds (ps := ["key", "bearer", "way", "count"]) fun _ _ _ _ _ _ us hl => match us, hl with | [_, _, _, _], _ => rfl
  have F_u_with_row := fun_mk (st := S_u_with_row) l_u_with_row c_u_with_row k_u_with_row
  have b_u_with_row := F_u_with_row.binds (ps := ["row", "packet"]) fun _ _ _ _ _ _ us hl => match us, hl with | [_, _], _ => rfl
  have F_cover := fun_mk (st := S_cover) l_cover c_cover k_cover
  have b_cover := F_cover.binds (ps := ["key", "bearer", "way", "count", "packet"]) fun _ _ _ _ _ _ us hl => match us, hl with | [_, _, _, _, _], _ => rfl
  have F_uncover := fun_mk (st := S_uncover) l_uncover c_uncover k_uncover
  have b_uncover := F_uncover.binds (ps := ["key", "bearer", "way", "count", "covered"]) fun _ _ _ _ _ _ us hl => match us, hl with | [_, _, _, _, _], _ => rfl
  have F_u_law_cell := fun_mk (st := S_u_law_cell) l_u_law_cell c_u_law_cell k_u_law_cell
  have b_u_law_cell := F_u_law_cell.binds (ps := ["script", "k"]) fun _ _ _ _ _ _ us hl => match us, hl with | [_, _], _ => rfl
  have F_u_law_digits := fun_mk (st := S_u_law_digits) l_u_law_digits c_u_law_digits k_u_law_digits
  have b_u_law_digits := F_u_law_digits.binds (ps := ["cell", "bases"]) fun _ _ _ _ _ _ us hl => match us, hl with | [_, _], _ => rfl
  have F_u_law_bytes := fun_mk (st := S_u_law_bytes) l_u_law_bytes c_u_law_bytes k_u_law_bytes
  have b_u_law_bytes := F_u_law_bytes.binds (ps := ["cell", "size"]) fun _ _ _ _ _ _ us hl => match us, hl with | [_, _], _ => rfl
  have F_u_law_is_bytes := fun_mk (st := S_u_law_is_bytes) l_u_law_is_bytes c_u_law_is_bytes k_u_law_is_bytes
  have b_u_law_is_bytes := F_u_law_is_bytes.binds (ps := ["value", "size"]) fun _ _ _ _ _ _ us hl => match us, hl with | [_, _], _ => rfl
  have F_u_law_parts := fun_mk (st := S_u_law_parts) l_u_law_parts c_u_law_parts k_u_law_parts
  have b_u_law_parts := F_u_law_parts.binds (ps := ["cell"]) fun _ _ _ _ _ _ us hl => match us, hl with | [_], _ => rfl
  have F_law := fun_mk (st := S_law) l_law c_law k_law
  have b_law := F_law.binds (ps := ["script"]) fun _ _ _ _ _ _ us hl => match us, hl with | [_], _ => rfl
  refine ⟨PySem.W.fnOf "law" "law" (defArgs S_law) (defBody S_law) (defScope S_law) .none kV_law dc_law pm_law an_law cd_law ct_law, fun s v => .of_eq rfl, fun base _ _ => ?_⟩
  exact ok_law (T := ({
      n_len := PySem.W.mg_none_of X G z_len,
      n_range := PySem.W.mg_none_of X G z_range,
      n_int := PySem.W.mg_none_of X G z_int,
      n_sum := PySem.W.mg_none_of X G z_sum,
      n_zip := PySem.W.mg_none_of X G z_zip,
      n_min := PySem.W.mg_none_of X G z_min,
      n_isinstance := PySem.W.mg_none_of X G z_isinstance,
      n_list := PySem.W.mg_none_of X G z_list,
      n_bool := PySem.W.mg_none_of X G z_bool,
      g_MODULUS := ⟨tk_MODULUS, PySem.W.mg_of X G z_MODULUS⟩,
      g_MARK_MASK := ⟨tk_MARK_MASK, PySem.W.mg_of X G z_MARK_MASK⟩,
      g_TAIL_BYTES := ⟨tk_TAIL_BYTES, PySem.W.mg_of X G z_TAIL_BYTES⟩,
      a_row_of := _,
      d_row_of := _,
      p_row_of := ⟨F_row_of, b_row_of, PySem.W.mg_of X G a_row_of⟩,
      a_mark_of := _,
      d_mark_of := _,
      p_mark_of := ⟨F_mark_of, b_mark_of, PySem.W.mg_of X G a_mark_of⟩,
      a_u_with_row := _,
      d_u_with_row := _,
      p_u_with_row := ⟨F_u_with_row, b_u_with_row, PySem.W.mg_of X G a_u_with_row⟩,
      a_cover := _,
      d_cover := _,
      p_cover := ⟨F_cover, b_cover, PySem.W.mg_of X G a_cover⟩,
      a_uncover := _,
      d_uncover := _,
      p_uncover := ⟨F_uncover, b_uncover, PySem.W.mg_of X G a_uncover⟩,
      a_u_law_cell := _,
      d_u_law_cell := _,
      p_u_law_cell := ⟨F_u_law_cell, b_u_law_cell, PySem.W.mg_of X G a_u_law_cell⟩,
      a_u_law_digits := _,
      d_u_law_digits := _,
      p_u_law_digits := ⟨F_u_law_digits, b_u_law_digits, PySem.W.mg_of X G a_u_law_digits⟩,
      a_u_law_bytes := _,
      d_u_law_bytes := _,
      p_u_law_bytes := ⟨F_u_law_bytes, b_u_law_bytes, PySem.W.mg_of X G a_u_law_bytes⟩,
      a_u_law_is_bytes := _,
      d_u_law_is_bytes := _,
      p_u_law_is_bytes := ⟨F_u_law_is_bytes, b_u_law_is_bytes, PySem.W.mg_of X G a_u_law_is_bytes⟩,
      a_u_law_parts := _,
      d_u_law_parts := _,
      p_u_law_parts := ⟨F_u_law_parts, b_u_law_parts, PySem.W.mg_of X G a_u_law_parts⟩,
      a_law := _,
      d_law := _,
      p_law := ⟨F_law, b_law, PySem.W.mg_of X G a_law⟩
    } : Tx P w K mg base))
theorem walk {l : PySem.W.OpenLaw} {q : Program} {loose : List Str} {XP : (Str → Option Value) → Heap → Prop} {YP : World → Heap → Prop} {d : DefRec} {K : Params → PySem.W.Frag} (hn : l.most = some 63) (hdf : d.params.defaults = [])
    (hY : ∀ (w : World) (h : Heap), YP w h → (K w.params).In h)
    (F : ∀ (w : World) (mg : Str → Option Value) (fa : Addr) (h : Heap), (K w.params).In h → h.Ns mainGlobals mg → mg d.name = some (.ref fa) →
      ∃ fd : FuncData, (∀ (s : Shared) (u : Value), BindsTo s fd ⟨[u], []⟩ [("script", u)]) ∧ ∀ base : Heap, (K w.params).In base → base.Ns mainGlobals mg → FnOk l.prog w (K w.params) mg base CX0 3 fa fd ["script"] (ip_law (K w.params))) :
    PySem.W.WalkO q loose XP YP l.row.toRowW d [] (fun f vs => PySem.call f vs) :=
  L2.walk_of (n := 63) (k := 3) (x := "script") (CX := fun _ => CX0) (sp := fun w => ip_law (K w.params)) hn (by decide) hdf ⟨rfl, by decide, by decide⟩ hY F (fun _ _ a ns hl _ hS => op_law ⟨a, ns, rfl, hS, hl, fun _ => rfl⟩) fun _ _ _ _ _ z => z
end My
open PySem PySem.W PyProof.Rows
set_option maxRecDepth 100000 in
set_option maxHeartbeats 0 in
theorem PySem.Challenge.cw_bearerwise_k23_one_changed_byte_holds : PySem.Challenge.rw_bearerwise_k23_one_changed_byte.Holds := by
  w_on; o_law; k_head; (case hw => w_witness2)
  k_fill
  refine My.walk (l := PySem.Challenge.rw_bearerwise_k23_one_changed_byte) rfl rfl (fun w h Y => PySem.W.kIn_of Y) ?F
  case F =>
    intro w mg fa h KX G hmg
    refine' My.all_mk KX G hmg ?z_len ?z_range ?z_int ?z_sum ?z_zip ?z_min ?z_isinstance ?z_list ?z_bool ?z_MODULUS ?z_MARK_MASK ?z_TAIL_BYTES ?a_row_of ?l_row_of ?c_row_of ?k_row_of ?a_mark_of ?l_mark_of ?c_mark_of ?k_mark_of ?a_u_with_row ?l_u_with_row ?c_u_with_row ?k_u_with_row ?a_cover ?l_cover ?c_cover ?k_cover ?a_uncover ?l_uncover ?c_uncover ?k_uncover ?a_u_law_cell ?l_u_law_cell ?c_u_law_cell ?k_u_law_cell ?a_u_law_digits ?l_u_law_digits ?c_u_law_digits ?k_u_law_digits ?a_u_law_bytes ?l_u_law_bytes ?c_u_law_bytes ?k_u_law_bytes ?a_u_law_is_bytes ?l_u_law_is_bytes ?c_u_law_is_bytes ?k_u_law_is_bytes ?a_u_law_parts ?l_u_law_parts ?c_u_law_parts ?k_u_law_parts ?a_law ?l_law ?c_law ?k_law
    (case z_len => k_is)
    (case z_range => k_is)
    (case z_int => k_is)
    (case z_sum => k_is)
    (case z_zip => k_is)
    (case z_min => k_is)
    (case z_isinstance => k_is)
    (case z_list => k_is)
    (case z_bool => k_is)
    (case z_MODULUS => k_is)
    (case z_MARK_MASK => k_is)
    (case z_TAIL_BYTES => k_is)
    (case a_row_of => k_is)
    (case l_row_of => k_is)
    (case c_row_of => k_is)
    (case k_row_of => k_is)
    (case a_mark_of => k_is)
    (case l_mark_of => k_is)
    (case c_mark_of => k_is)
    (case k_mark_of => k_is)
    (case a_u_with_row => k_is)
    (case l_u_with_row => k_is)
    (case c_u_with_row => k_is)
    (case k_u_with_row => k_is)
    (case a_cover => k_is)
    (case l_cover => k_is)
    (case c_cover => k_is)
    (case k_cover => k_is)
    (case a_uncover => k_is)
    (case l_uncover => k_is)
    (case c_uncover => k_is)
    (case k_uncover => k_is)
    (case a_u_law_cell => k_is)
    (case l_u_law_cell => k_is)
    (case c_u_law_cell => k_is)
    (case k_u_law_cell => k_is)
    (case a_u_law_digits => k_is)
    (case l_u_law_digits => k_is)
    (case c_u_law_digits => k_is)
    (case k_u_law_digits => k_is)
    (case a_u_law_bytes => k_is)
    (case l_u_law_bytes => k_is)
    (case c_u_law_bytes => k_is)
    (case k_u_law_bytes => k_is)
    (case a_u_law_is_bytes => k_is)
    (case l_u_law_is_bytes => k_is)
    (case c_u_law_is_bytes => k_is)
    (case k_u_law_is_bytes => k_is)
    (case a_u_law_parts => k_is)
    (case l_u_law_parts => k_is)
    (case c_u_law_parts => k_is)
    (case k_u_law_parts => k_is)
    (case a_law => k_is)
    (case l_law => k_is)
    (case c_law => k_is)
    (case k_law => k_is)
