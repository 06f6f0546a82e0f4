import PyProof.Rows.All
import Wide.All
import OpenK.AllK
import Wide.FinOn
import KE.BitLaws
import PySem.SetTable
import PyProof.DictRoadsH
import PyProof.SetKind
import PyProof.IsRules
import PyProof.Rows.SetFrom
import PyProof.WalksMore
import PyProof.FactsAll.tuple
import KE.KSortKeySt
import KE.KSortTupG
import KE.KLam
import PyProof.EqAt
import PyProof.EqKinds
import PyProof.TupleCall
import KE.KSortAsk
import KE.KDictSum
import KE.KSortTup
import KE.OsGo
import Open.SpecLaws
import PySem.Challenge.RW_strikecase_s14_defended
def PySem.W.Fast.tw15207683983551342119:=0
def PySem.W.Fast.tw14896095817564631814:=0
def PySem.W.Fast.tw4014731860503167113:=0
def PySem.W.Fast.tw843752146528115616:=0
def PySem.W.Fast.tw2406362958199740187:=0
def PySem.W.Fast.tw6256238065501488020:=0
def PySem.W.Fast.tw7458815964884178828:=0
def PySem.W.Fast.tw2545690856562916604:=0
def PySem.W.Fast.tw1141210791265451968:=0
def PySem.W.Fast.tw10792650807367692270:=0
def PySem.W.Fast.tw7994597462663506588:=0
def PySem.W.Fast.tw2333113871913062224:=0
def PySem.W.Fast.tw11529687919521675252:=0
def PySem.W.Fast.tw8847028114515805658:=0
def PySem.W.Fast.tw6532666170687042740:=0
def PySem.W.Fast.tw9691340169524679594:=0
def PySem.W.Fast.tw10599011526367467184:=0
def PySem.W.Fast.tw583996658600704658:=0
def PySem.W.Fast.tw13542697717945337454:=0
def PySem.W.Fast.tw7967289343371262060:=0
def PySem.W.Fast.tw3035195494098821282:=0
def PySem.W.Fast.tw7789382920976986083:=0
def PySem.W.Fast.tw3331384513643566410:=0
def PySem.W.Fast.tw3920954273882840812:=0
def PySem.W.Fast.tw6807113769009772340:=0
def PySem.W.Fast.tw12119160511712467729:=0
def PySem.W.Fast.tw13535893972047564757:=0
def PySem.W.Fast.tw11092249559651262112:=0
def PySem.W.Fast.tw16428889391389505012:=0
def PySem.W.Fast.tw9098880546497542234:=0
def PySem.W.Fast.tw13141075667863895795:=0
def PySem.W.Fast.tw16785311457325828110:=0
def PySem.W.Fast.tw9028846824246689000:=0
def PySem.W.Fast.tw3293974184462331533:=0
def PySem.W.Fast.tw5398605174414712122:=0
def PySem.W.Fast.tw1099142949580089175:=0
def PySem.W.Fast.tw13715819853930748581:=0
def PySem.W.Fast.tw6301651941381315933:=0
def PySem.W.Fast.tw11274377925059155420:=0
def PySem.W.Fast.tw14547106415370397370:=0
def PySem.W.Fast.tw17222576854409019427:=0
def PySem.W.Fast.tw14585395539413658307:=0
def PySem.W.Fast.tw5567916391044425433:=0
def PySem.W.Fast.tw11362559862138783204:=0
def PySem.W.Fast.tw3611165587288081894:=0
def PySem.W.Fast.tw358298280694603385:=0
def PySem.W.Fast.tw7110490815467401176:=0
def PySem.W.Fast.tw17532887699726013393:=0
def PySem.W.Fast.tw17318418862978341226:=0
def PySem.W.Fast.tw8863593892358445407:=0
def PySem.W.Fast.tw3470192783974693466:=0
def PySem.W.Fast.tw15171107828094606184:=0
def PySem.W.Fast.tw10695266413229935483:=0
def PySem.W.Fast.tw2058522383649091086:=0
def PySem.W.Fast.tw15155389901361142413:=0
def PySem.W.Fast.tw10571141305008608700:=0
def PySem.W.Fast.tw10745436221795555624:=0
def PySem.W.Fast.tw17550291160730061183:=0
def PySem.W.Fast.tw7579990127338183130:=0
def PySem.W.Fast.tw12765359416874019957:=0
def PySem.W.Fast.tw3661274962295034035:=0
def PySem.W.Fast.tw8660136731656689512:=0
def PySem.W.Fast.tw9506306345728586786:=0
def PySem.W.Fast.tw13538920178171691236:=0
def PySem.W.Fast.tw411966172214799215:=0
def PySem.W.Fast.tw11422789630247091737:=0
def PySem.W.Fast.tw18244466560613766848:=0
def PySem.W.Fast.tw12537520668165897661:=0
def PySem.W.Fast.tw9799434689160376372:=0
def PySem.W.Fast.tw14672387061055824444:=0
def PySem.W.Fast.tw3200600780240729804:=0
def PySem.W.Fast.tw1058202546496390502:=0
def PySem.W.Fast.tw13824644968069389744:=0
def PySem.W.Fast.tw4269035743434990684:=0
def PySem.W.Fast.tw2508944835165466009:=0
def PySem.W.Fast.tw14337879885332573047:=0
def PySem.W.Fast.tw9622279861881774241:=0
def PySem.W.Fast.tw10236429287017303156:=0
def PySem.W.Fast.tw3732022751688522665:=0
def PySem.W.Fast.tw4982231250679816770:=0
def PySem.W.Fast.tw13877790127102587773:=0
def PySem.W.Fast.tw15243147424698676543:=0
def PySem.W.Fast.tw13563837147934415004:=0
def PySem.W.Fast.tw18444570910097586779:=0
def PySem.W.Fast.tw7523282877873455078:=0
def PySem.W.Fast.tw5702278673707779344:=0
def PySem.W.Fast.tw2404526131710009195:=0
def PySem.W.Fast.tw642066376009569056:=0
def PySem.W.Fast.tw1002378444987663669:=0
def PySem.W.Fast.tw7712936256276820568:=0
def PySem.W.Fast.tw14159476528186188162:=0
def PySem.W.Fast.tw2775345219482875266:=0
def PySem.W.Fast.tw3379604699407541731:=0
def PySem.W.Fast.tw10970171129892553552:=0
def PySem.W.Fast.tw17493980203637334466:=0
def PySem.W.Fast.tw10265472975955390288:=0
def PySem.W.Fast.tw808218802721332511:=0
def PySem.W.Fast.tw8884113526649344825:=0
def PySem.W.Fast.tw13711419359826305626:=0
def PySem.W.Fast.tw8081795790384400529:=0
def PySem.W.Fast.tw10701494569183997087:=0
def PySem.W.Fast.tw15204515583499404071:=0
def PySem.W.Fast.tw9687040737469063858:=0
def PySem.W.Fast.tw18393580097882616769:=0
def PySem.W.Fast.tw1696646617747738493:=0
def PySem.W.Fast.tw3753343517398507574:=0
def PySem.W.Fast.tw999697027439236475:=0
def PySem.W.Fast.tw9514958479574473883:=0
def PySem.W.Fast.tw13581436049102265649:=0
def PySem.W.Fast.tw5738736412030135817:=0
def PySem.W.Fast.tw11192873412072190905:=0
def PySem.W.Fast.tw1963495830878465149:=0
def PySem.W.Fast.tw13372729780660185605:=0
def PySem.W.Fast.tw7364261544140855595:=0
def PySem.W.Fast.tw2877245577349260381:=0
def PySem.W.Fast.tw874987560143693804:=0
def PySem.W.Fast.tw10277469874717442807:=0
def PySem.W.Fast.tw7020466499555639662:=0
def PySem.W.Fast.tw13840052397399043054:=0
def PySem.W.Fast.tw209218748582748718:=0
def PySem.W.Fast.tw1258920652770911575:=0
def PySem.W.Fast.tw12572068200109191468:=0
def PySem.W.Fast.tw16342472422069604825:=0
def PySem.W.Fast.tw14327248798839550947:=0
def PySem.W.Fast.tw16116127020336337382:=0
def PySem.W.Fast.tw3661633103478176982:=0
def PySem.W.Fast.tw3455976385130992685:=0
def PySem.W.Fast.tw4353206523537900867
:=0
set_option Elab.async false
set_option linter.all false
noncomputable section
section
namespace ML
open Mo
theorem below_irrefl : ∀ x : Bytes,below x x = false
 | []=>rfl
 | c :: r=>by
  have ih:=below_irrefl r
  simp [below,ih]
theorem below_trans : ∀ {x y z : Bytes},below x y = true→below y z = true→below x z = true
 | [],[],_,h,_=>by cases h
 | [],_ :: _,[],_,h=>by cases h
 | [],_ :: _,_ :: _,_,_=>rfl
 | _ :: _,[],_,h,_=>by cases h
 | _ :: _,_ :: _,[],_,h=>by cases h
 | a :: r,b :: s,c :: t,h,k=>by
  simp only [below,Bool.or_eq_true,Bool.and_eq_true,decide_eq_true_eq,beq_iff_eq] at h k ⊢
  rcases h with h | ⟨h,h'⟩
  ·rcases k with k | ⟨k,_⟩
   ·exact .inl (by omega)
   ·exact .inl (by omega)
  ·rcases k with k | ⟨k,k'⟩
   ·exact .inl (by omega)
   ·exact .inr ⟨by omega,below_trans h' k'⟩
theorem below_total : ∀ {x y : Bytes},x≠y→below x y = true∨below y x = true
 | [],[],h=>absurd rfl h
 | [],_ :: _,_=>.inl rfl
 | _ :: _,[],_=>.inr rfl
 | a :: r,b :: s,h=>by
  simp only [below,Bool.or_eq_true,Bool.and_eq_true,decide_eq_true_eq,beq_iff_eq]
  by_cases e : a = b
  ·subst e
   have hne : r≠s:=fun z=>h (by rw [z])
   rcases below_total hne with q | q
   ·exact .inl (.inr ⟨rfl,q⟩)
   ·exact .inr (.inr ⟨rfl,q⟩)
  ·rcases Nat.lt_or_gt_of_ne e with q | q
   ·exact .inl (.inl q)
   ·exact .inr (.inl q)
theorem below_asymm {x y : Bytes} (h : below x y = true) : below y x = false:=by
 cases q : below y x with
 | false=>rfl
 | true=>have:=below_trans h q; rw [below_irrefl] at this; cases this
theorem below_ne {x y : Bytes} (h : below x y = true) : x≠y:=fun e=>by subst e; rw [below_irrefl] at h; cases h
abbrev Rising (l : List Bytes) : Prop:=l.Pairwise fun x y=>below x y = true
theorem Rising.nodup {l : List Bytes} (h : Rising l) : l.Nodup:=List.Pairwise.imp (fun q=>below_ne q) h
theorem mem_insertName {n m : Bytes} : ∀ {l : List Bytes},m∈insertName n l↔m = n∨m∈l
 | []=>by simp [insertName]
 | x :: r=>by
  unfold insertName
  split
  ·rename_i e
   subst e
   constructor
   ·exact .inr
   ·rintro (e | h)
    ·rw [e]; exact List.mem_cons_self
    ·exact h
  ·split
   ·exact List.mem_cons
   ·rw [List.mem_cons,mem_insertName (l:=r),List.mem_cons]
    constructor
    ·rintro (h | h | h)
     ·exact .inr (.inl h)
     ·exact .inl h
     ·exact .inr (.inr h)
    ·rintro (h | h | h)
     ·exact .inr (.inl h)
     ·exact .inl h
     ·exact .inr (.inr h)
theorem rising_insertName {n : Bytes} : ∀ {l : List Bytes},Rising l→Rising (insertName n l)
 | [],_=>by simp [insertName,Rising]
 | x :: r,h=>by
  have h1:=List.pairwise_cons.mp h
  unfold insertName
  split
  ·exact h
  ·rename_i hne
   split
   ·rename_i hb
    refine List.pairwise_cons.mpr ⟨fun y hy=>?_,h⟩
    rcases List.mem_cons.mp hy with e | hy
    ·rw [e]; exact hb
    ·exact below_trans hb (h1.1 y hy)
   ·rename_i hb
    refine List.pairwise_cons.mpr ⟨fun y hy=>?_,rising_insertName h1.2⟩
    rcases mem_insertName.mp hy with e | hy
    ·subst e
     rcases below_total hne with q | q
     ·exact absurd q hb
     ·exact q
    ·exact h1.1 y hy
theorem mem_insertAll {m : Bytes} : ∀ {l acc : List Bytes},m∈l.foldl (fun (l : List Bytes) (n : Bytes)=>insertName n l) acc↔m∈acc∨m∈l
 | [],acc=>by simp
 | x :: r,acc=>by
  rw [List.foldl_cons,mem_insertAll (l:=r),mem_insertName,List.mem_cons]
  constructor
  ·rintro ((h | h) | h)
   ·exact .inr (.inl h)
   ·exact .inl h
   ·exact .inr (.inr h)
  ·rintro (h | h | h)
   ·exact .inl (.inr h)
   ·exact .inl (.inl h)
   ·exact .inr h
theorem rising_insertAll : ∀ {l acc : List Bytes},Rising acc→Rising (l.foldl (fun (l : List Bytes) (n : Bytes)=>insertName n l) acc)
 | [],_,h=>h
 | x :: r,acc,h=>by rw [List.foldl_cons]; exact rising_insertAll (rising_insertName h)
def told (c : Case) : List Bytes:=((c.laws ++ c.rules).flatMap Row.atoms) ++ c.rules.map Row.name
theorem mem_atoms {c : Case} {n : Bytes} : n∈c.atoms↔n∈told c:=by
 unfold Case.atoms told
 rw [mem_insertAll]
 simp
theorem rising_atoms (c : Case) : Rising c.atoms:=rising_insertAll List.Pairwise.nil
theorem nodup_atoms (c : Case) : c.atoms.Nodup:=(rising_atoms c).nodup
theorem rising_ext : ∀ {l m : List Bytes},Rising l→Rising m→(∀ x,x∈l↔x∈m)→l = m
 | [],[],_,_,_=>rfl
 | [],y :: s,_,_,h=>by have:=(h y).mpr List.mem_cons_self; cases this
 | x :: r,[],_,_,h=>by have:=(h x).mp List.mem_cons_self; cases this
 | x :: r,y :: s,hl,hm,h=>by
  have h1:=List.pairwise_cons.mp hl
  have h2:=List.pairwise_cons.mp hm
  have e : x = y:=by
   rcases List.mem_cons.mp ((h x).mp List.mem_cons_self) with e | q
   ·exact e
   ·rcases List.mem_cons.mp ((h y).mpr List.mem_cons_self) with e | q'
    ·exact e.symm
    ·have a:=h2.1 x q
     have b:=h1.1 y q'
     rw [below_asymm a] at b; cases b
  subst e
  refine congrArg (x :: ·) (rising_ext h1.2 h2.2 fun z=>?_)
  constructor
  ·intro hz
   rcases List.mem_cons.mp ((h z).mp (List.mem_cons_of_mem _ hz)) with e | q
   ·have:=h1.1 z hz; rw [e,below_irrefl] at this; cases this
   ·exact q
  ·intro hz
   rcases List.mem_cons.mp ((h z).mpr (List.mem_cons_of_mem _ hz)) with e | q
   ·have:=h2.1 z hz; rw [e,below_irrefl] at this; cases this
   ·exact q
theorem length_same {α : Type} [DecidableEq α] : ∀ {l m : List α},l.Nodup→m.Nodup→(∀ x,x∈l↔x∈m)→l.length = m.length:=by
 intro l m hl hm h
 have p : l.Perm m:=(List.perm_ext_iff_of_nodup hl hm).mpr h
 exact p.length_eq
theorem atoms_ext {c d : Case} (h : ∀ n,n∈told c↔n∈told d) : c.atoms = d.atoms :=
 rising_ext (rising_atoms c) (rising_atoms d) fun x=>by rw [mem_atoms,mem_atoms]; exact h x
end ML
end
section
namespace ML
open Mo
theorem held_with (S i j : Nat) : held (with_ S i) j = (held S j || decide (i = j)):=by
 unfold held with_
 rw [Nat.testBit_or,Nat.testBit_two_pow]
theorem held_zero (j : Nat) : held 0 j = false:=by unfold held; exact Nat.zero_testBit j
theorem within_iff {S T : Nat} : within S T = true↔∀ i,held S i = true→held T i = true:=by
 unfold within held
 rw [beq_iff_eq]
 constructor
 ·intro h i hi
  have:=congrArg (fun x=>x.testBit i) h
  simp only [Nat.testBit_and,hi,Bool.true_and] at this
  exact this
 ·intro h
  refine Nat.eq_of_testBit_eq fun i=>?_
  rw [Nat.testBit_and]
  cases q : S.testBit i with
  | false=>rfl
  | true=>rw [h i q]; rfl
theorem held_ext {S T : Nat} (h : ∀ i,held S i = held T i) : S = T:=Nat.eq_of_testBit_eq h
theorem held_fold {α : Type} (f : α→Nat) (j : Nat) : ∀ (l : List α) (m : Nat),held (l.foldl (fun (m : Nat) (x : α)=>with_ m (f x)) m) j = true↔held m j = true∨∃ x∈l,f x = j
 | [],m=>by simp
 | x :: r,m=>by
  rw [List.foldl_cons,held_fold f j r,held_with,Bool.or_eq_true,decide_eq_true_eq]
  constructor
  ·rintro ((h | h) | ⟨y,hy,e⟩)
   ·exact .inl h
   ·exact .inr ⟨x,List.mem_cons_self,h⟩
   ·exact .inr ⟨y,List.mem_cons_of_mem _ hy,e⟩
  ·rintro (h | ⟨y,hy,e⟩)
   ·exact .inl (.inl h)
   ·rcases List.mem_cons.mp hy with z | hy
    ·subst z; exact .inl (.inr e)
    ·exact .inr ⟨y,hy,e⟩
def pass (l : List (Nat × Nat)) (F : Nat) : Nat:=l.foldl (fun (m : Nat) (r : Nat × Nat)=>if within r.1 m = true then with_ m r.2 else m) F
theorem closeFrom_succ (l : List (Nat × Nat)) (f F : Nat) : closeFrom l (f + 1) F = if pass l F = F then F else closeFrom l f (pass l F):=rfl
theorem pass_cons (r : Nat × Nat) (l : List (Nat × Nat)) (F : Nat) : pass (r :: l) F = pass l (if within r.1 F = true then with_ F r.2 else F):=rfl
theorem pass_up : ∀ (l : List (Nat × Nat)) (F i : Nat),held F i = true→held (pass l F) i = true
 | [],_,_,h=>h
 | r :: l,F,i,h=>by
  rw [pass_cons]
  refine pass_up l _ i ?_
  split
  ·rw [held_with,h]; rfl
  ·exact h
inductive Cl (l : List (Nat × Nat)) (F : Nat) : Nat→Prop
 | at_ {i : Nat} : held F i = true→Cl l F i
 | row {r : Nat × Nat} : r∈l→(∀ i,held r.1 i = true→Cl l F i)→Cl l F r.2
theorem pass_sound {l : List (Nat × Nat)} {F0 : Nat} : ∀ (m : List (Nat × Nat)) (F : Nat),(∀ r∈m,r∈l)→(∀ i,held F i = true→Cl l F0 i)→∀ i,held (pass m F) i = true→Cl l F0 i
 | [],_,_,h=>h
 | r :: m,F,hm,h=>by
  rw [pass_cons]
  refine pass_sound m _ (fun q hq=>hm q (List.mem_cons_of_mem _ hq)) ?_
  intro i hi
  by_cases hw : within r.1 F = true
  ·rw [if_pos hw,held_with,Bool.or_eq_true,decide_eq_true_eq] at hi
   rcases hi with hi | hi
   ·exact h i hi
   ·subst hi
    exact .row (hm r List.mem_cons_self) fun j hj=>h j (within_iff.mp hw j hj)
  ·rw [if_neg hw] at hi; exact h i hi
theorem pass_fix {F : Nat} : ∀ {l : List (Nat × Nat)},pass l F = F→∀ r∈l,within r.1 F = true→held F r.2 = true:=by
 intro l
 have key : ∀ (l : List (Nat × Nat)) (E : Nat),(∀ i,held E i = true→held F i = true)→(∀ i,held F i = true→held E i = true)→pass l E = F→∀ r∈l,within r.1 F = true→held F r.2 = true:=by
  intro l
  induction l with
  | nil=>intro _ _ _ _ r hr; cases hr
  | cons q l ih =>
   intro E h1 h2 e r hr hw
   have hE : E = F:=held_ext fun i=>by
    cases a : held E i with
    | true=>exact (h1 i a).symm
    | false=>cases b : held F i with
     | false=>rfl
     | true=>rw [h2 i b] at a; cases a
   subst hE
   rw [pass_cons] at e
   by_cases hq : within q.1 E = true
   ·rw [if_pos hq] at e
    have up : held E q.2 = true:=by
     rw [← e]
     refine pass_up l _ _ ?_
     rw [held_with]; simp
    have eE : with_ E q.2 = E:=held_ext fun i=>by
     rw [held_with]
     by_cases z : q.2 = i
     ·subst z; rw [up]; rfl
     ·simp [z]
    rw [eE] at e
    rcases List.mem_cons.mp hr with z | hr
    ·subst z; exact up
    ·exact ih E h1 h2 e r hr hw
   ·rw [if_neg hq] at e
    rcases List.mem_cons.mp hr with z | hr
    ·subst z; exact absurd hw hq
    ·exact ih E h1 h2 e r hr hw
 intro e
 exact key l F (fun _ h=>h) (fun _ h=>h) e
def left (l : List (Nat × Nat)) (F : Nat) : Nat:=(l.filter fun r=>!held F r.2).length
theorem left_mono : ∀ (l : List (Nat × Nat)) {F G : Nat},(∀ i,held F i = true→held G i = true)→left l G≤left l F
 | [],_,_,_=>Nat.le_refl _
 | r :: l,F,G,h=>by
  have ih:=left_mono l h
  unfold left at ih ⊢
  rw [List.filter_cons,List.filter_cons]
  cases a : held G r.2 with
  | true =>
   cases b : held F r.2 with
   | true=>simpa using ih
   | false=>simp; omega
  | false =>
   have b : held F r.2 = false:=by
    cases b : held F r.2 with
    | false=>rfl
    | true=>rw [h _ b] at a; cases a
   simp only [b,Bool.not_false,if_true,List.length_cons]; omega
theorem left_less : ∀ (l : List (Nat × Nat)) {F G : Nat},(∀ i,held F i = true→held G i = true)→(∃ r∈l,held F r.2 = false∧held G r.2 = true)→left l G < left l F
 | [],_,_,_,⟨_,h,_⟩=>by cases h
 | r :: l,F,G,h,⟨q,hq,q1,q2⟩=>by
  have m:=left_mono l h
  rcases List.mem_cons.mp hq with e | hq
  ·subst e
   unfold left at m ⊢
   rw [List.filter_cons,List.filter_cons,q1,q2]
   simp only [Bool.not_true,Bool.not_false,Bool.false_eq_true,if_false,if_true,List.length_cons]; omega
  ·have ih:=left_less l h ⟨q,hq,q1,q2⟩
   unfold left at ih ⊢
   rw [List.filter_cons,List.filter_cons]
   cases a : held G r.2 with
   | true =>
    cases b : held F r.2 with
    | true=>simpa using ih
    | false=>simp; omega
   | false =>
    have b : held F r.2 = false:=by
     cases b : held F r.2 with
     | false=>rfl
     | true=>rw [h _ b] at a; cases a
    simp only [b,Bool.not_false,if_true,List.length_cons]; omega
theorem pass_new : ∀ (l : List (Nat × Nat)) (F i : Nat),held (pass l F) i = true→held F i = true∨∃ r∈l,r.2 = i
 | [],_,_,h=>.inl h
 | r :: l,F,i,h=>by
  rw [pass_cons] at h
  rcases pass_new l _ i h with h | ⟨q,hq,e⟩
  ·by_cases hw : within r.1 F = true
   ·rw [if_pos hw,held_with,Bool.or_eq_true,decide_eq_true_eq] at h
    rcases h with h | h
    ·exact .inl h
    ·exact .inr ⟨r,List.mem_cons_self,h⟩
   ·rw [if_neg hw] at h; exact .inl h
  ·exact .inr ⟨q,List.mem_cons_of_mem _ hq,e⟩
theorem left_pass {l : List (Nat × Nat)} {F : Nat} (h : pass l F≠F) : left l (pass l F) < left l F:=by
 refine left_less l (pass_up l F) ?_
 apply Classical.byContradiction
 intro hn
 refine h (held_ext fun i=>?_)
 cases a : held F i with
 | true=>exact pass_up l F i a
 | false =>
  cases b : held (pass l F) i with
  | false=>rfl
  | true =>
   rcases pass_new l F i b with z | ⟨r,hr,e⟩
   ·rw [z] at a; cases a
   ·subst e; exact (hn ⟨r,hr,a,b⟩).elim
theorem close_up : ∀ (l : List (Nat × Nat)) (f F i : Nat),held F i = true→held (closeFrom l f F) i = true
 | _,0,_,_,h=>h
 | l,f + 1,F,i,h=>by
  rw [closeFrom_succ]
  split
  ·exact h
  ·exact close_up l f _ i (pass_up l F i h)
theorem close_sound {l : List (Nat × Nat)} {F0 : Nat} : ∀ (f F : Nat),(∀ i,held F i = true→Cl l F0 i)→∀ i,held (closeFrom l f F) i = true→Cl l F0 i
 | 0,_,h=>h
 | f + 1,F,h=>by
  rw [closeFrom_succ]
  split
  ·exact h
  ·exact close_sound f _ (pass_sound l F (fun _ hr=>hr) h)
theorem close_closed {l : List (Nat × Nat)} : ∀ (f F : Nat),left l F < f→∀ r∈l,within r.1 (closeFrom l f F) = true→held (closeFrom l f F) r.2 = true
 | 0,_,h=>by omega
 | f + 1,F,h=>by
  rw [closeFrom_succ]
  by_cases e : pass l F = F
  ·rw [if_pos e]; exact pass_fix e
  ·rw [if_neg e]
   have:=left_pass e
   exact close_closed f _ (by omega)
theorem left_le (l : List (Nat × Nat)) (F : Nat) : left l F≤l.length:=List.length_filter_le _ _
theorem close_iff {l : List (Nat × Nat)} {f F i : Nat} (hf : l.length < f) : held (closeFrom l f F) i = true↔Cl l F i:=by
 constructor
 ·exact close_sound f F (fun i h=>.at_ h) i
 ·intro h
  induction h with
  | at_ h=>exact close_up l f F _ h
  | row hr _ ih=>exact close_closed f F (Nat.lt_of_le_of_lt (left_le l F) hf) _ hr (within_iff.mpr ih)
end ML
end
section
namespace ML
open Mo
inductive Der (c : Case) (S : Nat→Bool) : Lit→Prop
 | name {i : Nat} {r : Row} : c.rules[i]? = some r→S i = true→Der c S ⟨r.name,false⟩
 | law {r : Row} : r∈c.laws→(∀ l∈r.body,Der c S l)→Der c S r.head
 | rule {i : Nat} {r : Row} : c.rules[i]? = some r→S i = true→(∀ l∈r.body,Der c S l)→Der c S r.head
theorem idx_of_mem {a : List Bytes} {n : Bytes} (h : n∈a) : ∃ k,(a.findIdx? fun (m : Bytes)=>m == n) = some k∧a[k]? = some n:=by
 cases e : a.findIdx? fun (m : Bytes)=>m == n with
 | none =>
  rw [List.findIdx?_eq_none_iff] at e
  have:=e n h
  simp at this
 | some k =>
  refine ⟨k,rfl,?_⟩
  obtain ⟨h1,h2,_⟩:=List.findIdx?_eq_some_iff_getElem.mp e
  rw [List.getElem?_eq_getElem h1]
  exact congrArg some (by simpa using h2)
theorem lit_eq {c : Case} {a : List Bytes} {l : Lit} {k : Nat} (h : (a.findIdx? fun (m : Bytes)=>m == l.atom) = some k) : c.lit a l = 2 * k + (if l.no = true then 1 else 0):=by
 unfold Case.lit
 rw [h]
 rfl
theorem lit_inj {c : Case} {a : List Bytes} {l m : Lit} (hl : l.atom∈a) (hm : m.atom∈a) (e : c.lit a l = c.lit a m) : l = m:=by
 obtain ⟨k,h1,h2⟩:=idx_of_mem hl
 obtain ⟨j,h3,h4⟩:=idx_of_mem hm
 rw [lit_eq h1,lit_eq h3] at e
 have ek : k = j:=by
  split at e <;> split at e <;> omega
 subst ek
 rw [h2] at h4
 have ea:=Option.some.inj h4
 obtain ⟨la,ln⟩:=l
 obtain ⟨ma,mn⟩:=m
 simp only at ea e
 subst ea
 cases ln <;> cases mn <;> simp at e <;> rfl
theorem told_law {c : Case} {r : Row} {l : Lit} (hr : r∈c.laws) (hl : l = r.head∨l∈r.body) : l.atom∈c.atoms:=by
 refine mem_atoms.mpr (List.mem_append_left _ (List.mem_flatMap.mpr ⟨r,List.mem_append_left _ hr,?_⟩))
 unfold Row.atoms
 rcases hl with e | h
 ·rw [e]; exact List.mem_cons_self
 ·exact List.mem_cons_of_mem _ (List.mem_map.mpr ⟨l,h,rfl⟩)
theorem told_rule {c : Case} {r : Row} {l : Lit} (hr : r∈c.rules) (hl : l = r.head∨l∈r.body) : l.atom∈c.atoms:=by
 refine mem_atoms.mpr (List.mem_append_left _ (List.mem_flatMap.mpr ⟨r,List.mem_append_right _ hr,?_⟩))
 unfold Row.atoms
 rcases hl with e | h
 ·rw [e]; exact List.mem_cons_self
 ·exact List.mem_cons_of_mem _ (List.mem_map.mpr ⟨l,h,rfl⟩)
theorem told_name {c : Case} {r : Row} (hr : r∈c.rules) : r.name∈c.atoms :=
 mem_atoms.mpr (List.mem_append_right _ (List.mem_map.mpr ⟨r,hr,rfl⟩))
theorem Der.atom {c : Case} {S : Nat→Bool} {l : Lit} (h : Der c S l) : l.atom∈c.atoms:=by
 cases h with
 | name hr _=>exact told_name (List.mem_of_getElem? hr)
 | law hr _=>exact told_law hr (.inl rfl)
 | rule hr _ _=>exact told_rule (List.mem_of_getElem? hr) (.inl rfl)
def bodyMask (c : Case) (r : Row) : Nat:=r.body.foldl (fun (m : Nat) (l : Lit)=>with_ m (c.lit c.atoms l)) 0
theorem numbered_eq (c : Case) : c.numbered = ⟨c.atoms.length,c.laws.map (fun (r : Row)=>(bodyMask c r,c.lit c.atoms r.head)),c.rules.map fun (r : Row)=>(c.lit c.atoms ⟨r.name,false⟩,bodyMask c r,c.lit c.atoms r.head)⟩:=rfl
theorem held_body {c : Case} {r : Row} {j : Nat} : held (bodyMask c r) j = true↔∃ l∈r.body,c.lit c.atoms l = j:=by
 unfold bodyMask
 rw [held_fold,held_zero]
 simp
theorem mem_chosen {α : Type} {l : List α} {S : Nat} {x : α} : x∈(l.zipIdx.filter fun (y : α × Nat)=>held S y.2).map (fun (y : α × Nat)=>y.1)↔∃ i,l[i]? = some x∧held S i = true:=by
 rw [List.mem_map]
 constructor
 ·rintro ⟨⟨y,i⟩,h,e⟩
  rw [List.mem_filter] at h
  have e' : y = x:=e
  subst e'
  exact ⟨i,List.mem_zipIdx_iff_getElem?.mp h.1,h.2⟩
 ·rintro ⟨i,h,hi⟩
  exact ⟨(x,i),List.mem_filter.mpr ⟨List.mem_zipIdx_iff_getElem?.mpr h,hi⟩,rfl⟩
theorem held_follows {c : Case} {S n : Nat} : held (c.numbered.follows S) n = true↔∃ l,Der c (held S) l∧c.lit c.atoms l = n:=by
 rw [numbered_eq]
 unfold Numbered.follows
 simp only
 rw [close_iff (by rw [List.length_append,List.length_map,List.length_map]; omega)]
 constructor
 ·intro h
  induction h with
  | at_ h =>
   rw [held_fold,held_zero] at h
   rcases h with h | ⟨x,hx,e⟩
   ·cases h
   ·obtain ⟨i,h1,h2⟩:=mem_chosen.mp hx
    rw [List.getElem?_map] at h1
    obtain ⟨r,hr,er⟩:=Option.map_eq_some_iff.mp h1
    subst er
    exact ⟨_,.name hr h2,e⟩
  | @row r hr _ ih =>
   have all : ∀ (q : Row),r.1 = bodyMask c q→(∀ l∈q.body,l.atom∈c.atoms)→∀ l∈q.body,Der c (held S) l:=fun q eq hq l hl=>by
    obtain ⟨m,hm,em⟩:=ih (c.lit c.atoms l) (by rw [eq]; exact held_body.mpr ⟨l,hl,rfl⟩)
    rw [← lit_inj hm.atom (hq l hl) em]
    exact hm
   rcases List.mem_append.mp hr with hr | hr
   ·obtain ⟨q,hq,e⟩:=List.mem_map.mp hr
    subst e
    exact ⟨q.head,.law hq (all q rfl fun l hl=>told_law hq (.inr hl)),rfl⟩
   ·obtain ⟨y,hy,e⟩:=List.mem_map.mp hr
    obtain ⟨i,h1,h2⟩:=mem_chosen.mp hy
    rw [List.getElem?_map] at h1
    obtain ⟨q,hq,eq⟩:=Option.map_eq_some_iff.mp h1
    subst eq
    subst e
    exact ⟨q.head,.rule hq h2 (all q rfl fun l hl=>told_rule (List.mem_of_getElem? hq) (.inr hl)),rfl⟩
 ·rintro ⟨l,h,rfl⟩
  induction h with
  | @name i r hr hi =>
   refine .at_ ((held_fold _ _ _ _).mpr (.inr ⟨(c.lit c.atoms ⟨r.name,false⟩,bodyMask c r,c.lit c.atoms r.head),?_,rfl⟩))
   exact mem_chosen.mpr ⟨i,by rw [List.getElem?_map,hr]; rfl,hi⟩
  | @law r hr _ ih =>
   refine Cl.row (r:=(bodyMask c r,c.lit c.atoms r.head)) (List.mem_append_left _ (List.mem_map.mpr ⟨r,hr,rfl⟩)) fun i hi=>?_
   obtain ⟨l,hl,e⟩:=held_body.mp hi
   subst e
   exact ih l hl
  | @rule i r hr hi _ ih =>
   refine Cl.row (r:=(bodyMask c r,c.lit c.atoms r.head)) (List.mem_append_right _ (List.mem_map.mpr ⟨(c.lit c.atoms ⟨r.name,false⟩,bodyMask c r,c.lit c.atoms r.head),?_,rfl⟩)) fun i hi=>?_
   ·exact mem_chosen.mpr ⟨i,by rw [List.getElem?_map,hr]; rfl,hi⟩
   ·obtain ⟨l,hl,e⟩:=held_body.mp hi
    subst e
    exact ih l hl
theorem clash_iff {c : Case} {S : Nat} : c.numbered.clash S = true↔∃ a,Der c (held S) ⟨a,false⟩∧Der c (held S) ⟨a,true⟩:=by
 have hn : c.numbered.atoms = c.atoms.length:=rfl
 unfold Numbered.clash
 simp only
 rw [List.any_eq_true]
 constructor
 ·rintro ⟨k,hk,h⟩
  rw [Bool.and_eq_true] at h
  obtain ⟨l,h1,e1⟩:=held_follows.mp h.1
  obtain ⟨m,h2,e2⟩:=held_follows.mp h.2
  obtain ⟨i,q1,q2⟩:=idx_of_mem h1.atom
  obtain ⟨j,q3,q4⟩:=idx_of_mem h2.atom
  rw [lit_eq q1] at e1
  rw [lit_eq q3] at e2
  obtain ⟨la,ln⟩:=l
  obtain ⟨ma,mn⟩:=m
  have hln : ln = false:=by cases ln with | false=>rfl | true=>simp at e1; omega
  have hmn : mn = true:=by cases mn with | true=>rfl | false=>simp at e2; omega
  subst hln hmn
  have eij : i = j:=by simp at e1 e2; omega
  subst eij
  rw [q2] at q4
  have ea : la = ma:=Option.some.inj q4
  subst ea
  exact ⟨la,h1,h2⟩
 ·rintro ⟨a,h1,h2⟩
  obtain ⟨k,q1,q2⟩:=idx_of_mem (n:=a) h1.atom
  have hk : k < c.atoms.length:=(List.getElem?_eq_some_iff.mp q2).1
  refine ⟨k,List.mem_range.mpr (by rw [hn]; exact hk),?_⟩
  rw [Bool.and_eq_true]
  refine ⟨held_follows.mpr ⟨_,h1,?_⟩,held_follows.mpr ⟨_,h2,?_⟩⟩
  ·rw [lit_eq (l:=⟨a,false⟩) q1]; simp
  ·rw [lit_eq (l:=⟨a,true⟩) q1]; simp
theorem Der.mono {c : Case} {S T : Nat→Bool} (hS : ∀ i,S i = true→T i = true) {l : Lit} (h : Der c S l) : Der c T l:=by
 induction h with
 | name hr hi=>exact .name hr (hS _ hi)
 | law hr _ ih=>exact .law hr ih
 | rule hr hi _ ih=>exact .rule hr (hS _ hi) ih
end ML
end
section
namespace ML
open Mo
def onPass (w : Weighs) (l : List Bytes) : List Bytes:=w.foldl (fun (r : List Bytes) (x : Bytes × Bytes)=>if r.contains x.1 = true∧r.contains x.2 = false then x.2 :: r else r) l
theorem onFrom_succ (w : Weighs) (f : Nat) (l : List Bytes) : onFrom w (f + 1) l = if (onPass w l).length = l.length then l else onFrom w f (onPass w l):=rfl
theorem onPass_cons (x : Bytes × Bytes) (w : Weighs) (l : List Bytes) : onPass (x :: w) l = onPass w (if l.contains x.1 = true∧l.contains x.2 = false then x.2 :: l else l):=rfl
theorem onPass_suffix : ∀ (w : Weighs) (l : List Bytes),∃ k,onPass w l = k ++ l
 | [],l=>⟨[],rfl⟩
 | x :: w,l=>by
  rw [onPass_cons]
  split
  ·obtain ⟨k,e⟩:=onPass_suffix w (x.2 :: l)
   exact ⟨k ++ [x.2],by rw [e]; simp⟩
  ·exact onPass_suffix w l
theorem onPass_up (w : Weighs) (l : List Bytes) {y : Bytes} (h : y∈l) : y∈onPass w l:=by
 obtain ⟨k,e⟩:=onPass_suffix w l
 rw [e]; exact List.mem_append_right _ h
inductive Reach (w : Weighs) (l : List Bytes) : Bytes→Prop
 | at_ {y : Bytes} : y∈l→Reach w l y
 | on {x y : Bytes} : Reach w l x→(x,y)∈w→Reach w l y
theorem onPass_sound {w : Weighs} {l0 : List Bytes} : ∀ (v : Weighs) (l : List Bytes),(∀ p∈v,p∈w)→(∀ y∈l,Reach w l0 y)→∀ y∈onPass v l,Reach w l0 y
 | [],_,_,h=>h
 | x :: v,l,hv,h=>by
  rw [onPass_cons]
  refine onPass_sound v _ (fun p hp=>hv p (List.mem_cons_of_mem _ hp)) ?_
  intro y hy
  split at hy
  ·rename_i hc
   rcases List.mem_cons.mp hy with e | hy
   ·subst e
    exact .on (h x.1 (by simpa using hc.1)) (hv x List.mem_cons_self)
   ·exact h y hy
  ·exact h y hy
theorem onPass_fix {l : List Bytes} : ∀ {w : Weighs},(onPass w l).length = l.length→∀ p∈w,p.1∈l→p.2∈l
 | [],_,p,hp=>by cases hp
 | x :: w,e,p,hp=>by
  rw [onPass_cons] at e
  by_cases hc : l.contains x.1 = true∧l.contains x.2 = false
  ·rw [if_pos hc] at e
   obtain ⟨k,ek⟩:=onPass_suffix w (x.2 :: l)
   rw [ek] at e
   simp at e
   omega
  ·rw [if_neg hc] at e
   rcases List.mem_cons.mp hp with z | hp
   ·subst z
    intro h1
    apply Classical.byContradiction
    intro h2
    exact hc ⟨by simpa using h1,by simpa using h2⟩
   ·exact onPass_fix e p hp
def leftW (w : Weighs) (l : List Bytes) : Nat:=(w.filter fun p=>!l.contains p.2).length
theorem leftW_mono : ∀ (w : Weighs) {l m : List Bytes},(∀ y∈l,y∈m)→leftW w m≤leftW w l
 | [],_,_,_=>Nat.le_refl _
 | p :: w,l,m,h=>by
  have ih:=leftW_mono w h
  unfold leftW at ih ⊢
  rw [List.filter_cons,List.filter_cons]
  cases a : m.contains p.2 with
  | true =>
   cases b : l.contains p.2 with
   | true=>simpa using ih
   | false=>simp only [Bool.not_true,Bool.not_false,Bool.false_eq_true,if_false,if_true,List.length_cons]; omega
  | false =>
   have b : l.contains p.2 = false:=by
    cases b : l.contains p.2 with
    | false=>rfl
    | true=>have:=h p.2 (by simpa using b); have q : m.contains p.2 = true:=by simpa using this
            rw [q] at a; cases a
   simp only [b,Bool.not_false,if_true,List.length_cons]; omega
theorem leftW_less : ∀ (w : Weighs) {l m : List Bytes},(∀ y∈l,y∈m)→(∃ p∈w,l.contains p.2 = false∧m.contains p.2 = true)→leftW w m < leftW w l
 | [],_,_,_,⟨_,h,_⟩=>by cases h
 | p :: w,l,m,h,⟨q,hq,q1,q2⟩=>by
  have mo:=leftW_mono w h
  rcases List.mem_cons.mp hq with e | hq
  ·subst e
   unfold leftW at mo ⊢
   rw [List.filter_cons,List.filter_cons,q1,q2]
   simp only [Bool.not_true,Bool.not_false,Bool.false_eq_true,if_false,if_true,List.length_cons]; omega
  ·have ih:=leftW_less w h ⟨q,hq,q1,q2⟩
   unfold leftW at ih ⊢
   rw [List.filter_cons,List.filter_cons]
   cases a : m.contains p.2 with
   | true =>
    cases b : l.contains p.2 with
    | true=>simpa using ih
    | false=>simp only [Bool.not_true,Bool.not_false,Bool.false_eq_true,if_false,if_true,List.length_cons]; omega
   | false =>
    have b : l.contains p.2 = false:=by
     cases b : l.contains p.2 with
     | false=>rfl
     | true=>have:=h p.2 (by simpa using b); have q : m.contains p.2 = true:=by simpa using this
             rw [q] at a; cases a
    simp only [b,Bool.not_false,if_true,List.length_cons]; omega
theorem onPass_new : ∀ (w : Weighs) (l : List Bytes) (y : Bytes),y∈onPass w l→y∈l∨∃ p∈w,p.2 = y
 | [],_,_,h=>.inl h
 | x :: w,l,y,h=>by
  rw [onPass_cons] at h
  rcases onPass_new w _ y h with h | ⟨p,hp,e⟩
  ·split at h
   ·rcases List.mem_cons.mp h with e | h
    ·exact .inr ⟨x,List.mem_cons_self,e.symm⟩
    ·exact .inl h
   ·exact .inl h
  ·exact .inr ⟨p,List.mem_cons_of_mem _ hp,e⟩
theorem onPass_grows : ∀ (w : Weighs) (l : List Bytes),(onPass w l).length≠l.length→∃ y,y∈onPass w l∧y∉l
 | [],l,h=>absurd rfl h
 | x :: w,l,h=>by
  rw [onPass_cons] at h ⊢
  by_cases hc : l.contains x.1 = true∧l.contains x.2 = false
  ·rw [if_pos hc] at h ⊢
   refine ⟨x.2,onPass_up w _ List.mem_cons_self,fun z=>?_⟩
   have : l.contains x.2 = true:=by simpa using z
   rw [this] at hc; cases hc.2
  ·rw [if_neg hc] at h ⊢
   exact onPass_grows w l h
theorem on_up : ∀ (w : Weighs) (f : Nat) (l : List Bytes) {y : Bytes},y∈l→y∈onFrom w f l
 | _,0,_,_,h=>h
 | w,f + 1,l,y,h=>by
  rw [onFrom_succ]
  split
  ·exact h
  ·exact on_up w f _ (onPass_up w l h)
theorem on_sound {w : Weighs} {l0 : List Bytes} : ∀ (f : Nat) (l : List Bytes),(∀ y∈l,Reach w l0 y)→∀ y∈onFrom w f l,Reach w l0 y
 | 0,_,h=>h
 | f + 1,l,h=>by
  rw [onFrom_succ]
  split
  ·exact h
  ·exact on_sound f _ (onPass_sound w l (fun _ hp=>hp) h)
theorem on_closed {w : Weighs} : ∀ (f : Nat) (l : List Bytes),leftW w l < f→∀ p∈w,p.1∈onFrom w f l→p.2∈onFrom w f l
 | 0,_,h=>by omega
 | f + 1,l,h=>by
  rw [onFrom_succ]
  by_cases e : (onPass w l).length = l.length
  ·rw [if_pos e]; exact onPass_fix e
  ·rw [if_neg e]
   obtain ⟨y,h1,h2⟩:=onPass_grows w l e
   have less : leftW w (onPass w l) < leftW w l:=by
    refine leftW_less w (fun z hz=>onPass_up w l hz) ?_
    rcases onPass_new w l y h1 with z | ⟨p,hp,ep⟩
    ·exact absurd z h2
    ·subst ep
     refine ⟨p,hp,?_,by simpa using h1⟩
     cases b : l.contains p.2 with
     | false=>rfl
     | true=>exact absurd (by simpa using b) h2
   exact on_closed f _ (by omega)
theorem mem_on {w : Weighs} {f : Nat} {l : List Bytes} {y : Bytes} (hf : w.length < f) : y∈onFrom w f l↔Reach w l y:=by
 constructor
 ·exact on_sound f l (fun y h=>.at_ h) y
 ·intro h
  induction h with
  | at_ h=>exact on_up w f l h
  | on _ hp ih=>exact on_closed f l (Nat.lt_of_le_of_lt (List.length_filter_le _ _) hf) _ hp ih
inductive Over (w : Weighs) : Bytes→Bytes→Prop
 | one {x y : Bytes} : (x,y)∈w→Over w x y
 | on {x y z : Bytes} : Over w x y→(y,z)∈w→Over w x z
theorem Over.trans {w : Weighs} {x y z : Bytes} (h : Over w x y) (k : Over w y z) : Over w x z:=by
 induction k with
 | one p=>exact .on h p
 | on _ p ih=>exact .on ih p
theorem Over.mono {w v : Weighs} (s : ∀ p∈w,p∈v) {x y : Bytes} (h : Over w x y) : Over v x y:=by
 induction h with
 | one p=>exact .one (s _ p)
 | on _ p ih=>exact .on ih (s _ p)
theorem outweighs_iff {w : Weighs} {x y : Bytes} : outweighs w x y = true↔Over w x y:=by
 unfold outweighs
 rw [List.any_eq_true]
 constructor
 ·rintro ⟨z,hz,h⟩
  rw [Bool.and_eq_true,beq_iff_eq] at h
  have r:=(mem_on (Nat.lt_succ_self _)).mp (List.contains_iff_mem.mp h.2)
  have hz1 : (x,z.2)∈w:=by rw [← h.1]; exact hz
  induction r with
  | at_ hm =>
   have e:=List.mem_singleton.mp hm
   rw [e]; exact .one hz1
  | @on a b hr hp ih =>
   have:=ih ⟨h.1,List.contains_iff_mem.mpr ((mem_on (Nat.lt_succ_self _)).mpr hr)⟩
   exact .on this hp
 ·intro h
  induction h with
  | @one y p=>exact ⟨(x,y),p,by rw [Bool.and_eq_true]; exact ⟨beq_self_eq_true _,List.contains_iff_mem.mpr ((mem_on (Nat.lt_succ_self _)).mpr (.at_ List.mem_cons_self))⟩⟩
  | @on a b _ p ih =>
   obtain ⟨z,hz,h⟩:=ih
   rw [Bool.and_eq_true] at h
   refine ⟨z,hz,?_⟩
   rw [Bool.and_eq_true]
   exact ⟨h.1,List.contains_iff_mem.mpr ((mem_on (Nat.lt_succ_self _)).mpr (.on ((mem_on (Nat.lt_succ_self _)).mp (List.contains_iff_mem.mp h.2)) p))⟩
theorem goesRound_iff {w : Weighs} : goesRound w = true↔∃ x,Over w x x:=by
 unfold goesRound
 rw [List.any_eq_true]
 constructor
 ·rintro ⟨z,_,h⟩
  exact ⟨z.1,outweighs_iff.mp h⟩
 ·rintro ⟨x,h⟩
  have first : ∀ {a b : Bytes},Over w a b→∃ z∈w,z.1 = a:=by
   intro a b h
   induction h with
   | @one y p=>exact ⟨(a,y),p,rfl⟩
   | on _ _ ih=>exact ih
  obtain ⟨z,hz,e⟩:=first h
  exact ⟨z,hz,by rw [e]; exact outweighs_iff.mpr h⟩
theorem over_snoc {w : Weighs} {a b x y : Bytes} : Over (w ++ [(a,b)]) x y↔Over w x y∨((x = a∨Over w x a)∧(y = b∨Over w b y)):=by
 constructor
 ·intro h
  induction h with
  | @one y p =>
   rcases List.mem_append.mp p with q | q
   ·exact .inl (.one q)
   ·have e:=List.mem_singleton.mp q
    cases e
    exact .inr ⟨.inl rfl,.inl rfl⟩
  | @on y z h p ih =>
   rcases List.mem_append.mp p with q | q
   ·rcases ih with ih | ⟨h1,h2⟩
    ·exact .inl (.on ih q)
    ·refine .inr ⟨h1,?_⟩
     rcases h2 with e | h2
     ·rw [e] at q; exact .inr (.one q)
     ·exact .inr (.on h2 q)
   ·have e:=List.mem_singleton.mp q
    have e1 : y = a:=congrArg Prod.fst e
    have e2 : z = b:=congrArg Prod.snd e
    rcases ih with ih | ⟨h1,_⟩
    ·rw [e1] at ih; exact .inr ⟨.inr ih,.inl e2⟩
    ·exact .inr ⟨h1,.inl e2⟩
 ·have up : ∀ {u v : Bytes},Over w u v→Over (w ++ [(a,b)]) u v:=fun h=>h.mono fun p hp=>List.mem_append_left _ hp
  have ab : Over (w ++ [(a,b)]) a b:=.one (List.mem_append_right _ List.mem_cons_self)
  rintro (h | ⟨h1,h2⟩)
  ·exact up h
  ·have h3 : Over (w ++ [(a,b)]) x b:=by
    rcases h1 with e | h1
    ·rw [e]; exact ab
    ·exact (up h1).trans ab
   rcases h2 with e | h2
   ·rw [e]; exact h3
   ·exact h3.trans (up h2)
theorem goesRound_snoc {w : Weighs} {a b : Bytes} (hw : goesRound w = false) : goesRound (w ++ [(a,b)]) = true↔a = b∨Over w b a:=by
 have no : ∀ x,¬ Over w x x:=fun x h=>by rw [goesRound_iff.mpr ⟨x,h⟩] at hw; cases hw
 rw [goesRound_iff]
 constructor
 ·rintro ⟨x,h⟩
  rcases over_snoc.mp h with h | ⟨h1,h2⟩
  ·exact absurd h (no x)
  ·rcases h1 with e | h1
   ·subst e
    rcases h2 with e | h2
    ·exact .inl e
    ·exact .inr h2
   ·rcases h2 with e | h2
    ·rw [e] at h1; exact .inr h1
    ·exact .inr (h2.trans h1)
 ·rintro (e | h)
  ·exact ⟨a,over_snoc.mpr (.inr ⟨.inl rfl,.inl e⟩)⟩
  ·exact ⟨a,over_snoc.mpr (.inr ⟨.inl rfl,.inr h⟩)⟩
end ML
end
section
namespace ML
open Mo
theorem perm_insertRow (r : Row) : ∀ l : List Row,(insertRow r l).Perm (r :: l)
 | []=>.refl _
 | x :: l=>by
  unfold insertRow
  split
  ·exact .refl _
  ·exact ((perm_insertRow r l).cons x).trans (.swap r x l)
theorem perm_insertRows : ∀ (l acc : List Row),(l.foldl (fun (l : List Row) (r : Row)=>insertRow r l) acc).Perm (l ++ acc)
 | [],_=>.refl _
 | r :: l,acc=>by
  rw [List.foldl_cons]
  refine (perm_insertRows l _).trans ?_
  refine ((perm_insertRow r acc).append_left l).trans ?_
  exact List.perm_middle
abbrev RowsRise (l : List Row) : Prop:=l.Pairwise fun x y=>below x.name y.name = true
theorem rise_insertRow (r : Row) : ∀ l : List Row,RowsRise l→(∀ x∈l,x.name≠r.name)→RowsRise (insertRow r l)
 | [],_,_=>by simp [insertRow,RowsRise]
 | x :: l,h,hn=>by
  have h1:=List.pairwise_cons.mp h
  unfold insertRow
  by_cases hb : below r.name x.name = true
  ·rw [if_pos hb]
   refine List.pairwise_cons.mpr ⟨fun y hy=>?_,h⟩
   rcases List.mem_cons.mp hy with e | hy
   ·rw [e]; exact hb
   ·exact below_trans hb (h1.1 y hy)
  ·rw [if_neg hb]
   refine List.pairwise_cons.mpr ⟨fun y hy=>?_,rise_insertRow r l h1.2 fun z hz=>hn z (List.mem_cons_of_mem _ hz)⟩
   rcases List.mem_cons.mp ((perm_insertRow r l).mem_iff.mp hy) with e | hy
   ·rw [e]
    rcases below_total (hn x List.mem_cons_self) with q | q
    ·exact q
    ·exact absurd q hb
   ·exact h1.1 y hy
theorem rise_insertRows : ∀ (l acc : List Row),RowsRise acc→((l ++ acc).map Row.name).Nodup→RowsRise (l.foldl (fun (l : List Row) (r : Row)=>insertRow r l) acc)
 | [],_,h,_=>h
 | r :: l,acc,h,hn=>by
  rw [List.foldl_cons]
  have hp : ((l ++ insertRow r acc).map Row.name).Perm ((r :: l ++ acc).map Row.name) :=
   ((((perm_insertRow r acc).append_left l).trans List.perm_middle)).map _
  refine rise_insertRows l _ (rise_insertRow r acc h fun x hx e=>?_) (hp.nodup_iff.mpr hn)
  rw [List.cons_append,List.map_cons,List.nodup_cons] at hn
  exact hn.1 (by rw [← e]; exact List.mem_map.mpr ⟨x,List.mem_append_right _ hx,rfl⟩)
theorem mem_insertPair {p q : Bytes × Bytes} : ∀ {l : Weighs},q∈insertPair p l↔q = p∨q∈l
 | []=>by simp [insertPair]
 | x :: r=>by
  unfold insertPair
  split
  ·rename_i e
   subst e
   constructor
   ·exact .inr
   ·rintro (e | h)
    ·rw [e]; exact List.mem_cons_self
    ·exact h
  ·split
   ·exact List.mem_cons
   ·rw [List.mem_cons,mem_insertPair (l:=r),List.mem_cons]
    constructor
    ·rintro (h | h | h)
     ·exact .inr (.inl h)
     ·exact .inl h
     ·exact .inr (.inr h)
    ·rintro (h | h | h)
     ·exact .inr (.inl h)
     ·exact .inl h
     ·exact .inr (.inr h)
theorem mem_insertPairs {q : Bytes × Bytes} : ∀ {l acc : Weighs},q∈l.foldl (fun (l : Weighs) (p : Bytes × Bytes)=>insertPair p l) acc↔q∈acc∨q∈l
 | [],acc=>by simp
 | x :: r,acc=>by
  rw [List.foldl_cons,mem_insertPairs (l:=r),mem_insertPair,List.mem_cons]
  constructor
  ·rintro ((h | h) | h)
   ·exact .inr (.inl h)
   ·exact .inl h
   ·exact .inr (.inr h)
  ·rintro (h | h | h)
   ·exact .inl (.inr h)
   ·exact .inl (.inl h)
   ·exact .inr h
theorem mem_formWeighs {names : List Bytes} {w : Weighs} {p : Bytes × Bytes} : p∈formWeighs names w↔p∈w∧¬ ∃ z∈names,Over w p.1 z∧Over w z p.2:=by
 unfold formWeighs
 rw [mem_insertPairs,List.mem_filter]
 simp only [List.not_mem_nil,false_or,Bool.not_eq_true',List.any_eq_false,Bool.and_eq_true,outweighs_iff,not_exists,not_and]
def Among (names : List Bytes) (w : Weighs) : Prop:=∀ p∈w,p.1∈names∧p.2∈names
theorem Over.among {names : List Bytes} {w : Weighs} (hw : Among names w) {x y : Bytes} (h : Over w x y) : x∈names∧y∈names:=by
 induction h with
 | one p=>exact hw _ p
 | on _ p ih=>exact ⟨ih.1,(hw _ p).2⟩
theorem told_of_bare {names : List Bytes} {w : Weighs} (hw : Among names w) {x y : Bytes} (h : Over w x y) (hn : ¬ ∃ z∈names,Over w x z∧Over w z y) : (x,y)∈w:=by
 cases h with
 | one p=>exact p
 | @on m _ h p=>exact absurd ⟨m,(hw _ p).1,h,.one p⟩ hn
theorem mem_form_iff {names : List Bytes} {w : Weighs} (hw : Among names w) {p : Bytes × Bytes} : p∈formWeighs names w↔Over w p.1 p.2∧¬ ∃ z∈names,Over w p.1 z∧Over w z p.2:=by
 rw [mem_formWeighs]
 constructor
 ·rintro ⟨h1,h2⟩
  exact ⟨.one h1,h2⟩
 ·rintro ⟨h1,h2⟩
  exact ⟨told_of_bare hw h1 h2,h2⟩
def gap (names : List Bytes) (w : Weighs) (x y : Bytes) : Nat:=(names.filter fun z=>outweighs w x z && outweighs w z y).length
theorem filter_less {α : Type} (p q : α→Bool) : ∀ (l : List α),(∀ x∈l,p x = true→q x = true)→(∃ x∈l,p x = false∧q x = true)→(l.filter p).length < (l.filter q).length
 | [],_,⟨_,h,_⟩=>by cases h
 | a :: l,h,⟨x,hx,h1,h2⟩=>by
  have mono : ∀ (l : List α),(∀ x∈l,p x = true→q x = true)→(l.filter p).length≤(l.filter q).length:=by
   intro l
   induction l with
   | nil=>intro _; exact Nat.le_refl _
   | cons b l ih =>
    intro hh
    have ih':=ih fun y hy=>hh y (List.mem_cons_of_mem _ hy)
    rw [List.filter_cons,List.filter_cons]
    cases pb : p b with
    | true=>rw [hh b List.mem_cons_self pb]; simp; exact ih'
    | false =>
     cases q b with
     | true=>simp; omega
     | false=>simpa using ih'
  rw [List.filter_cons,List.filter_cons]
  rcases List.mem_cons.mp hx with e | hx
  ·subst e
   rw [h1,h2]
   have:=mono l fun y hy=>h y (List.mem_cons_of_mem _ hy)
   simp; omega
  ·have ih:=filter_less p q l (fun y hy=>h y (List.mem_cons_of_mem _ hy)) ⟨x,hx,h1,h2⟩
   cases pa : p a with
   | true=>rw [h a List.mem_cons_self pa]; simp; exact ih
   | false =>
    cases q a with
    | true=>simp; omega
    | false=>simpa using ih
theorem over_form {names : List Bytes} {w : Weighs} (hw : Among names w) (ha : goesRound w = false) {x y : Bytes} : Over (formWeighs names w) x y↔Over w x y:=by
 have no : ∀ x,¬ Over w x x:=fun x h=>by rw [goesRound_iff.mpr ⟨x,h⟩] at ha; cases ha
 constructor
 ·exact fun h=>h.mono fun p hp=>(mem_formWeighs.mp hp).1
 ·have key : ∀ (n : Nat) (x y : Bytes),gap names w x y < n→Over w x y→Over (formWeighs names w) x y:=by
   intro n
   induction n with
   | zero=>intro _ _ h; omega
   | succ n ih =>
    intro x y hg h
    by_cases hz : ∃ z∈names,Over w x z∧Over w z y
    ·obtain ⟨z,hz,h1,h2⟩:=hz
     have less1 : gap names w x z < gap names w x y:=by
      refine filter_less _ _ names (fun u _ hu=>?_) ⟨z,hz,?_,?_⟩
      ·rw [Bool.and_eq_true] at hu ⊢
       exact ⟨hu.1,outweighs_iff.mpr ((outweighs_iff.mp hu.2).trans h2)⟩
      ·cases q : outweighs w x z && outweighs w z z with
       | false=>rfl
       | true=>rw [Bool.and_eq_true] at q; exact absurd (outweighs_iff.mp q.2) (no z)
      ·rw [Bool.and_eq_true]; exact ⟨outweighs_iff.mpr h1,outweighs_iff.mpr h2⟩
     have less2 : gap names w z y < gap names w x y:=by
      refine filter_less _ _ names (fun u _ hu=>?_) ⟨z,hz,?_,?_⟩
      ·rw [Bool.and_eq_true] at hu ⊢
       exact ⟨outweighs_iff.mpr (h1.trans (outweighs_iff.mp hu.1)),hu.2⟩
      ·cases q : outweighs w z z && outweighs w z y with
       | false=>rfl
       | true=>rw [Bool.and_eq_true] at q; exact absurd (outweighs_iff.mp q.1) (no z)
      ·rw [Bool.and_eq_true]; exact ⟨outweighs_iff.mpr h1,outweighs_iff.mpr h2⟩
     exact (ih x z (by omega) h1).trans (ih z y (by omega) h2)
    ·exact .one ((mem_form_iff hw).mpr ⟨h,hz⟩)
  exact fun h=>key _ x y (Nat.lt_succ_self _) h
theorem form_laws (c : Case) : c.form.laws.Perm c.laws:=(perm_insertRows c.laws []).trans (by rw [List.append_nil])
theorem form_rules (c : Case) : c.form.rules.Perm c.rules:=(perm_insertRows c.rules []).trans (by rw [List.append_nil])
end ML
end
section
namespace ML
open Mo
def split (m : Nat) : Bytes→List Bytes
 | []=>[[]]
 | c :: r=>if c = m then [] :: split m r else match split m r with
  | []=>[[c]]
  | w :: l=>(c :: w) :: l
theorem split_ne (m : Nat) (b : Bytes) : split m b≠[]:=by
 cases b with
 | nil=>simp [split]
 | cons c r =>
  unfold split
  split
  ·simp
  ·split <;> simp
theorem wordsOf_eq : ∀ b : Bytes,wordsOf b = split 32 b
 | []=>rfl
 | c :: r=>by
  have ih:=wordsOf_eq r
  unfold wordsOf split
  rw [ih]
  by_cases h : c = 32
  ·rw [if_pos h,if_pos h]
  ·rw [if_neg h,if_neg h]
   cases split 32 r <;> rfl
theorem linesOf_eq : ∀ t : Bytes,split 10 t = (linesOf t).1 ++ [(linesOf t).2]
 | []=>rfl
 | c :: r=>by
  have ih:=linesOf_eq r
  have e : linesOf (c :: r) = (let x:=linesOf r
   if c = 10 then ([] :: x.1,x.2) else match x.1 with
    | []=>([],c :: x.2)
    | l :: m=>((c :: l) :: m,x.2)):=rfl
  rw [e]
  unfold split
  rw [ih]
  simp only
  by_cases h : c = 10
  ·rw [if_pos h,if_pos h]; rfl
  ·rw [if_neg h,if_neg h]
   cases (linesOf r).1 with
   | nil=>rfl
   | cons l m=>rfl
def splitGo (m : Nat) (part : Bytes) : Bytes→List Bytes
 | []=>[part]
 | c :: r=>if c = m then part :: splitGo m [] r else splitGo m (part ++ [c]) r
def glue (p : Bytes) : List Bytes→List Bytes
 | []=>[p]
 | x :: l=>(p ++ x) :: l
theorem splitGo_eq (m : Nat) : ∀ (b part : Bytes),splitGo m part b = glue part (split m b)
 | [],part=>by simp [splitGo,split,glue]
 | c :: r,part=>by
  unfold splitGo split
  by_cases h : c = m
  ·rw [if_pos h,if_pos h,splitGo_eq m r []]
   cases e : split m r with
   | nil=>exact absurd e (split_ne m r)
   | cons x l=>simp [glue]
  ·rw [if_neg h,if_neg h,splitGo_eq m r (part ++ [c])]
   cases e : split m r with
   | nil=>exact absurd e (split_ne m r)
   | cons x l=>simp [glue]
theorem split_eq (m : Nat) (b : Bytes) : splitGo m [] b = split m b:=by
 rw [splitGo_eq]
 cases e : split m b with
 | nil=>exact absurd e (split_ne m b)
 | cons x l=>simp [glue]
def bodyOf : List Bytes→Option (List Lit)
 | []=>some []
 | [w]=>(litOf w).map fun (l : Lit)=>[l]
 | w :: x :: r=>if w.getLast? = some 44 then (match litOf w.dropLast,bodyOf (x :: r) with
  | some l,some z=>some (l :: z)
  | _,_=>none)
  else none
theorem bodyOf_ne {x : Bytes} {r : List Bytes} {z : List Lit} (h : bodyOf (x :: r) = some z) : z≠[]:=by
 cases r with
 | nil =>
  unfold bodyOf at h
  obtain ⟨l,_,e⟩:=Option.map_eq_some_iff.mp h
  rw [← e]; simp
 | cons y r =>
  unfold bodyOf at h
  split at h
  ·split at h
   ·rw [← Option.some.inj h]; simp
   ·cases h
  ·cases h
structure Arrow (arrow : Bytes) : Prop where
 no : litOf arrow = none
 last : arrow.getLast?≠some 44
theorem bodyIn_eq {arrow : Bytes} (ha : Arrow arrow) (a h : Bytes) : ∀ bs : List Bytes,bodyIn arrow (bs ++ [a,h]) = if a = arrow then (match bodyOf bs,litOf h with
 | some b,some l=>some (b,l)
 | _,_=>none) else none
 | []=>by
  show bodyIn arrow [a,h] = _
  unfold bodyIn bodyOf
  cases litOf h <;> rfl
 | [w]=>by
  show bodyIn arrow [w,a,h] = _
  unfold bodyIn bodyOf
  by_cases e : a = arrow
  ·rw [if_pos e,if_pos e]
   cases hw : litOf w <;> cases hh : litOf h <;> simp [hh]
  ·rw [if_neg e,if_neg e]
   split
   ·have q : bodyIn arrow [a,h] = none:=by unfold bodyIn; rw [if_neg e]
    rw [q]
    cases litOf w.dropLast <;> rfl
   ·rfl
 | w :: x :: bs=>by
  have ih:=bodyIn_eq ha a h (x :: bs)
  show bodyIn arrow (w :: x :: (bs ++ [a,h])) = _
  have ih' : bodyIn arrow (x :: (bs ++ [a,h])) = _:=ih
  obtain ⟨y,z,rest,er⟩ : ∃ y z rest,bs ++ [a,h] = y :: z :: rest:=by
   cases bs with
   | nil=>exact ⟨a,h,[],rfl⟩
   | cons b bs =>
    cases bs with
    | nil=>exact ⟨b,a,[h],rfl⟩
    | cons d bs=>exact ⟨b,d,bs ++ [a,h],rfl⟩
  rw [er] at ih' ⊢
  unfold bodyIn
  by_cases e : x = arrow
  ·rw [if_pos e]
   have nb : bodyOf (x :: bs) = none:=by
    rw [e]
    cases bs with
    | nil=>unfold bodyOf; rw [ha.no]; rfl
    | cons b bs=>unfold bodyOf; rw [if_neg ha.last]
   have nb2 : bodyOf (w :: x :: bs) = none:=by
    unfold bodyOf
    rw [nb]
    split
    ·cases litOf w.dropLast <;> rfl
    ·rfl
   rw [nb2]
   have ee : (if a = arrow then (match (none : Option (List Lit)),litOf h with
    | some b,some l=>some (b,l)
    | _,_=>none) else none) = (none : Option (List Lit × Lit)):=by split <;> rfl
   rw [ee]
  ·rw [if_neg e,ih']
   have eb : bodyOf (w :: x :: bs) = if w.getLast? = some 44 then (match litOf w.dropLast,bodyOf (x :: bs) with
    | some l,some z=>some (l :: z)
    | _,_=>none) else none:=by rw [bodyOf]
   rw [eb]
   by_cases c : w.getLast? = some 44
   ·rw [if_pos c,if_pos c]
    by_cases aa : a = arrow
    ·rw [if_pos aa,if_pos aa]
     cases litOf w.dropLast with
     | none=>cases bodyOf (x :: bs) <;> cases litOf h <;> rfl
     | some l =>
      cases q : bodyOf (x :: bs) with
      | none=>rfl
      | some b =>
       have hb:=bodyOf_ne q
       cases litOf h with
       | none=>rfl
       | some m=>simp [hb]
    ·rw [if_neg aa,if_neg aa]
     cases litOf w.dropLast <;> rfl
   ·rw [if_neg c,if_neg c]
    split
    ·rfl
    ·rfl
theorem bodyIn_short (arrow : Bytes) : ∀ {r : List Bytes},r.length < 2→bodyIn arrow r = none
 | [],_=>rfl
 | [_],_=>rfl
 | _ :: _ :: _,h=>by simp at h; omega
theorem arrow_law : Arrow (ascii "->"):=⟨by decide,by decide⟩
theorem arrow_rule : Arrow (ascii "=>"):=⟨by decide,by decide⟩
def allSome {α : Type} : List (Option α)→Option (List α)
 | []=>some []
 | none :: _=>none
 | some a :: r=>(allSome r).map (a :: ·)
def woEnd (sign : Nat) (w : Bytes) : Bytes:=if w.getLast? = some sign then w.dropLast else []
def bare (ws : List Bytes) : List Bytes:=ws.dropLast.map (woEnd 44) ++ ws.getLast?.toList
theorem litOf_nil : litOf [] = none:=by decide
theorem bare_cons (w x : Bytes) (r : List Bytes) : bare (w :: x :: r) = woEnd 44 w :: bare (x :: r):=by
 unfold bare
 rw [List.dropLast_cons_of_ne_nil (by simp),List.map_cons,List.getLast?_cons_cons]
 rfl
theorem bodyOf_bare : ∀ ws : List Bytes,bodyOf ws = allSome ((bare ws).map litOf)
 | []=>rfl
 | [w]=>by
  unfold bodyOf bare
  simp only [List.dropLast_singleton,List.map_nil,List.nil_append,List.getLast?_singleton,Option.toList_some,List.map_cons]
  cases litOf w <;> rfl
 | w :: x :: r=>by
  have ih:=bodyOf_bare (x :: r)
  have eb : bodyOf (w :: x :: r) = if w.getLast? = some 44 then (match litOf w.dropLast,bodyOf (x :: r) with
   | some l,some z=>some (l :: z)
   | _,_=>none) else none:=by rw [bodyOf]
  rw [eb,bare_cons,List.map_cons,ih]
  unfold woEnd
  by_cases c : w.getLast? = some 44
  ·rw [if_pos c,if_pos c]
   cases litOf w.dropLast with
   | none=>cases allSome (List.map litOf (bare (x :: r))) <;> rfl
   | some l =>
    have ea : allSome (some l :: List.map litOf (bare (x :: r))) = (allSome (List.map litOf (bare (x :: r)))).map (l :: ·):=rfl
    rw [ea]
    cases allSome (List.map litOf (bare (x :: r))) <;> rfl
  ·rw [if_neg c,if_neg c,litOf_nil]; rfl
theorem allSome_none {α : Type} : ∀ {l : List (Option α)},allSome l = none↔none∈l
 | []=>by simp [allSome]
 | none :: r=>by simp [allSome]
 | some a :: r=>by
  unfold allSome
  rw [Option.map_eq_none_iff,allSome_none (l:=r)]
  simp
theorem allSome_some {α : Type} : ∀ {l : List (Option α)} {m : List α},allSome l = some m↔l = m.map some
 | [],m=>by cases m <;> simp [allSome]
 | none :: r,m=>by cases m <;> simp [allSome]
 | some a :: r,m=>by
  unfold allSome
  rw [Option.map_eq_some_iff]
  constructor
  ·rintro ⟨k,hk,e⟩
   subst e
   rw [allSome_some.mp hk]; rfl
  ·intro h
   cases m with
   | nil=>simp at h
   | cons b m =>
    rw [List.map_cons] at h
    injection h with h1 h2
    exact ⟨m,allSome_some.mpr h2,by rw [Option.some.inj h1]⟩
theorem bodyOf_length {ws : List Bytes} {b : List Lit} (h : bodyOf ws = some b) : b.length = ws.length:=by
 rw [bodyOf_bare] at h
 have e:=congrArg List.length (allSome_some.mp h)
 rw [List.length_map,List.length_map] at e
 rw [← e]
 unfold bare
 cases ws with
 | nil=>rfl
 | cons w r=>rw [List.length_append,List.length_map,List.length_dropLast,List.getLast?_eq_some_getLast (by simp)]; simp
theorem isName_nil : isName [] = false:=by decide
theorem isName_woEnd {s : Nat} {n : Bytes} : isName (woEnd s n) = true↔n.getLast? = some s∧isName n.dropLast = true:=by
 unfold woEnd
 by_cases c : n.getLast? = some s
 ·rw [if_pos c]; exact ⟨fun h=>⟨c,h⟩,fun h=>h.2⟩
 ·rw [if_neg c,isName_nil]
  exact ⟨fun h=>(by cases h),fun h=>absurd h.1 c⟩
def pBody (ws : List Bytes) : Option (List Lit):=if 6 < ws.length then none else bodyOf ws
def pClause (arrow : Bytes) (W : List Bytes) : Option Row :=
 if W.length < 4∨W[W.length - 2]?≠some arrow then none else
  if isName (woEnd 58 (W.getD 1 [])) = true then (match pBody ((W.drop 2).take (W.length - 4)),litOf (W.getLast?.getD []) with
   | some b,some h=>some ⟨woEnd 58 (W.getD 1 []),b,h⟩
   | _,_=>none) else none
theorem snoc2 {α : Type} : ∀ {r : List α},2≤r.length→∃ bs a h,r = bs ++ [a,h]
 | [],h=>by simp at h
 | [_],h=>by simp at h
 | [a,h],_=>⟨[],a,h,rfl⟩
 | a :: b :: c :: r,_=>by
  obtain ⟨bs,x,y,e⟩:=snoc2 (r:=b :: c :: r) (by simp)
  exact ⟨a :: bs,x,y,by rw [e]; rfl⟩
theorem rowIn_eq {arrow : Bytes} (ha : Arrow arrow) (w n : Bytes) (r : List Bytes) : rowIn arrow n r = pClause arrow (w :: n :: r):=by
 unfold rowIn pClause
 by_cases hs : r.length < 2
 ·rw [bodyIn_short arrow hs,if_pos (Or.inl (by simp; omega))]
  split <;> rfl
 ·obtain ⟨bs,a,h,e⟩:=snoc2 (r:=r) (by omega)
  subst e
  have el : (w :: n :: (bs ++ [a,h])).length = bs.length + 4:=by simp
  have eg : (w :: n :: (bs ++ [a,h]))[(w :: n :: (bs ++ [a,h])).length - 2]? = some a:=by
   rw [el]
   show (w :: n :: (bs ++ [a,h]))[bs.length + 2]? = some a
   simp
  have et : ((w :: n :: (bs ++ [a,h])).drop 2).take ((w :: n :: (bs ++ [a,h])).length - 4) = bs:=by
   rw [el]
   show (bs ++ [a,h]).take bs.length = bs
   simp
  have eh : (w :: n :: (bs ++ [a,h])).getLast?.getD [] = h:=by
   have : w :: n :: (bs ++ [a,h]) = (w :: n :: (bs ++ [a])) ++ [h]:=by simp
   rw [this,List.getLast?_concat]; rfl
  rw [bodyIn_eq ha,eg,et,eh]
  show _ = if _∨some a≠some arrow then none else if isName (woEnd 58 n) = true then (match pBody bs,litOf h with
   | some b,some h=>some (⟨woEnd 58 n,b,h⟩ : Row)
   | _,_=>none) else none
  by_cases aa : a = arrow
  ·rw [if_pos aa]
   have hc : ¬ ((w :: n :: (bs ++ [a,h])).length < 4∨some a≠some arrow):=by rw [el,aa]; simp
   rw [if_neg hc]
   by_cases hn : n.getLast? = some 58∧isName n.dropLast = true
   ·rw [if_pos hn,if_pos (isName_woEnd.mpr hn)]
    have ew : woEnd 58 n = n.dropLast:=by unfold woEnd; rw [if_pos hn.1]
    rw [ew]
    unfold pBody
    cases q : bodyOf bs with
    | none =>
     have e6 : (if 6 < bs.length then none else none) = (none : Option (List Lit)):=by split <;> rfl
     rw [e6]
     cases litOf h <;> rfl
    | some b =>
     have lb:=bodyOf_length q
     cases litOf h with
     | none =>
      generalize (if 6 < bs.length then none else some b) = z
      cases z <;> rfl
     | some m =>
      by_cases six : 6 < bs.length
      ·rw [if_pos six]
       show (if b.length≤BODY then _ else none) = none
       rw [if_neg (by rw [lb]; show ¬ bs.length≤6; omega)]
      ·rw [if_neg six]
       show (if b.length≤BODY then _ else none) = _
       rw [if_pos (by rw [lb]; show bs.length≤6; omega)]
   ·rw [if_neg hn,if_neg (fun z=>hn (isName_woEnd.mp z))]
  ·have hc : (w :: n :: (bs ++ [a,h])).length < 4∨some a≠some arrow:=Or.inr (by simpa using aa)
   rw [if_neg aa,if_pos hc]
   split <;> rfl
def pWeigh (W : List Bytes) : Option (Bytes × Bytes) :=
 if W.length≠4∨W[2]?≠some [62] then none else if isName (W.getD 1 []) = true∧isName (W.getD 3 []) = true then some (W.getD 1 [],W.getD 3 []) else none
theorem lineIn_eq (b : Bytes) : lineIn b = (let W:=split 32 b
 if W.getD 0 [] = ascii "law" then (pClause (ascii "->") W).map Line.law else if W.getD 0 [] = ascii "rule" then (pClause (ascii "=>") W).map Line.rule
 else if W.getD 0 [] = ascii "weigh" then (pWeigh W).map (fun p=>Line.weigh p.1 p.2) else none):=by
 unfold lineIn
 rw [wordsOf_eq]
 cases e : split 32 b with
 | nil=>exact absurd e (split_ne 32 b)
 | cons w rest =>
  cases rest with
  | nil =>
   simp only
   show none = if w = ascii "law" then (pClause _ [w]).map Line.law else if w = ascii "rule" then (pClause _ [w]).map Line.rule else if w = ascii "weigh" then (pWeigh [w]).map _ else none
   have n1 : ∀ arrow,pClause arrow [w] = none:=fun arrow=>by unfold pClause; rw [if_pos (Or.inl (by simp))]
   have n2 : pWeigh [w] = none:=by unfold pWeigh; rw [if_pos (Or.inl (by simp))]
   rw [n1,n1,n2]
   split
   ·rfl
   ·split
    ·rfl
    ·split <;> rfl
  | cons n r =>
   simp only
   show _ = if w = ascii "law" then (pClause _ (w :: n :: r)).map Line.law else if w = ascii "rule" then (pClause _ (w :: n :: r)).map Line.rule else if w = ascii "weigh" then (pWeigh (w :: n :: r)).map _ else none
   rw [rowIn_eq arrow_law w n r,rowIn_eq arrow_rule w n r]
   clear e
   have ew : (match r with
    | [g,y]=>if g = [62]∧isName n = true∧isName y = true then some (Line.weigh n y) else none
    | _=>none) = (pWeigh (w :: n :: r)).map (fun p=>Line.weigh p.1 p.2):=by
    unfold pWeigh
    match r with
    | []=>rfl
    | [g]=>rfl
    | [g,y] =>
     show _ = (if (4≠4∨some g≠some [62]) then none else if isName n = true∧isName y = true then some (n,y) else none).map _
     show (if g = [62]∧isName n = true∧isName y = true then some (Line.weigh n y) else none) = _
     by_cases hg : g = [62]
     ·have hc : ¬ (4≠4∨some g≠some [62]):=by simp [hg]
      by_cases hn : isName n = true∧isName y = true
      ·rw [if_pos (show g = [62]∧isName n = true∧isName y = true from ⟨hg,hn⟩),if_neg hc,if_pos hn]; rfl
      ·rw [if_neg (show ¬ (g = [62]∧isName n = true∧isName y = true) from fun z=>hn z.2),if_neg hc,if_neg hn]; rfl
     ·have hc : 4≠4∨some g≠some [62]:=Or.inr (by simpa using hg)
      rw [if_neg (show ¬ (g = [62]∧isName n = true∧isName y = true) from fun z=>hg z.1),if_pos hc]; rfl
    | g :: y :: z :: r =>
     simp only
     rw [if_pos (Or.inl (by simp))]; rfl
   exact congrArg (fun z=>if w = ascii "law" then Option.map Line.law (pClause (ascii "->") (w :: n :: r)) else if w = ascii "rule" then Option.map Line.rule (pClause (ascii "=>") (w :: n :: r)) else if w = ascii "weigh" then z else none) ew
end ML
end
section
namespace ML
open Mo
inductive LawDer (laws : List Row) : Lit→Prop
 | law {r : Row} : r∈laws→(∀ l∈r.body,LawDer laws l)→LawDer laws r.head
theorem der_zero {c : Case} {l : Lit} : Der c (held 0) l↔LawDer c.laws l:=by
 constructor
 ·intro h
  induction h with
  | name _ hi=>rw [held_zero] at hi; cases hi
  | law hr _ ih=>exact .law hr ih
  | rule _ hi _ _=>rw [held_zero] at hi; cases hi
 ·intro h
  induction h with
  | law hr _ ih=>exact .law hr ih
def LawClash (laws : List Row) : Prop:=∃ a,LawDer laws ⟨a,false⟩∧LawDer laws ⟨a,true⟩
theorem clash_zero {c : Case} : c.numbered.clash 0 = true↔LawClash c.laws:=by
 rw [clash_iff]
 unfold LawClash
 simp only [der_zero]
structure Good (c : Case) : Prop where
 names : c.names.Nodup
 laws : c.laws.length≤64
 rules : c.rules.length≤10
 atoms : c.atoms.length≤64
 among : Among (c.rules.map Row.name) c.weighs
 round : goesRound c.weighs = false
 calm : ¬ LawClash c.laws
 body : ∀ r∈c.laws ++ c.rules,r.body.length≤6∧r.body.Nodup
theorem lawDer_nil {l : Lit} (h : LawDer [] l) : False:=by
 induction h with
 | law hr _ _=>cases hr
theorem good_none : Good Case.none_:=by
 refine ⟨List.Pairwise.nil,Nat.zero_le _,Nat.zero_le _,Nat.zero_le _,fun _ h=>(by cases h),rfl,?_,fun _ h=>(by cases h)⟩
 rintro ⟨a,h,_⟩
 exact lawDer_nil h
def Line.fit : Line→Prop
 | .law r=>r.body.length≤6
 | .rule r=>r.body.length≤6
 | .weigh _ _=>True
theorem pClause_fit {arrow : Bytes} {W : List Bytes} {r : Row} (h : pClause arrow W = some r) : r.body.length≤6:=by
 unfold pClause at h
 split at h
 ·cases h
 ·split at h
  ·split at h
   ·rename_i b l hb _
    have e:=Option.some.inj h
    rw [← e]
    unfold pBody at hb
    split at hb
    ·cases hb
    ·rename_i hn
     have:=bodyOf_length hb
     show b.length≤6
     omega
   ·cases h
  ·cases h
theorem lineIn_fit {b : Bytes} {l : Line} (h : lineIn b = some l) : Line.fit l:=by
 rw [lineIn_eq] at h
 simp only at h
 split at h
 ·obtain ⟨r,hr,e⟩:=Option.map_eq_some_iff.mp h
  rw [← e]; exact pClause_fit hr
 ·split at h
  ·obtain ⟨r,hr,e⟩:=Option.map_eq_some_iff.mp h
   rw [← e]; exact pClause_fit hr
  ·split at h
   ·obtain ⟨r,hr,e⟩:=Option.map_eq_some_iff.mp h
    rw [← e]; exact True.intro
   ·cases h
theorem ruleNo_some {c : Case} {n : Bytes} : (c.ruleNo n).isNone = true↔n∉c.rules.map Row.name:=by
 unfold Case.ruleNo
 rw [Option.isNone_iff_eq_none,List.findIdx?_eq_none_iff]
 constructor
 ·intro h hm
  obtain ⟨r,hr,e⟩:=List.mem_map.mp hm
  have:=h r hr
  simp [e] at this
 ·intro h r hr
  have : r.name≠n:=fun e=>h (by rw [← e]; exact List.mem_map.mpr ⟨r,hr,rfl⟩)
  simp [this]
theorem distinct_iff {l : List Lit} : distinct l = false↔¬ l.Nodup:=by unfold distinct; simp
theorem wrong_law {c : Case} {r : Row} : wrong c (.law r) = if r.name∈c.names then some 2 else if ¬ r.body.Nodup∨(∃ s∈c.laws,s.body = r.body∧s.head = r.head) then some 3
 else if 64≤c.laws.length∨64 < (c.add (.law r)).atoms.length then some 4 else if (c.add (.law r)).numbered.clash 0 = true then some 7 else none:=by
 unfold wrong
 simp only
 have e1 : (c.names.contains r.name = true) = (r.name∈c.names):=propext List.contains_iff_mem
 have e2 : (distinct r.body = false∨c.laws.any (sameRow r) = true) = (¬ r.body.Nodup∨(∃ s∈c.laws,s.body = r.body∧s.head = r.head)):=by
  rw [distinct_iff,List.any_eq_true]
  unfold sameRow
  refine congrArg (¬ r.body.Nodup∨·) (propext ?_)
  constructor
  ·rintro ⟨s,hs,h⟩
   rw [Bool.and_eq_true,beq_iff_eq,beq_iff_eq] at h
   exact ⟨s,hs,h.1.symm,h.2.symm⟩
  ·rintro ⟨s,hs,h1,h2⟩
   exact ⟨s,hs,by rw [Bool.and_eq_true,beq_iff_eq,beq_iff_eq]; exact ⟨h1.symm,h2.symm⟩⟩
 have e3 : (LAWS < (c.add (.law r)).laws.length∨ATOMS < (c.add (.law r)).atoms.length) = (64≤c.laws.length∨64 < (c.add (.law r)).atoms.length):=by
  have : (c.add (.law r)).laws.length = c.laws.length + 1:=by show (c.laws ++ [r]).length = _; simp
  rw [this]
  show ((64 < c.laws.length + 1)∨_) = _
  refine propext ⟨?_,?_⟩
  ·rintro (h | h)
   ·exact .inl (by omega)
   ·exact .inr h
  ·rintro (h | h)
   ·exact .inl (by omega)
   ·exact .inr h
 simp only [e1,e2,e3]
theorem wrong_rule {c : Case} {r : Row} : wrong c (.rule r) = if r.name∈c.names then some 2 else if ¬ r.body.Nodup∨(∃ s∈c.rules,s.body = r.body∧s.head = r.head) then some 3
 else if 10≤c.rules.length∨64 < (c.add (.rule r)).atoms.length then some 4 else none:=by
 unfold wrong
 simp only
 have e1 : (c.names.contains r.name = true) = (r.name∈c.names):=propext List.contains_iff_mem
 have e2 : (distinct r.body = false∨c.rules.any (sameRow r) = true) = (¬ r.body.Nodup∨(∃ s∈c.rules,s.body = r.body∧s.head = r.head)):=by
  rw [distinct_iff,List.any_eq_true]
  unfold sameRow
  refine congrArg (¬ r.body.Nodup∨·) (propext ?_)
  constructor
  ·rintro ⟨s,hs,h⟩
   rw [Bool.and_eq_true,beq_iff_eq,beq_iff_eq] at h
   exact ⟨s,hs,h.1.symm,h.2.symm⟩
  ·rintro ⟨s,hs,h1,h2⟩
   exact ⟨s,hs,by rw [Bool.and_eq_true,beq_iff_eq,beq_iff_eq]; exact ⟨h1.symm,h2.symm⟩⟩
 have e3 : (RULES < (c.add (.rule r)).rules.length∨ATOMS < (c.add (.rule r)).atoms.length) = (10≤c.rules.length∨64 < (c.add (.rule r)).atoms.length):=by
  have : (c.add (.rule r)).rules.length = c.rules.length + 1:=by show (c.rules ++ [r]).length = _; simp
  rw [this]
  show ((10 < c.rules.length + 1)∨_) = _
  refine propext ⟨?_,?_⟩
  ·rintro (h | h)
   ·exact .inl (by omega)
   ·exact .inr h
  ·rintro (h | h)
   ·exact .inl (by omega)
   ·exact .inr h
 simp only [e1,e2,e3]
theorem wrong_weigh {c : Case} {x y : Bytes} : wrong c (.weigh x y) = if x∉c.rules.map Row.name∨y∉c.rules.map Row.name then some 5 else if goesRound (c.weighs ++ [(x,y)]) = true then some 6 else none:=by
 unfold wrong
 simp only [ruleNo_some]
theorem good_add {c : Case} {l : Line} (g : Good c) (hf : Line.fit l) (h : wrong c l = none) : Good (c.add l):=by
 cases l with
 | law r =>
  rw [wrong_law] at h
  split at h
  ·cases h
  ·rename_i h2
   split at h
   ·cases h
   ·rename_i h3
    split at h
    ·cases h
    ·rename_i h4
     split at h
     ·cases h
     ·rename_i h7
      have h3' : r.body.Nodup:=Classical.byContradiction fun z=>h3 (.inl z)
      refine ⟨?_,?_,g.rules,?_,g.among,g.round,fun z=>h7 (clash_zero.mpr z),?_⟩
      ·have e : (c.add (.law r)).names = c.laws.map Row.name ++ (r.name :: c.rules.map Row.name):=by
        show ((c.laws ++ [r]) ++ c.rules).map Row.name = _
        simp
       rw [e]
       have p : (c.laws.map Row.name ++ (r.name :: c.rules.map Row.name)).Perm (r.name :: c.names):=by
        unfold Case.names
        rw [List.map_append]
        exact List.perm_middle
       exact p.nodup_iff.mpr (List.nodup_cons.mpr ⟨h2,g.names⟩)
      ·show (c.laws ++ [r]).length≤64
       rw [List.length_append,List.length_singleton]
       have : ¬ 64≤c.laws.length:=fun z=>h4 (.inl z)
       omega
      ·exact Nat.le_of_not_lt fun z=>h4 (.inr z)
      ·intro s hs
       rcases List.mem_append.mp hs with hs | hs
       ·rcases List.mem_append.mp (show s∈c.laws ++ [r] from hs) with hs | hs
        ·exact g.body s (List.mem_append_left _ hs)
        ·rw [List.mem_singleton.mp hs]; exact ⟨hf,h3'⟩
       ·exact g.body s (List.mem_append_right _ hs)
 | rule r =>
  rw [wrong_rule] at h
  split at h
  ·cases h
  ·rename_i h2
   split at h
   ·cases h
   ·rename_i h3
    split at h
    ·cases h
    ·rename_i h4
     have h3' : r.body.Nodup:=Classical.byContradiction fun z=>h3 (.inl z)
     refine ⟨?_,g.laws,?_,?_,?_,g.round,g.calm,?_⟩
     ·have e : (c.add (.rule r)).names = c.names ++ [r.name]:=by
       show (c.laws ++ (c.rules ++ [r])).map Row.name = (c.laws ++ c.rules).map Row.name ++ [r.name]
       simp
      rw [e]
      have p : (c.names ++ [r.name]).Perm (r.name :: c.names):=List.perm_append_comm
      exact p.nodup_iff.mpr (List.nodup_cons.mpr ⟨h2,g.names⟩)
     ·show (c.rules ++ [r]).length≤10
      rw [List.length_append,List.length_singleton]
      have : ¬ 10≤c.rules.length:=fun z=>h4 (.inl z)
      omega
     ·exact Nat.le_of_not_lt fun z=>h4 (.inr z)
     ·intro p hp
      have q:=g.among p hp
      show p.1∈(c.rules ++ [r]).map Row.name∧p.2∈(c.rules ++ [r]).map Row.name
      rw [List.map_append]
      exact ⟨List.mem_append_left _ q.1,List.mem_append_left _ q.2⟩
     ·intro s hs
      rcases List.mem_append.mp hs with hs | hs
      ·exact g.body s (List.mem_append_left _ hs)
      ·rcases List.mem_append.mp (show s∈c.rules ++ [r] from hs) with hs | hs
       ·exact g.body s (List.mem_append_right _ hs)
       ·rw [List.mem_singleton.mp hs]; exact ⟨hf,h3'⟩
 | weigh x y =>
  rw [wrong_weigh] at h
  split at h
  ·cases h
  ·rename_i h5
   split at h
   ·cases h
   ·rename_i h6
    refine ⟨g.names,g.laws,g.rules,g.atoms,?_,(by show goesRound (c.weighs ++ [(x,y)]) = false; simpa using h6),g.calm,g.body⟩
    intro p hp
    rcases List.mem_append.mp (show p∈c.weighs ++ [(x,y)] from hp) with hp | hp
    ·exact g.among p hp
    ·rw [List.mem_singleton.mp hp]
     exact ⟨Classical.byContradiction fun z=>h5 (.inl z),Classical.byContradiction fun z=>h5 (.inr z)⟩
end ML
end
section
namespace ML
open Mo
theorem held_sub {S i : Nat} (h : held S i = true) (j : Nat) : held (S - 2 ^ i) j = (held S j && decide (i≠j)):=by
 unfold held at h ⊢
 have hp : 0 < 2 ^ i:=Nat.two_pow_pos i
 have hlt : S % 2 ^ i < 2 ^ i:=Nat.mod_lt _ hp
 have eS : S = 2 ^ i * (S / 2 ^ i) + S % 2 ^ i:=(Nat.div_add_mod S (2 ^ i)).symm
 have odd : (S / 2 ^ i) % 2 = 1:=by
  have:=h
  rw [Nat.testBit_eq_decide_div_mod_eq] at this
  simpa using this
 have h1 : 1≤S / 2 ^ i:=by
  rcases Nat.eq_zero_or_pos (S / 2 ^ i) with z | z
  ·rw [z] at odd; cases odd
  ·exact z
 have eD : S - 2 ^ i = 2 ^ i * (S / 2 ^ i - 1) + S % 2 ^ i:=by
  have : 2 ^ i * (S / 2 ^ i) = 2 ^ i * (S / 2 ^ i - 1) + 2 ^ i:=by
   have : S / 2 ^ i = (S / 2 ^ i - 1) + 1:=by omega
   rw [this,Nat.mul_add,Nat.mul_one,Nat.add_sub_cancel]
  omega
 have bD : (S - 2 ^ i).testBit j = if j < i then (S % 2 ^ i).testBit j else (S / 2 ^ i - 1).testBit (j - i):=by
  rw [eD]; exact Nat.testBit_two_pow_mul_add _ hlt j
 have bS : S.testBit j = if j < i then (S % 2 ^ i).testBit j else (S / 2 ^ i).testBit (j - i):=by
  have:=Nat.testBit_two_pow_mul_add (S / 2 ^ i) hlt j
  rw [← eS] at this
  exact this
 rw [bD,bS]
 by_cases hj : j < i
 ·rw [if_pos hj,if_pos hj]
  have : i≠j:=by omega
  simp [this]
 ·rw [if_neg hj,if_neg hj]
  by_cases e : i = j
  ·subst e
   rw [Nat.sub_self,Nat.testBit_zero,Nat.testBit_zero]
   have : (S / 2 ^ i - 1) % 2 = 0:=by omega
   simp [this]
  ·obtain ⟨k,hk⟩ : ∃ k,j - i = k + 1:=⟨j - i - 1,by omega⟩
   rw [hk,Nat.testBit_succ,Nat.testBit_succ]
   have : (S / 2 ^ i - 1) / 2 = S / 2 ^ i / 2:=by omega
   rw [this]
   simp [e]
theorem held_without (S i j : Nat) : held (without S i) j = (held S j && decide (i≠j)):=by
 unfold without
 by_cases h : held S i = true
 ·rw [if_pos h]; exact held_sub h j
 ·rw [if_neg h]
  by_cases e : i = j
  ·subst e
   have : held S i = false:=by simpa using h
   rw [this]; rfl
  ·simp [e]
theorem within_refl (S : Nat) : within S S = true:=within_iff.mpr fun _ h=>h
theorem within_trans {S T U : Nat} (h : within S T = true) (k : within T U = true) : within S U = true :=
 within_iff.mpr fun i hi=>within_iff.mp k i (within_iff.mp h i hi)
theorem within_antisymm {S T : Nat} (h : within S T = true) (k : within T S = true) : S = T:=held_ext fun i=>by
 cases a : held S i with
 | true=>exact (within_iff.mp h i a).symm
 | false=>cases b : held T i with
  | false=>rfl
  | true=>rw [within_iff.mp k i b] at a; cases a
theorem within_without (S i : Nat) : within (without S i) S = true:=within_iff.mpr fun j h=>by
 rw [held_without,Bool.and_eq_true] at h; exact h.1
theorem within_le {S T : Nat} (h : within S T = true) : S≤T:=by
 unfold within at h
 rw [beq_iff_eq] at h
 rw [← h]; exact Nat.and_le_right
theorem held_lt {S n i : Nat} (hS : S < 2 ^ n) (h : held S i = true) : i < n:=by
 apply Classical.byContradiction
 intro hn
 unfold held at h
 rw [Nat.testBit_lt_two_pow (Nat.lt_of_lt_of_le hS (Nat.pow_le_pow_right (by decide) (by omega)))] at h
 cases h
theorem lt_of_held {S n : Nat} (h : ∀ i,held S i = true→i < n) : S < 2 ^ n:=by
 apply Nat.lt_pow_two_of_testBit
 intro i hi
 cases q : S.testBit i with
 | false=>rfl
 | true=>have:=h i q; omega
theorem within_lt {S T n : Nat} (hT : T < 2 ^ n) (h : within S T = true) : S < 2 ^ n:=Nat.lt_of_le_of_lt (within_le h) hT
theorem held_mask {n : Nat} (f : Nat→Bool) (j : Nat) : held (maskOf n f) j = (decide (j < n) && f j):=by
 have key : ∀ (l : List Nat) (m : Nat),held (l.foldl (fun (m i : Nat)=>if f i = true then with_ m i else m) m) j = (held m j || (decide (j∈l) && f j)):=by
  intro l
  induction l with
  | nil=>intro m; simp
  | cons x r ih =>
   intro m
   rw [List.foldl_cons,ih]
   by_cases hx : f x = true
   ·rw [if_pos hx,held_with]
    by_cases e : x = j
    ·subst e; simp [hx]
    ·have e' : ¬ j = x:=fun z=>e z.symm
     simp [e,e']
   ·rw [if_neg hx]
    by_cases e : x = j
    ·subst e
     have : f x = false:=by simpa using hx
     simp [this]
    ·have e' : ¬ j = x:=fun z=>e z.symm
     simp [e']
 unfold maskOf
 rw [key,held_zero]
 simp [List.mem_range]
theorem mask_lt (n : Nat) (f : Nat→Bool) : maskOf n f < 2 ^ n:=lt_of_held fun i h=>by
 rw [held_mask,Bool.and_eq_true,decide_eq_true_eq] at h; exact h.1
def Up (cl : Nat→Bool) : Prop:=∀ S T,within S T = true→cl S = true→cl T = true
def leastOf (n : Nat) (cl : Nat→Bool) : List Nat:=(List.range (2 ^ n)).filter fun (S : Nat)=>cl S && (List.range n).all fun (i : Nat)=>!(held S i) || !(cl (without S i))
theorem clashes_eq (k : Numbered) : k.clashes = leastOf k.rules.length k.clash:=by
 unfold Numbered.clashes leastOf
 simp only
 have t : ∀ S,S < 2 ^ k.rules.length→(((List.range (2 ^ k.rules.length)).map k.clash).toArray.getD S false) = k.clash S:=fun S hS=>by
  have hs : S < ((List.range (2 ^ k.rules.length)).map k.clash).toArray.size:=by simpa using hS
  simp [Array.getD,hS]
 refine List.filter_congr fun S hS=>?_
 have hS':=List.mem_range.mp hS
 rw [t S hS']
 refine congrArg (k.clash S && ·) ?_
 have : ∀ i,(((List.range (2 ^ k.rules.length)).map k.clash).toArray.getD (without S i) false) = k.clash (without S i):=fun i=>t _ (within_lt hS' (within_without S i))
 simp only [this]
theorem mem_least {n : Nat} {cl : Nat→Bool} (up : Up cl) {S : Nat} : S∈leastOf n cl↔S < 2 ^ n∧cl S = true∧∀ T,within T S = true→cl T = true→T = S:=by
 unfold leastOf
 rw [List.mem_filter,List.mem_range,Bool.and_eq_true,List.all_eq_true]
 constructor
 ·rintro ⟨h1,h2,h3⟩
  refine ⟨h1,h2,fun T hT cT=>?_⟩
  refine within_antisymm hT (within_iff.mpr fun i hi=>?_)
  apply Classical.byContradiction
  intro hn
  have q:=h3 i (List.mem_range.mpr (held_lt h1 hi))
  rw [hi] at q
  have : cl (without S i) = true:=up T _ (within_iff.mpr fun j hj=>by
   rw [held_without,Bool.and_eq_true,decide_eq_true_eq]
   exact ⟨within_iff.mp hT j hj,fun e=>hn (by rw [e]; exact hj)⟩) cT
  rw [this] at q
  cases q
 ·rintro ⟨h1,h2,h3⟩
  refine ⟨h1,h2,fun i _=>?_⟩
  cases hi : held S i with
  | false=>rfl
  | true =>
   cases hc : cl (without S i) with
   | false=>rfl
   | true =>
    have e:=h3 _ (within_without S i) hc
    have q:=held_without S i i
    rw [e,hi] at q
    simp at q
theorem exists_least {n : Nat} {cl : Nat→Bool} (up : Up cl) : ∀ {S : Nat},S < 2 ^ n→cl S = true→∃ C∈leastOf n cl,within C S = true:=by
 intro S
 induction S using Nat.strongRecOn with
 | _ S ih =>
  intro hS hc
  by_cases h : ∃ T,within T S = true∧cl T = true∧T≠S
  ·obtain ⟨T,h1,h2,h3⟩:=h
   obtain ⟨C,hC,hw⟩:=ih T (Nat.lt_of_le_of_ne (within_le h1) h3) (within_lt hS h1) h2
   exact ⟨C,hC,within_trans hw h1⟩
  ·refine ⟨S,(mem_least up).mpr ⟨hS,hc,fun T h1 h2=>?_⟩,within_refl S⟩
   exact Classical.byContradiction fun h3=>h ⟨T,h1,h2,h3⟩
theorem clash_up (c : Case) : Up c.numbered.clash:=fun S T hw h=>by
 rw [clash_iff] at h ⊢
 obtain ⟨a,h1,h2⟩:=h
 exact ⟨a,h1.mono (within_iff.mp hw),h2.mono (within_iff.mp hw)⟩
theorem and_zero {A U : Nat} : (A &&& U == 0) = true↔∀ j,held A j = true→held U j = false:=by
 rw [beq_iff_eq]
 constructor
 ·intro h j hj
  have:=congrArg (fun x=>x.testBit j) h
  simp only [Nat.testBit_and,Nat.zero_testBit] at this
  unfold held at hj ⊢
  rw [hj] at this
  simpa using this
 ·intro h
  refine Nat.eq_of_testBit_eq fun j=>?_
  rw [Nat.testBit_and,Nat.zero_testBit]
  cases q : A.testBit j with
  | false=>rfl
  | true =>
   have:=h j q
   unfold held at this
   rw [this]; rfl
end ML
end
section
namespace ML
open Mo
structure RowNamed (r : Row) : Prop where
 name : isName r.name = true
 head : isName r.head.atom = true
 body : ∀ l∈r.body,isName l.atom = true
def Named (c : Case) : Prop:=∀ r∈c.laws ++ c.rules,RowNamed r
theorem litOf_named {b : Bytes} {l : Lit} (h : litOf b = some l) : isName l.atom = true:=by
 unfold litOf at h
 split at h
 ·split at h
  ·rename_i hn; cases h; exact hn
  ·cases h
 ·split at h
  ·rename_i hn; cases h; exact hn
  ·cases h
theorem bodyIn_named {arrow : Bytes} : ∀ {ws : List Bytes} {z : List Lit × Lit},bodyIn arrow ws = some z→(∀ l∈z.1,isName l.atom = true)∧isName z.2.atom = true
 | [],z,h=>by unfold bodyIn at h; cases h
 | [w],z,h=>by unfold bodyIn at h; cases h
 | [w,x],z,h=>by
  unfold bodyIn at h
  split at h
  ·obtain ⟨l,hl,rfl⟩:=Option.map_eq_some_iff.mp h
   exact ⟨fun m hm=>(by cases hm),litOf_named hl⟩
  ·cases h
 | [w,x,y],z,h=>by
  rw [bodyIn] at h
  split at h
  ·split at h
   ·rename_i l m hl hm
    cases h
    exact ⟨fun k hk=>by rw [List.mem_singleton.mp hk]; exact litOf_named hl,litOf_named hm⟩
   ·cases h
  ·split at h
   ·split at h
    ·rename_i l z' hl hz
     split at h
     ·cases h
     ·cases h
      have ih:=bodyIn_named hz
      refine ⟨fun k hk=>?_,ih.2⟩
      rcases List.mem_cons.mp hk with rfl | hk
      ·exact litOf_named hl
      ·exact ih.1 k hk
    ·cases h
   ·cases h
 | w :: x :: y :: u :: r,z,h=>by
  rw [bodyIn] at h
  split at h
  ·cases h
  ·split at h
   ·split at h
    ·rename_i l z' hl hz
     split at h
     ·cases h
     ·cases h
      have ih:=bodyIn_named hz
      refine ⟨fun k hk=>?_,ih.2⟩
      rcases List.mem_cons.mp hk with rfl | hk
      ·exact litOf_named hl
      ·exact ih.1 k hk
    ·cases h
   ·cases h
  ·intro v; cases v
  ·intro v e; cases e
theorem rowIn_named {arrow n : Bytes} {r : List Bytes} {x : Row} (h : rowIn arrow n r = some x) : RowNamed x:=by
 unfold rowIn at h
 split at h
 ·rename_i hn
  obtain ⟨z,hz,e⟩:=Option.bind_eq_some_iff.mp h
  split at e
  ·cases e
   have:=bodyIn_named hz
   exact ⟨hn.2,this.2,this.1⟩
  ·cases e
 ·cases h
theorem add_named {b : Bytes} {l : Line} {c : Case} (h : lineIn b = some l) (g : Named c) : Named (c.add l):=by
 unfold lineIn at h
 split at h
 ·split at h
  ·obtain ⟨x,hx,rfl⟩:=Option.map_eq_some_iff.mp h
   intro r hr
   rcases List.mem_append.mp (show r∈(c.laws ++ [x]) ++ c.rules from hr) with hr | hr
   ·rcases List.mem_append.mp hr with hr | hr
    ·exact g r (List.mem_append_left _ hr)
    ·rw [List.mem_singleton.mp hr]; exact rowIn_named hx
   ·exact g r (List.mem_append_right _ hr)
  ·split at h
   ·obtain ⟨x,hx,rfl⟩:=Option.map_eq_some_iff.mp h
    intro r hr
    rcases List.mem_append.mp (show r∈c.laws ++ (c.rules ++ [x]) from hr) with hr | hr
    ·exact g r (List.mem_append_left _ hr)
    ·rcases List.mem_append.mp hr with hr | hr
     ·exact g r (List.mem_append_right _ hr)
     ·rw [List.mem_singleton.mp hr]; exact rowIn_named hx
   ·split at h
    ·split at h
     ·split at h
      ·cases h; exact g
      ·cases h
     ·cases h
    ·cases h
 ·cases h
theorem readFrom_named : ∀ {ls : List Bytes} {c d : Case} {p q : Nat},Named c→readFrom c p ls = .ok (d,q)→Named d
 | [],c,d,p,q,g,h=>by
  unfold readFrom at h
  cases h; exact g
 | b :: r,c,d,p,q,g,h=>by
  unfold readFrom at h
  split at h
  ·cases h
  ·rename_i l hl
   split at h
   ·cases h
   ·exact readFrom_named (add_named hl g) h
theorem read_named {t : Bytes} {d : Case} (h : readBehind Case.none_ t = .ok d) : Named d:=by
 unfold readBehind at h
 simp only at h
 cases e : readFrom Case.none_ 0 (linesOf t).1 with
 | error f=>rw [e] at h; cases h
 | ok x =>
  rw [e] at h
  simp only at h
  split at h
  ·cases h
   exact readFrom_named (fun r hr=>by cases hr) e
  ·cases h
end ML
end
section
namespace ML
open Mo
theorem rise_unique : ∀ {l m : List Row},RowsRise l→RowsRise m→l.Perm m→l = m
 | [],m,_,_,p=>(List.nil_perm.mp p).symm
 | a :: l,[],_,_,p=>absurd p.symm (by intro z; have:=List.nil_perm.mp z; cases this)
 | a :: l,b :: m,hl,hm,p=>by
  have ha:=List.pairwise_cons.mp hl
  have hb:=List.pairwise_cons.mp hm
  have e : a = b:=by
   have h1 : a∈b :: m:=p.mem_iff.mp List.mem_cons_self
   have h2 : b∈a :: l:=p.mem_iff.mpr List.mem_cons_self
   rcases List.mem_cons.mp h1 with e | h1
   ·exact e
   ·rcases List.mem_cons.mp h2 with e | h2
    ·exact e.symm
    ·have q1:=hb.1 a h1
     have q2:=ha.1 b h2
     rw [below_asymm q1] at q2; cases q2
  subst e
  rw [rise_unique ha.2 hb.2 (List.perm_cons a |>.mp p)]
def ordC (c : Case) : Case:=⟨c.form.laws,c.form.rules,c.weighs⟩
theorem ord_laws (c : Case) : (ordC c).laws.Perm c.laws:=form_laws c
theorem ord_rules (c : Case) : (ordC c).rules.Perm c.rules:=form_rules c
theorem good_law_names {c : Case} (g : Good c) : (c.laws.map Row.name).Nodup:=by
 have:=g.names
 unfold Case.names at this
 rw [List.map_append] at this
 exact (List.nodup_append.mp this).1
theorem good_rule_names {c : Case} (g : Good c) : (c.rules.map Row.name).Nodup:=by
 have:=g.names
 unfold Case.names at this
 rw [List.map_append] at this
 exact (List.nodup_append.mp this).2.1
theorem told_ord (c : Case) (n : Bytes) : n∈told (ordC c)↔n∈told c:=by
 have p1:=ord_laws c
 have p2:=ord_rules c
 unfold told
 refine List.Perm.mem_iff ?_
 exact ((p1.append p2).flatMap_right _).append (p2.map _)
theorem atoms_ord (c : Case) : (ordC c).atoms = c.atoms:=atoms_ext (told_ord c)
theorem lawDer_perm {l m : List Row} (p : l.Perm m) {x : Lit} (h : LawDer l x) : LawDer m x:=by
 induction h with
 | law hr _ ih=>exact .law (p.mem_iff.mp hr) ih
theorem good_ord {c : Case} (g : Good c) : Good (ordC c):=by
 have p1:=ord_laws c
 have p2:=ord_rules c
 refine ⟨?_,by rw [p1.length_eq]; exact g.laws,by rw [p2.length_eq]; exact g.rules,by rw [atoms_ord]; exact g.atoms,?_,g.round,?_,fun r hr=>g.body r ((p1.append p2).mem_iff.mp hr)⟩
 ·have : (ordC c).names.Perm c.names:=(p1.append p2).map _
  exact this.nodup_iff.mpr g.names
 ·intro q hq
  have:=g.among q hq
  exact ⟨(p2.map Row.name).mem_iff.mpr this.1,(p2.map Row.name).mem_iff.mpr this.2⟩
 ·rintro ⟨a,h1,h2⟩
  exact g.calm ⟨a,lawDer_perm p1 h1,lawDer_perm p1 h2⟩
theorem ord_of_sorted {l m : List Row} (nd : (l.map Row.name).Nodup) (hm : RowsRise m) (p : m.Perm l) : m = l.foldl (fun (l : List Row) (r : Row)=>insertRow r l) []:=by
 refine rise_unique hm (rise_insertRows l [] List.Pairwise.nil (by rw [List.append_nil]; exact nd)) (p.trans ?_)
 have:=perm_insertRows l []
 rw [List.append_nil] at this
 exact this.symm
end ML
end
section
namespace WF
open Mo
def at? (rows : List Row) (i : Nat) (x : Lit) : Bool:=match rows[i]? with
 | some r=>decide (x∈r.body)
 | none=>false
def idx (rows : List Row) (n : Nat) (x : Lit) : List Nat:=(List.range n).filter fun i=>at? rows i x
theorem at_some {rows : List Row} {i : Nat} {r : Row} {x : Lit} (h : rows[i]? = some r) : at? rows i x = decide (x∈r.body):=by unfold at?; rw [h]
theorem idx_succ {rows : List Row} {n : Nat} {r : Row} {x : Lit} (h : rows[n]? = some r) : idx rows (n + 1) x = idx rows n x ++ (if x∈r.body then [n] else []):=by
 unfold idx
 rw [List.range_succ,List.filter_append]
 congr 1
 rw [List.filter_cons,at_some h]
 by_cases e : x∈r.body
 ·simp [e]
 ·simp [e]
theorem mem_idx {rows : List Row} {i n : Nat} {x : Lit} : i∈idx rows n x↔i < n∧at? rows i x = true:=by
 unfold idx; rw [List.mem_filter,List.mem_range]
theorem idx_nodup (rows : List Row) (n : Nat) (x : Lit) : (idx rows n x).Nodup:=List.Nodup.sublist List.filter_sublist List.nodup_range
theorem idx_len (rows : List Row) (n : Nat) (x : Lit) : (idx rows n x).length≤n:=by
 have:=List.length_filter_le (fun i=>at? rows i x) (List.range n)
 rw [List.length_range] at this; exact this
def lack (ks : List Lit) (r : Row) : Nat:=(r.body.filter fun x=>!decide (x∈ks)).length
theorem lack_zero {ks : List Lit} {r : Row} : lack ks r = 0↔∀ x∈r.body,x∈ks:=by
 unfold lack
 rw [List.length_eq_zero_iff,List.filter_eq_nil_iff]
 constructor
 ·intro h x hx; have:=h x hx; simpa using this
 ·intro h x hx; have:=h x hx; simpa using this
theorem lack_nil (r : Row) : lack [] r = r.body.length:=by unfold lack; simp
theorem filt {ks : List Lit} {x : Lit} (hx : x∉ks) : ∀ {b : List Lit},b.Nodup→(b.filter fun y=>!decide (y∈ks)).length = (b.filter fun y=>!decide (y∈ks ++ [x])).length + (if x∈b then 1 else 0)
 | [],_=>by simp
 | y :: b,nd=>by
  have ih:=filt hx (b:=b) (List.nodup_cons.mp nd).2
  have ny:=(List.nodup_cons.mp nd).1
  by_cases e : y = x
  ·subst e
   rw [List.filter_cons,List.filter_cons]
   have h1 : (!decide (y∈ks)) = true:=by simpa using hx
   have h2 : ¬ (!decide (y∈ks ++ [y])) = true:=by simp
   rw [if_pos h1,if_neg h2,if_pos List.mem_cons_self,List.length_cons,ih,if_neg ny]
  ·have em : (x∈y :: b)↔x∈b:=by rw [List.mem_cons]; exact ⟨fun z=>z.elim (fun z=>absurd z.symm e) id,.inr⟩
   have e2 : (if x∈y :: b then 1 else 0) = (if x∈b then 1 else 0):=by simp only [em]
   rw [e2,List.filter_cons,List.filter_cons]
   by_cases h : y∈ks
   ·have h1 : ¬ (!decide (y∈ks)) = true:=by simpa using h
    have h2 : ¬ (!decide (y∈ks ++ [x])) = true:=by simp [h]
    rw [if_neg h1,if_neg h2]; exact ih
   ·have h1 : (!decide (y∈ks)) = true:=by simpa using h
    have h2 : (!decide (y∈ks ++ [x])) = true:=by simp [h,e]
    rw [if_pos h1,if_pos h2,List.length_cons,List.length_cons,ih]; omega
theorem lack_snoc {ks : List Lit} {x : Lit} {r : Row} (hx : x∉ks) (nd : r.body.Nodup) : lack ks r = lack (ks ++ [x]) r + (if x∈r.body then 1 else 0):=filt hx nd
def MsOk (rows : List Row) (ks : List Lit) (S : List Nat) (ms : List Nat) : Prop:=ms.length = rows.length∧∀ (i : Nat) (r : Row),rows[i]? = some r→ms[i]? = some (lack ks r - if i∈S then 1 else 0)
theorem ms_start (rows : List Row) : MsOk rows [] [] (rows.map fun r=>r.body.length):=by
 refine ⟨List.length_map _,fun i r h=>?_⟩
 rw [List.getElem?_map,h]
 simp [lack_nil]
theorem ms_end {rows : List Row} {ks : List Lit} {x : Lit} {ms : List Nat} (hx : x∉ks) (nd : ∀ r∈rows,r.body.Nodup) (h : MsOk rows ks (idx rows rows.length x) ms) : MsOk rows (ks ++ [x]) [] ms:=by
 refine ⟨h.1,fun i r hr=>?_⟩
 rw [h.2 i r hr]
 have hi:=(List.getElem?_eq_some_iff.mp hr).1
 have e : (i∈idx rows rows.length x)↔x∈r.body:=by rw [mem_idx,at_some hr]; simp [hi]
 have l:=lack_snoc hx (nd r (List.mem_of_getElem? hr))
 simp only [e]
 by_cases q : x∈r.body
 ·rw [if_pos q] at l ⊢; simp; omega
 ·rw [if_neg q] at l ⊢; simp; omega
theorem ms_step {rows : List Row} {ks : List Lit} {x : Lit} {ms : List Nat} {i : Nat} {S : List Nat} {r : Row} (hx : x∉ks) (hr : rows[i]? = some r) (hb : x∈r.body) (hi : i∉S) (h : MsOk rows ks S ms) :
 ∃ v,ms[i]? = some (v + 1)∧lack ks r = v + 1∧MsOk rows ks (S ++ [i]) (ms.set i v):=by
 have e:=h.2 i r hr
 rw [if_neg hi] at e
 have pos : lack ks r≠0:=fun z=>hx (lack_zero.mp z x hb)
 obtain ⟨v,hv⟩ : ∃ v,lack ks r = v + 1:=⟨lack ks r - 1,by omega⟩
 refine ⟨v,by rw [e,hv]; rfl,hv,by rw [List.length_set]; exact h.1,fun j q hq=>?_⟩
 have hil : i < ms.length:=by rw [h.1]; exact (List.getElem?_eq_some_iff.mp hr).1
 by_cases ej : j = i
 ·subst ej
  rw [hr] at hq; cases hq
  rw [List.getElem?_set_self hil,if_pos (by simp),hv]; rfl
 ·rw [List.getElem?_set_ne (Ne.symm ej),h.2 j q hq]
  have : (j∈S ++ [i])↔j∈S:=by simp [ej]
  simp only [this]
def pos (ms : List Nat) : Nat:=(ms.filter fun v=>!decide (v = 0)).length
theorem pos_set : ∀ {ms : List Nat} {i v : Nat},ms[i]? = some (v + 1)→pos (ms.set i v) + (if v = 0 then 1 else 0) = pos ms
 | [],i,v,h=>by simp at h
 | m :: ms,0,v,h=>by
  simp at h
  subst h
  unfold pos
  rw [List.set_cons_zero,List.filter_cons,List.filter_cons]
  have h1 : (!decide (v + 1 = 0)) = true:=by simp
  rw [if_pos h1]
  by_cases e : v = 0
  ·have h2 : ¬ (!decide (v = 0)) = true:=by simp [e]
   rw [if_neg h2,if_pos e,List.length_cons]
  ·have h2 : (!decide (v = 0)) = true:=by simp [e]
   rw [if_pos h2,if_neg e,List.length_cons,List.length_cons]
 | m :: ms,i + 1,v,h=>by
  have ih:=pos_set (ms:=ms) (i:=i) (v:=v) (by simpa using h)
  unfold pos at ih ⊢
  rw [List.set_cons_succ,List.filter_cons,List.filter_cons]
  by_cases e : (!decide (m = 0)) = true
  ·rw [if_pos e,if_pos e,List.length_cons,List.length_cons,← ih]; omega
  ·rw [if_neg e,if_neg e]; exact ih
theorem pos_start (rows : List Row) : ((rows.filter fun r=>decide (r.body.length = 0)).map Row.head).length + pos (rows.map fun r=>r.body.length) = rows.length:=by
 unfold pos
 rw [List.length_map]
 induction rows with
 | nil=>rfl
 | cons r rows ih =>
  rw [List.map_cons,List.filter_cons,List.filter_cons]
  by_cases e : r.body.length = 0
  ·have h1 : decide (r.body.length = 0) = true:=by simp [e]
   have h2 : ¬ (!decide (r.body.length = 0)) = true:=by simp [e]
   rw [if_pos h1,if_neg h2,List.length_cons,List.length_cons,← ih]; omega
  ·have h1 : ¬ decide (r.body.length = 0) = true:=by simp [e]
   have h2 : (!decide (r.body.length = 0)) = true:=by simp [e]
   rw [if_neg h1,if_pos h2,List.length_cons,List.length_cons,← ih]; omega
structure Stt (rows : List Row) (ks cs : List Lit) (S : List Nat) (ko : List Lit) (ms : List Nat) : Prop where
 mso : MsOk rows ko S ms
 nd : ks.Nodup
 dk : ∀ x∈ks,ML.LawDer rows x
 dc : ∀ x∈cs,ML.LawDer rows x
 cl : ∀ (i : Nat) (r : Row),rows[i]? = some r→ms[i]? = some 0→r.head∈ks∨r.head∈cs
theorem st_start (rows : List Row) : Stt rows [] ((rows.filter fun r=>decide (r.body.length = 0)).map Row.head) [] [] (rows.map fun r=>r.body.length):=by
 refine ⟨ms_start rows,List.nodup_nil,(fun x hx=>by cases hx),fun x hx=>?_,fun i r hr h=>.inr ?_⟩
 ·obtain ⟨r,hr,rfl⟩:=List.mem_map.mp hx
  obtain ⟨h1,h2⟩:=List.mem_filter.mp hr
  have e : r.body = []:=List.length_eq_zero_iff.mp (of_decide_eq_true h2)
  exact .law h1 fun z hz=>by rw [e] at hz; cases hz
 ·rw [List.getElem?_map,hr] at h
  simp at h
  exact List.mem_map.mpr ⟨r,List.mem_filter.mpr ⟨List.mem_of_getElem? hr,by simp [h]⟩,rfl⟩
theorem st_pop_old {rows : List Row} {ks cs : List Lit} {ms : List Nat} {x : Lit} (h : Stt rows ks (cs ++ [x]) [] ks ms) (hx : x∈ks) : Stt rows ks cs [] ks ms :=
 ⟨h.mso,h.nd,h.dk,fun y hy=>h.dc y (List.mem_append_left _ hy),fun i r hr e=>by
  rcases h.cl i r hr e with z | z
  ·exact .inl z
  ·rcases List.mem_append.mp z with z | z
   ·exact .inr z
   ·rw [List.mem_singleton.mp z]; exact .inl hx⟩
theorem st_pop_new {rows : List Row} {ks cs : List Lit} {ms : List Nat} {x : Lit} (h : Stt rows ks (cs ++ [x]) [] ks ms) (hx : x∉ks) : Stt rows (ks ++ [x]) cs [] ks ms :=
 ⟨h.mso,List.nodup_append.mpr ⟨h.nd,by simp,fun a ha b hb=>by rw [List.mem_singleton.mp hb]; intro e; rw [e] at ha; exact hx ha⟩,fun y hy=>by
  rcases List.mem_append.mp hy with z | z
  ·exact h.dk y z
  ·rw [List.mem_singleton.mp z]; exact h.dc x (by simp),fun y hy=>h.dc y (List.mem_append_left _ hy),fun i r hr e=>by
  rcases h.cl i r hr e with z | z
  ·exact .inl (List.mem_append_left _ z)
  ·rcases List.mem_append.mp z with z | z
   ·exact .inr z
   ·rw [List.mem_singleton.mp z]; exact .inl (by simp)⟩
theorem st_step {rows : List Row} {ks cs : List Lit} {ms : List Nat} {x : Lit} {i : Nat} {S : List Nat} {r : Row} (hx : x∉ks) (hr : rows[i]? = some r) (hb : x∈r.body) (hi : i∉S) (h : Stt rows (ks ++ [x]) cs S ks ms) :
 ∃ v,ms[i]? = some (v + 1)∧Stt rows (ks ++ [x]) (if v = 0 then cs ++ [r.head] else cs) (S ++ [i]) ks (ms.set i v):=by
 obtain ⟨v,e1,e2,e3⟩:=ms_step hx hr hb hi h.mso
 have hil : i < ms.length:=(List.getElem?_eq_some_iff.mp e1).1
 refine ⟨v,e1,e3,h.nd,h.dk,fun y hy=>?_,fun j q hq e=>?_⟩
 ·by_cases z : v = 0
  ·rw [if_pos z] at hy
   rcases List.mem_append.mp hy with hy | hy
   ·exact h.dc y hy
   ·rw [List.mem_singleton.mp hy]
    refine .law (List.mem_of_getElem? hr) fun l hl=>h.dk l ?_
    by_cases el : l∈ks ++ [x]
    ·exact el
    ·exfalso
     have hlk : l∉ks:=fun q=>el (List.mem_append_left _ q)
     have hlx : l≠x:=fun q=>el (by rw [q]; simp)
     have m1 : l∈r.body.filter fun y=>!decide (y∈ks):=List.mem_filter.mpr ⟨hl,by simpa using hlk⟩
     have m2 : x∈r.body.filter fun y=>!decide (y∈ks):=List.mem_filter.mpr ⟨hb,by simpa using hx⟩
     unfold lack at e2
     rw [z] at e2
     obtain ⟨y,hy'⟩:=List.length_eq_one_iff.mp e2
     rw [hy'] at m1 m2
     exact hlx ((List.mem_singleton.mp m1).trans (List.mem_singleton.mp m2).symm)
  ·rw [if_neg z] at hy; exact h.dc y hy
 ·by_cases ej : j = i
  ·subst ej
   rw [hr] at hq; cases hq
   rw [List.getElem?_set_self hil] at e
   have z : v = 0:=Option.some.inj e
   rw [if_pos z]; exact .inr (by simp)
  ·rw [List.getElem?_set_ne (Ne.symm ej)] at e
   rcases h.cl j q hq e with z | z
   ·exact .inl z
   ·refine .inr ?_
    split
    ·exact List.mem_append_left _ z
    ·exact z
theorem st_close {rows : List Row} {ks cs : List Lit} {ms : List Nat} {x : Lit} (hx : x∉ks) (nd : ∀ r∈rows,r.body.Nodup) (h : Stt rows (ks ++ [x]) cs (idx rows rows.length x) ks ms) : Stt rows (ks ++ [x]) cs [] (ks ++ [x]) ms :=
 ⟨ms_end hx nd h.mso,h.nd,h.dk,h.dc,h.cl⟩
theorem st_done {rows : List Row} {ks : List Lit} {ms : List Nat} (h : Stt rows ks [] [] ks ms) : ∀ x,x∈ks↔ML.LawDer rows x:=fun x=>⟨h.dk x,fun d=>by
 induction d with
 | @law r hr _ ih =>
  obtain ⟨i,hi,e⟩:=List.mem_iff_getElem.mp hr
  have e1 : rows[i]? = some r:=by rw [List.getElem?_eq_getElem hi,e]
  have e2:=h.mso.2 i r e1
  rw [lack_zero.mpr ih] at e2
  rcases h.cl i r e1 (by simpa using e2) with z | z
  ·exact z
  ·cases z⟩
end WF
end
section
namespace ML
open Mo
def maskL (l : List Nat) : Nat:=(l.map fun i=>2 ^ i).sum
theorem mask_succ (n : Nat) (f : Nat→Bool) : maskOf (n + 1) f = if f n = true then with_ (maskOf n f) n else maskOf n f:=by
 unfold maskOf
 rw [List.range_succ,List.foldl_append]
 rfl
theorem with_add {m n : Nat} (h : m < 2 ^ n) : with_ m n = m + 2 ^ n:=by
 unfold with_
 rw [Nat.or_comm,Nat.add_comm]
 have:=Nat.two_pow_add_eq_or_of_lt h 1
 rw [Nat.mul_one] at this
 exact this.symm
theorem mask_sum (f : Nat→Bool) : ∀ n,maskOf n f = maskL ((List.range n).filter f)
 | 0=>rfl
 | n + 1=>by
  have ih:=mask_sum f n
  rw [mask_succ,List.range_succ,List.filter_append]
  unfold maskL at ih ⊢
  rw [List.map_append,List.sum_append,← ih]
  by_cases h : f n = true
  ·rw [if_pos h,with_add (mask_lt n f),List.filter_cons,if_pos h]
   simp
  ·rw [if_neg h,List.filter_cons,if_neg h]
   simp
def underOf (c : Case) (x : Bytes) : List Nat:=(List.range c.rules.length).filter fun j=>match c.rules[j]? with
 | some s=>outweighs c.weighs x s.name
 | none=>false
theorem under_get {c : Case} {i : Nat} {r : Row} (h : c.rules[i]? = some r) : c.under.getD i 0 = maskL (underOf c r.name):=by
 unfold Case.under
 rw [List.getD_eq_getElem?_getD,List.getElem?_map,h]
 show maskOf _ _ = _
 rw [mask_sum]
 rfl
end ML
end
section
namespace ML
open Mo
def pick {α : Type} (S : Nat) (l : List α) (i : Nat) : List α:=(List.range i).flatMap fun j=>if held S j = true then (l[j]?).toList else []
theorem pick_succ {α : Type} {S : Nat} {l : List α} {i : Nat} {x : α} (h : l[i]? = some x) : pick S l (i + 1) = pick S l i ++ if held S i = true then [x] else []:=by
 unfold pick
 rw [List.range_succ,List.flatMap_append,List.flatMap_cons,List.flatMap_nil,List.append_nil,h]
 rfl
theorem mem_pick {α : Type} {S : Nat} {l : List α} {i : Nat} {x : α} : x∈pick S l i↔∃ j,j < i∧held S j = true∧l[j]? = some x:=by
 unfold pick
 rw [List.mem_flatMap]
 constructor
 ·rintro ⟨j,hj,h⟩
  split at h
  ·rename_i e
   exact ⟨j,List.mem_range.mp hj,e,Option.mem_toList.mp h⟩
  ·cases h
 ·rintro ⟨j,hj,e,h⟩
  exact ⟨j,List.mem_range.mpr hj,by rw [if_pos e]; exact Option.mem_toList.mpr h⟩
theorem pick_len {α : Type} (S : Nat) (l : List α) : ∀ i,(pick S l i).length≤i
 | 0=>Nat.le_refl _
 | i + 1=>by
  have:=pick_len S l i
  unfold pick at *
  rw [List.range_succ,List.flatMap_append,List.length_append,List.flatMap_cons,List.flatMap_nil,List.append_nil]
  have : (if held S i = true then (l[i]?).toList else []).length≤1:=by
   split
   ·cases l[i]? <;> simp
   ·exact Nat.zero_le _
  omega
def nameRow (r : Row) : Row:=⟨r.name,[],⟨r.name,false⟩⟩
def twoRows (l : List Row) : List Row:=l.flatMap fun r=>[r,nameRow r]
theorem two_snoc (l : List Row) (r : Row) : twoRows (l ++ [r]) = twoRows l ++ [r,nameRow r]:=by
 unfold twoRows
 rw [List.flatMap_append,List.flatMap_cons,List.flatMap_nil,List.append_nil]
theorem two_len (l : List Row) : (twoRows l).length = 2 * l.length:=by
 unfold twoRows
 induction l with
 | nil=>rfl
 | cons x l ih=>rw [List.flatMap_cons,List.length_append,ih,List.length_cons (a:=x) (as:=l)]; show 2 + 2 * l.length = 2 * (l.length + 1); omega
theorem mem_two {l : List Row} {x : Row} : x∈twoRows l↔∃ r∈l,x = r∨x = nameRow r:=by
 unfold twoRows
 rw [List.mem_flatMap]
 constructor
 ·rintro ⟨r,hr,h⟩
  refine ⟨r,hr,?_⟩
  rcases List.mem_cons.mp h with h | h
  ·exact .inl h
  ·exact .inr (List.mem_singleton.mp h)
 ·rintro ⟨r,hr,h⟩
  refine ⟨r,hr,?_⟩
  rcases h with h | h
  ·exact List.mem_cons.mpr (.inl h)
  ·exact List.mem_cons.mpr (.inr (List.mem_singleton.mpr h))
def rowsWith (c : Case) (S : Nat) : List Row:=c.laws ++ twoRows (pick S c.rules c.rules.length)
theorem rows_len {c : Case} (g : Good c) (S : Nat) : (rowsWith c S).length≤84:=by
 unfold rowsWith
 rw [List.length_append,two_len]
 have:=g.laws
 have:=g.rules
 have:=pick_len S c.rules c.rules.length
 omega
theorem rows_body {c : Case} (g : Good c) (S : Nat) : ∀ r∈rowsWith c S,r.body.length≤6∧r.body.Nodup:=fun r h=>by
 rcases List.mem_append.mp h with h | h
 ·exact g.body r (List.mem_append_left _ h)
 ·obtain ⟨s,hs,e⟩:=mem_two.mp h
  obtain ⟨j,_,_,hj⟩:=mem_pick.mp hs
  rcases e with rfl | rfl
  ·exact g.body _ (List.mem_append_right _ (List.mem_of_getElem? hj))
  ·exact ⟨Nat.zero_le _,List.nodup_nil⟩
theorem rows_der {c : Case} {S : Nat} {x : Lit} : LawDer (rowsWith c S) x↔Der c (held S) x:=by
 constructor
 ·intro h
  induction h with
  | @law r hr _ ih =>
   rcases List.mem_append.mp hr with hr | hr
   ·exact .law hr ih
   ·obtain ⟨s,hs,e⟩:=mem_two.mp hr
    obtain ⟨j,_,h2,hj⟩:=mem_pick.mp hs
    rcases e with rfl | rfl
    ·exact .rule hj h2 ih
    ·exact .name hj h2
 ·intro h
  have mp : ∀ {i : Nat} {r : Row},c.rules[i]? = some r→held S i = true→r∈pick S c.rules c.rules.length:=fun {i r} h1 h2=>mem_pick.mpr ⟨i,(List.getElem?_eq_some_iff.mp h1).1,h2,h1⟩
  induction h with
  | @name i r h1 h2=>exact LawDer.law (r:=nameRow r) (List.mem_append_right _ (mem_two.mpr ⟨r,mp h1 h2,.inr rfl⟩)) (fun l hl=>by cases hl)
  | law hr _ ih=>exact .law (List.mem_append_left _ hr) ih
  | @rule i r h1 h2 _ ih=>exact .law (List.mem_append_right _ (mem_two.mpr ⟨r,mp h1 h2,.inl rfl⟩)) ih
end ML
end
section
namespace ML
open Mo
def pL (n : Nat) (cl : Nat→Bool) (S : Nat) : Bool:=cl S && (List.range n).all fun (i : Nat)=>!(held S i) || !(cl (without S i))
def lowL (n : Nat) (cl : Nat→Bool) (i : Nat) : List Nat:=(List.range i).filter (pL n cl)
theorem lowL_all (n : Nat) (cl : Nat→Bool) : lowL n cl (2 ^ n) = leastOf n cl:=rfl
theorem lowL_succ (n : Nat) (cl : Nat→Bool) (i : Nat) : lowL n cl (i + 1) = lowL n cl i ++ if pL n cl i = true then [i] else []:=by
 unfold lowL
 rw [List.range_succ,List.filter_append]
 congr 1
 rw [List.filter_cons]
 rfl
theorem lowL_len (n : Nat) (cl : Nat→Bool) (i : Nat) : (lowL n cl i).length≤i:=by
 have:=List.length_filter_le (pL n cl) (List.range i)
 rw [List.length_range] at this
 exact this
theorem pL_step {n : Nat} {cl : Nat→Bool} (up : Up cl) {S : Nat} (hS : S < 2 ^ n) : (!((lowL n cl S).any fun (T : Nat)=>within T S) && cl S) = pL n cl S:=by
 have mem : ∀ {T : Nat},T < 2 ^ n→(pL n cl T = true↔T∈leastOf n cl):=fun {T} hT=>by
  unfold leastOf
  rw [List.mem_filter,List.mem_range]
  exact ⟨fun h=>⟨hT,h⟩,fun h=>h.2⟩
 rw [Bool.eq_iff_iff,Bool.and_eq_true,Bool.not_eq_true',mem hS]
 constructor
 ·rintro ⟨h1,h2⟩
  obtain ⟨C,hC,hw⟩:=exists_least up hS h2
  have hle:=within_le hw
  by_cases e : C = S
  ·rw [← e]; exact hC
  ·exfalso
   have hlt : C < S:=by omega
   have : ((lowL n cl S).any fun (T : Nat)=>within T S) = true:=List.any_eq_true.mpr ⟨C,List.mem_filter.mpr ⟨List.mem_range.mpr hlt,(mem (by omega)).mpr hC⟩,hw⟩
   rw [h1] at this
   cases this
 ·intro h
  obtain ⟨_,h2,h3⟩:=(mem_least up).mp h
  refine ⟨?_,h2⟩
  rw [List.any_eq_false]
  intro T hT hw
  obtain ⟨hT1,hT2⟩:=List.mem_filter.mp hT
  have hlt:=List.mem_range.mp hT1
  obtain ⟨_,c2,_⟩:=(mem_least up).mp ((mem (by omega)).mp hT2)
  have:=h3 T hw c2
  omega
theorem pow_ten {n : Nat} (h : n≤10) : 2 ^ n≤1024:=Nat.pow_le_pow_right (by decide) h
end ML
end
section
namespace ML
open Mo
def hitC (c : Case) (i : Nat) : List Nat:=((c.numbered.clashes.filter (held · i)).map (without · i)).filter fun (A : Nat)=>A &&& c.under.getD i 0 == 0
theorem hits_eq (c : Case) : c.seen.hits = (List.range c.rules.length).map (hitC c):=rfl
theorem hit_eq {u i : Nat} (hu : held u i = false) : ∀ l : List Nat,((l.filter (held · i)).map (without · i)).filter (fun (A : Nat)=>A &&& u == 0) = (l.filter fun C=>held C i && (C &&& u == 0)).map fun C=>C - 2 ^ i
 | []=>rfl
 | C :: l=>by
  have ih:=hit_eq hu l
  rw [List.filter_cons,List.filter_cons]
  cases hC : held C i with
  | false=>rw [if_neg Bool.false_ne_true,Bool.false_and,if_neg Bool.false_ne_true]; exact ih
  | true =>
   rw [if_pos rfl,List.map_cons,List.filter_cons,Bool.true_and,ih]
   have e1 : without C i = C - 2 ^ i:=by unfold without; rw [if_pos hC]
   have e2 : (without C i &&& u == 0) = (C &&& u == 0):=by
    rw [Bool.eq_iff_iff,and_zero,and_zero]
    constructor
    ·intro h j hj
     by_cases e : i = j
     ·subst e; exact hu
     ·exact h j (by rw [held_without,hj,decide_eq_true e]; rfl)
    ·intro h j hj
     rw [held_without,Bool.and_eq_true] at hj
     exact h j hj.1
   rw [e2]
   cases (C &&& u == 0) with
   | false=>rw [if_neg Bool.false_ne_true,if_neg Bool.false_ne_true]
   | true=>rw [if_pos rfl,if_pos rfl,List.map_cons,e1]
theorem under_self {c : Case} (g : Good c) {i : Nat} (h : i < c.rules.length) : held (c.under.getD i 0) i = false:=by
 have hr : c.rules[i]? = some c.rules[i]:=List.getElem?_eq_getElem h
 generalize c.rules[i] = r at hr
 unfold Case.under
 rw [List.getD_eq_getElem?_getD,List.getElem?_map,hr]
 show held (maskOf c.rules.length _) i = false
 rw [held_mask,hr]
 have : outweighs c.weighs r.name r.name = false:=by
  cases e : outweighs c.weighs r.name r.name with
  | false=>rfl
  | true =>
   have:=goesRound_iff.mpr ⟨_,outweighs_iff.mp e⟩
   rw [g.round] at this; cases this
 show (decide (i < c.rules.length) && outweighs c.weighs r.name r.name) = false
 rw [this,Bool.and_false]
theorem hitC_eq {c : Case} (g : Good c) {i : Nat} (h : i < c.rules.length) : hitC c i = (c.numbered.clashes.filter fun C=>held C i && (C &&& c.under.getD i 0 == 0)).map fun C=>C - 2 ^ i:=hit_eq (under_self g h) _
theorem clashes_num {c : Case} : c.numbered.rules.length = c.rules.length:=by rw [numbered_eq]; exact List.length_map _
theorem clashes_le {c : Case} (g : Good c) : c.numbered.clashes.length≤1024:=by
 rw [clashes_eq,clashes_num,← lowL_all]
 exact Nat.le_trans (lowL_len _ _ _) (pow_ten g.rules)
theorem hitC_len {c : Case} (g : Good c) (i : Nat) : (hitC c i).length≤1024:=by
 unfold hitC
 refine Nat.le_trans (List.length_filter_le _ _) ?_
 rw [List.length_map]
 exact Nat.le_trans (List.length_filter_le _ _) (clashes_le g)
theorem held_le {S i : Nat} (h : held S i = true) : 2 ^ i≤S:=Nat.ge_two_pow_of_testBit h
def strikesH (hs : List (List Nat)) (T i : Nat) : Bool:=(hs.getD i []).any fun (A : Nat)=>within A T
def struckH (hs : List (List Nat)) (on S : Nat) : Nat:=maskOf hs.length fun (i : Nat)=>held on i && strikesH hs S i
def defH (hs : List (List Nat)) (on S : Nat) : Nat:=on - struckH hs on (on - struckH hs on S)
theorem mask_within (n on : Nat) (p : Nat→Bool) : within (maskOf n fun i=>held on i && p i) on = true:=within_iff.mpr fun i h=>by
 rw [held_mask,Bool.and_eq_true,Bool.and_eq_true] at h
 exact h.2.1
theorem mask_split {n on : Nat} (h : on < 2 ^ n) (p : Nat→Bool) : on - (maskOf n fun i=>held on i && p i) = maskOf n fun i=>held on i && !p i:=by
 have e:=PyProof.Rows.nat_or_add_and (maskOf n fun i=>held on i && p i) (maskOf n fun i=>held on i && !p i)
 have e1 : ((maskOf n fun i=>held on i && p i) ||| (maskOf n fun i=>held on i && !p i)) = on:=held_ext fun j=>by
  show Nat.testBit _ j = held on j
  rw [Nat.testBit_or]
  show (held _ j || held _ j) = _
  rw [held_mask,held_mask]
  cases q : held on j with
  | false=>simp
  | true=>rw [decide_eq_true (held_lt h q)]; cases p j <;> rfl
 have e2 : ((maskOf n fun i=>held on i && p i) &&& (maskOf n fun i=>held on i && !p i)) = 0:=held_ext fun j=>by
  rw [held_zero]
  show Nat.testBit _ j = false
  rw [Nat.testBit_and]
  show (held _ j && held _ j) = _
  rw [held_mask,held_mask]
  cases p j <;> simp
 rw [e1,e2] at e
 omega
section
variable {s : Seen} (hn : s.hits.length = s.n)
include hn
theorem def_eq {on : Nat} (h : on < 2 ^ s.n) (S : Nat) : defH s.hits on S = s.defended on S:=by
 unfold defH Seen.defended
 have e : ∀ T,on - struckH s.hits on T = maskOf s.n fun (i : Nat)=>held on i && !(s.strikes T i):=fun T=>by
  unfold struckH
  rw [hn,mask_split h]
  rfl
 rw [e,e]
end
theorem hits_len (c : Case) : c.seen.hits.length = c.seen.n:=by rw [hits_eq,List.length_map,List.length_range]; rfl
theorem struck_lt {hs : List (List Nat)} (on S : Nat) : struckH hs on S≤on:=within_le (mask_within _ _ _)
end ML
end
section
namespace ST
open PySem PySem.SetTable
def runAt (m i p : Nat) : Probe:={ j:=i,more:=runEnd m i - i,i:=i,perturb:=p,dummy:=none }
def adv (m : Nat) (p : Probe) : Probe:=if p.more > 0 then { p with j:=p.j + 1,more:=p.more - 1 } else { p with j:=(leap m p.i p.perturb).1,more:=runEnd m (leap m p.i p.perturb).1 - (leap m p.i p.perturb).1,i:=(leap m p.i p.perturb).1,perturb:=(leap m p.i p.perturb).2 }
def look (m : Nat) (h : Int) : Nat→Probe
 | 0=>runAt m (bits h % (m + 1)) (bits h)
 | n + 1=>adv m (look m h n)
theorem runEnd_ge (m i : Nat) : i≤runEnd m i∧runEnd m i≤i + 9:=by unfold runEnd; split <;> omega
theorem look_run {m : Nat} {h : Int} {n i p : Nat} (hn : look m h n = runAt m i p) : ∀ e,e≤runEnd m i - i→look m h (n + e) = { j:=i + e,more:=runEnd m i - i - e,i:=i,perturb:=p,dummy:=none }
 | 0,_=>by rw [Nat.add_zero,hn]; rfl
 | e + 1,he=>by
  have ih:=look_run hn e (by omega)
  show adv m (look m h (n + e)) = _
  rw [ih]
  unfold adv
  have : runEnd m i - i - e > 0:=by omega
  simp only [this,if_true]
  congr 1
theorem look_leap {m : Nat} {h : Int} {n i p : Nat} (hn : look m h n = runAt m i p) : look m h (n + (runEnd m i - i) + 1) = runAt m ((i * 5 + 1 + p / 32) % (m + 1)) (p / 32):=by
 have e:=look_run hn (runEnd m i - i) (Nat.le_refl _)
 show adv m (look m h (n + (runEnd m i - i))) = _
 rw [e]
 unfold adv
 have : ¬ (runEnd m i - i - (runEnd m i - i) > 0):=by omega
 simp only [this,if_false]
 rfl
def runI (m : Nat) (h : Int) : Nat→Nat × Nat
 | 0=>(bits h % (m + 1),bits h)
 | k + 1=>(((runI m h k).1 * 5 + 1 + (runI m h k).2 / 32) % (m + 1),(runI m h k).2 / 32)
theorem run_at (m : Nat) (h : Int) : ∀ k,∃ n,n≤10 * k∧look m h n = runAt m (runI m h k).1 (runI m h k).2
 | 0=>⟨0,Nat.le_refl _,rfl⟩
 | k + 1=>by
  obtain ⟨n,h1,h2⟩:=run_at m h k
  have:=runEnd_ge m (runI m h k).1
  exact ⟨_,by omega,look_leap h2⟩
theorem bits_lt (h : Int) : bits h < 2 ^ 64:=by
 unfold bits
 have h1 : 0≤h % (2 ^ 64 : Int):=Int.emod_nonneg _ (by decide)
 have h2 : h % (2 ^ 64 : Int) < 2 ^ 64:=Int.emod_lt_of_pos _ (by decide)
 omega
theorem runI_perturb (m : Nat) (h : Int) : ∀ k,(runI m h k).2 * 32 ^ k≤bits h
 | 0=>by show bits h * 1≤bits h; omega
 | k + 1=>by
  have ih:=runI_perturb m h k
  have h1 : (runI m h k).2 / 32 * 32≤(runI m h k).2:=Nat.div_mul_le_self _ _
  show (runI m h k).2 / 32 * 32 ^ (k + 1)≤bits h
  rw [Nat.pow_succ,Nat.mul_comm (32 ^ k) 32,← Nat.mul_assoc]
  exact Nat.le_trans (Nat.mul_le_mul_right _ h1) ih
theorem runI_zero (m : Nat) (h : Int) : (runI m h 13).2 = 0:=by
 have h1:=runI_perturb m h 13
 have h2:=bits_lt h
 rcases Nat.eq_zero_or_pos (runI m h 13).2 with z | z
 ·exact z
 ·have : (1 : Nat) * 32 ^ 13≤(runI m h 13).2 * 32 ^ 13:=Nat.mul_le_mul_right _ z
  have e : (32 : Nat) ^ 13 = 2 ^ 65:=by decide
  rw [e] at this h1
  omega
def orb (m i : Nat) : Nat→Nat
 | 0=>i
 | r + 1=>(orb m i r * 5 + 1) % (m + 1)
theorem runI_orb (m : Nat) (h : Int) : ∀ r,runI m h (13 + r) = (orb m (runI m h 13).1 r,0)
 | 0=>by
  show runI m h 13 = ((runI m h 13).1,0)
  rw [← runI_zero m h]
 | r + 1=>by
  have ih:=runI_orb m h r
  show (((runI m h (13 + r)).1 * 5 + 1 + (runI m h (13 + r)).2 / 32) % (m + 1),(runI m h (13 + r)).2 / 32) = _
  rw [ih]
  simp [orb]
theorem orb_add (m i : Nat) (a : Nat) : ∀ b,orb m i (a + b) = orb m (orb m i a) b
 | 0=>rfl
 | b + 1=>by
  show (orb m i (a + b) * 5 + 1) % (m + 1) = (orb m (orb m i a) b * 5 + 1) % (m + 1)
  rw [orb_add m i a b]
structure Whole (m : Nat) : Prop where
 all : ∀ j,j < m + 1→∃ r,r < m + 1∧orb m 0 r = j
 back : orb m 0 (m + 1) = 0
def orbL (m : Nat) : Nat→Nat→List Nat
 | 0,_=>[]
 | f + 1,i=>i :: orbL m f ((i * 5 + 1) % (m + 1))
theorem orbL_get (m : Nat) : ∀ (f i r : Nat),r < f→(orbL m f i)[r]? = some (orb m i r)
 | 0,_,_,h=>by omega
 | f + 1,i,0,_=>rfl
 | f + 1,i,r + 1,h=>by
  show (orbL m f ((i * 5 + 1) % (m + 1)))[r]? = _
  rw [orbL_get m f _ r (by omega)]
  have e : orb m i (1 + r) = orb m (orb m i 1) r:=orb_add m i 1 r
  rw [Nat.add_comm] at e
  rw [e]
  rfl
theorem orbL_length (m : Nat) : ∀ (f i : Nat),(orbL m f i).length = f
 | 0,_=>rfl
 | f + 1,i=>by show (orbL m f _).length + 1 = _; rw [orbL_length]
theorem whole_by {m : Nat} (h : ((List.range (m + 1)).all fun j=>(orbL m (m + 1) 0).contains j) = true) (b : (orbL m (m + 2) 0)[m + 1]? = some 0) : Whole m:=by
 constructor
 ·intro j hj
  have:=List.all_eq_true.mp h j (List.mem_range.mpr hj)
  obtain ⟨r,hr⟩:=List.mem_iff_getElem?.mp (List.contains_iff_mem.mp this)
  have hl : r < m + 1:=by
   have:=(List.getElem?_eq_some_iff.mp hr).1
   rw [orbL_length] at this; exact this
  rw [orbL_get m _ _ _ hl] at hr
  exact ⟨r,hl,Option.some.inj hr⟩
 ·rw [orbL_get m _ _ _ (by omega)] at b
  exact Option.some.inj b
theorem whole7 : Whole 7:=whole_by (by decide +kernel) (by decide +kernel)
theorem whole31 : Whole 31:=whole_by (by decide +kernel) (by decide +kernel)
theorem whole127 : Whole 127:=whole_by (by decide +kernel) (by decide +kernel)
theorem Whole.any {m : Nat} (w : Whole m) {i j : Nat} (hi : i < m + 1) (hj : j < m + 1) : ∃ r,r < m + 1∧orb m i r = j:=by
 obtain ⟨a,ha,ea⟩:=w.all i hi
 obtain ⟨b,hb,eb⟩:=w.all j hj
 by_cases h : a≤b
 ·refine ⟨b - a,by omega,?_⟩
  rw [← ea,← orb_add,Nat.add_sub_cancel' h,eb]
 ·refine ⟨m + 1 - a + b,by omega,?_⟩
  rw [← ea,← orb_add,← Nat.add_assoc,Nat.add_sub_cancel' (by omega),orb_add,w.back,eb]
theorem runI_lt (m : Nat) (h : Int) : ∀ k,(runI m h k).1 < m + 1
 | 0=>Nat.mod_lt _ (by omega)
 | _ + 1=>Nat.mod_lt _ (by omega)
theorem look_all {m : Nat} (w : Whole m) (h : Int) {j : Nat} (hj : j < m + 1) : ∃ k,k < m + 14∧(runI m h k).1 = j:=by
 obtain ⟨r,hr,e⟩:=w.any (runI_lt m h 13) hj
 refine ⟨13 + r,by omega,?_⟩
 rw [runI_orb]; exact e
theorem look_all' {m : Nat} (w : Whole m) (h : Int) {j : Nat} (hj : j < m + 1) : ∃ n,n < 10 * turns m∧(look m h n).j = j:=by
 obtain ⟨k,hk,e⟩:=look_all w h hj
 obtain ⟨n,h1,h2⟩:=run_at m h k
 refine ⟨n,by unfold turns; omega,?_⟩
 rw [h2]; exact e
theorem look_dummy (m : Nat) (h : Int) : ∀ n,(look m h n).dummy = none
 | 0=>rfl
 | n + 1=>by
  show (adv m (look m h n)).dummy = none
  unfold adv
  split <;> exact look_dummy m h n
theorem least {P : Nat→Prop} (h : ∃ n,P n) : ∃ n,P n∧∀ k,k < n→¬ P k:=by
 obtain ⟨n,hn⟩:=h
 induction n using Nat.strongRecOn with
 | _ n ih =>
  by_cases q : ∃ k,k < n∧P k
  ·obtain ⟨k,h1,h2⟩:=q
   exact ih k h1 h2
  ·exact ⟨n,hn,fun k h1 h2=>q ⟨k,h1,h2⟩⟩
end ST
end
section
namespace ST
open PySem PySem.SetTable
def Rise (xs : List Nat) : Prop:=xs.Pairwise (· < ·)
theorem Rise.lt {xs : List Nat} (h : Rise xs) {i j a b : Nat} (hi : xs[i]? = some a) (hj : xs[j]? = some b) (hij : i < j) : a < b:=by
 obtain ⟨h1,e1⟩:=List.getElem?_eq_some_iff.mp hi
 obtain ⟨h2,e2⟩:=List.getElem?_eq_some_iff.mp hj
 rw [← e1,← e2]
 exact List.pairwise_iff_getElem.mp h i j h1 h2 hij
theorem below_go {xs : Array Nat} (hr : Rise xs.toList) (j : Nat) : ∀ (f lo hi : Nat),hi - lo≤f→lo≤hi→hi≤xs.size→(∀ i,i < lo→∃ a,xs[i]? = some a∧a < j)→(∀ i,hi≤i→∀ a,xs[i]? = some a→j≤a) →
 (∀ i,i < below.go xs j f lo hi→∃ a,xs[i]? = some a∧a < j)∧(∀ i,below.go xs j f lo hi≤i→∀ a,xs[i]? = some a→j≤a)
 | 0,lo,hi,h1,h2,_,hlo,hhi=>by
  have e : hi = lo:=by omega
  subst e
  exact ⟨hlo,hhi⟩
 | f + 1,lo,hi,h1,h2,h3,hlo,hhi=>by
  unfold below.go
  by_cases hlt : lo < hi
  ·rw [if_pos hlt]
   have hm : (lo + hi) / 2 < xs.size:=by omega
   have hg : xs[(lo + hi) / 2]? = some xs[(lo + hi) / 2]:=Array.getElem?_eq_getElem hm
   have hd : xs.getD ((lo + hi) / 2) j = xs[(lo + hi) / 2]:=by simp [Array.getD,hm]
   simp only [hd]
   by_cases hc : xs[(lo + hi) / 2] < j
   ·rw [if_pos hc]
    refine below_go hr j f _ _ (by omega) (by omega) h3 ?_ hhi
    intro i hi'
    have : i < xs.size:=by omega
    refine ⟨xs[i],Array.getElem?_eq_getElem this,?_⟩
    by_cases e : i = (lo + hi) / 2
    ·subst e; exact hc
    ·have:=hr.lt (i:=i) (j:=(lo + hi) / 2) (a:=xs[i]) (b:=xs[(lo + hi) / 2]) (by rw [Array.getElem?_toList]; exact Array.getElem?_eq_getElem this) (by rw [Array.getElem?_toList]; exact hg) (by omega)
     omega
   ·rw [if_neg hc]
    refine below_go hr j f _ _ (by omega) (by omega) (by omega) hlo ?_
    intro i hi' a ha
    by_cases e : i = (lo + hi) / 2
    ·subst e
     rw [hg] at ha
     cases ha
     omega
    ·have:=hr.lt (i:=(lo + hi) / 2) (j:=i) (a:=xs[(lo + hi) / 2]) (b:=a) (by rw [Array.getElem?_toList]; exact hg) (by rw [Array.getElem?_toList]; exact ha) (by omega)
     omega
  ·rw [if_neg hlt]
   have e : hi = lo:=by omega
   subst e
   exact ⟨hlo,hhi⟩
theorem below_spec {xs : Array Nat} (hr : Rise xs.toList) (j : Nat) : (∀ i,i < below xs j→∃ a,xs[i]? = some a∧a < j)∧(∀ i,below xs j≤i→∀ a,xs[i]? = some a→j≤a) :=
 below_go hr j xs.size 0 xs.size (by omega) (by omega) (Nat.le_refl _) (fun i h=>by omega) (fun i h a ha=>by
  have:=(Array.getElem?_eq_some_iff.mp ha).1
  omega)
theorem below_le {xs : Array Nat} (hr : Rise xs.toList) (j : Nat) : below xs j≤xs.size:=by
 apply Classical.byContradiction
 intro h
 obtain ⟨a,ha,_⟩:=(below_spec hr j).1 xs.size (by omega)
 have:=(Array.getElem?_eq_some_iff.mp ha).1
 omega
theorem below_at {xs : Array Nat} (hr : Rise xs.toList) {i j : Nat} (h : xs[i]? = some j) : below xs j = i:=by
 obtain ⟨h1,h2⟩:=below_spec hr j
 rcases Nat.lt_trichotomy (below xs j) i with q | q | q
 ·have hs:=(Array.getElem?_eq_some_iff.mp h).1
  have hb : below xs j < xs.size:=by omega
  have e:=Array.getElem?_eq_getElem hb
  have:=h2 (below xs j) (Nat.le_refl _) _ e
  have l:=hr.lt (i:=below xs j) (j:=i) (by rw [Array.getElem?_toList]; exact e) (by rw [Array.getElem?_toList]; exact h) q
  omega
 ·exact q
 ·obtain ⟨a,ha,hl⟩:=h1 i q
  rw [h] at ha
  cases ha
  omega
theorem look_room (m : Nat) (h : Int) : ∀ n,(look m h n).j + (look m h n).more≤m
 | 0=>by
  show bits h % (m + 1) + (runEnd m (bits h % (m + 1)) - bits h % (m + 1))≤m
  have h1 : bits h % (m + 1) < m + 1:=Nat.mod_lt _ (by omega)
  have h2:=(runEnd_ge m (bits h % (m + 1))).1
  have h3 : runEnd m (bits h % (m + 1))≤m:=by unfold runEnd; split <;> omega
  omega
 | n + 1=>by
  have ih:=look_room m h n
  show (adv m (look m h n)).j + (adv m (look m h n)).more≤m
  unfold adv
  split
  ·show (look m h n).j + 1 + ((look m h n).more - 1)≤m
   omega
  ·generalize hi : (leap m (look m h n).i (look m h n).perturb).1 = i
   have h1 : i < m + 1:=by rw [← hi]; exact Nat.mod_lt _ (by omega)
   show i + (runEnd m i - i)≤m
   have h2:=(runEnd_ge m i).1
   have h3 : runEnd m i≤m:=by unfold runEnd; split <;> omega
   omega
theorem look_le (m : Nat) (h : Int) (n : Nat) : (look m h n).j≤m:=by have:=look_room m h n; omega
structure Tab (t : SetTable) (n : Nat) : Prop where
 nodum : t.dummies = #[]
 rise : Rise t.place.toList
 size : t.place.size = n
 most : ∀ j∈t.place.toList,j≤t.mask
 whole : Whole t.mask
 free : n≤t.mask
theorem slot_live {t : SetTable} {n i j : Nat} (T : Tab t n) (h : t.place[i]? = some j) : t.slot j = .live i:=by
 unfold slot
 simp only [below_at T.rise h,h]
 simp
theorem has_nil (j : Nat) : has #[] j = false:=by unfold has; simp
theorem slot_empty {t : SetTable} {n j : Nat} (T : Tab t n) (h : j∉t.place.toList) : t.slot j = .empty:=by
 unfold slot
 simp only
 have h1 : (t.place[below t.place j]? == some j) = false:=by
  cases q : (t.place[below t.place j]? == some j) with
  | false=>rfl
  | true =>
   exfalso
   have:=beq_iff_eq.mp q
   exact h (List.mem_of_getElem? (by rw [Array.getElem?_toList]; exact this))
 rw [h1,T.nodum,has_nil]
 simp
theorem slot_cases {t : SetTable} {n : Nat} (T : Tab t n) (j : Nat) : (∃ i,t.place[i]? = some j∧t.slot j = .live i)∨(j∉t.place.toList∧t.slot j = .empty):=by
 by_cases h : j∈t.place.toList
 ·obtain ⟨i,hi⟩:=List.mem_iff_getElem?.mp h
  rw [Array.getElem?_toList] at hi
  exact .inl ⟨i,hi,slot_live T hi⟩
 ·exact .inr ⟨h,slot_empty T h⟩
theorem free_slot {t : SetTable} {n : Nat} (T : Tab t n) : ∃ j,j < t.mask + 1∧j∉t.place.toList:=by
 apply Classical.byContradiction
 intro h
 have sub : ∀ j,j∈List.range (t.mask + 1)→j∈t.place.toList:=fun j hj=>Classical.byContradiction fun z=>h ⟨j,List.mem_range.mp hj,z⟩
 have l:=(List.nodup_range (n:=t.mask + 1)).length_le_of_subset sub
 rw [List.length_range] at l
 have:=T.size
 have:=T.free
 simp at l
 omega
def Stops (t : SetTable) (hashAt : Nat→Int) (h : Int) (n : Nat) : Prop:=(look t.mask h n).j∉t.place.toList∨∃ i,t.place[i]? = some (look t.mask h n).j∧hashAt i = h
theorem probe_go {t : SetTable} {k : Nat} (T : Tab t k) (hashAt : Nat→Int) (h : Int) : ∀ (f n N : Nat),n≤N→N < n + f→Stops t hashAt h N→(∀ q,n≤q→q < N→¬ Stops t hashAt h q) →
 ((look t.mask h N).j∉t.place.toList∧probe.go t hashAt h f (look t.mask h n) = some (.empty (look t.mask h N).j none)) ∨
 ∃ i,t.place[i]? = some (look t.mask h N).j∧hashAt i = h∧probe.go t hashAt h f (look t.mask h n) = some (.candidate (look t.mask h N).j i (look t.mask h (N + 1)))
 | 0,n,N,h1,h2,_,_=>by omega
 | f + 1,n,N,h1,h2,hs,hno=>by
  by_cases e : n = N
  ·subst e
   unfold probe.go
   rcases hs with hs | ⟨i,hi,hh⟩
   ·rw [slot_empty T hs]
    exact .inl ⟨hs,by rw [look_dummy]⟩
   ·rw [slot_live T hi]
    refine .inr ⟨i,hi,hh,?_⟩
    simp only [hh,beq_self_eq_true,if_true]
    rfl
  ·have hn:=hno n (Nat.le_refl _) (by omega)
   have step : probe.go t hashAt h (f + 1) (look t.mask h n) = probe.go t hashAt h f (look t.mask h (n + 1)):=by
    conv=>lhs; unfold probe.go
    rcases slot_cases T (look t.mask h n).j with ⟨i,hi,es⟩ | ⟨hi,_⟩
    ·rw [es]
     have hne : (hashAt i == h) = false:=by
      cases q : (hashAt i == h) with
      | false=>rfl
      | true=>exact absurd (.inr ⟨i,hi,beq_iff_eq.mp q⟩) hn
     simp only [hne]
     rfl
    ·exact absurd (.inl hi) hn
   rw [step]
   exact probe_go T hashAt h f (n + 1) N (by omega) (by omega) hs fun q q1 q2=>hno q (by omega) q2
theorem next_stop {t : SetTable} {k : Nat} (T : Tab t k) (hashAt : Nat→Int) (h : Int) {n M : Nat} (hM : (look t.mask h M).j∉t.place.toList) (hn : n≤M) : ∃ N,n≤N∧N≤M∧Stops t hashAt h N∧∀ q,n≤q→q < N→¬ Stops t hashAt h q:=by
 obtain ⟨N,hN,hl⟩:=least (P:=fun d=>Stops t hashAt h (n + d)) ⟨M - n,by rw [Nat.add_sub_cancel' hn]; exact .inl hM⟩
 refine ⟨n + N,by omega,?_,hN,fun q q1 q2=>?_⟩
 ·apply Classical.byContradiction
  intro z
  exact hl (M - n) (by omega) (by rw [Nat.add_sub_cancel' hn]; exact .inl hM)
 ·have:=hl (q - n) (by omega)
  rw [Nat.add_sub_cancel' q1] at this
  exact this
theorem first_free {t : SetTable} {k : Nat} (T : Tab t k) (h : Int) : ∃ M,M < 10 * turns t.mask∧(look t.mask h M).j∉t.place.toList∧∀ q,q < M→(look t.mask h q).j∈t.place.toList:=by
 obtain ⟨j,hj,hf⟩:=free_slot T
 obtain ⟨n,hn,e⟩:=look_all' T.whole h hj
 obtain ⟨M,hM,hl⟩:=least (P:=fun n=>(look t.mask h n).j∉t.place.toList) ⟨n,by rw [e]; exact hf⟩
 refine ⟨M,?_,hM,fun q hq=>Classical.byContradiction fun z=>hl q hq z⟩
 apply Classical.byContradiction
 intro z
 exact hl n (by omega) (by rw [e]; exact hf)
end ST
end
section
namespace ST
open PySem PySem.SetTable
theorem insertAt_toList {α : Type} (xs : Array α) (p : Nat) (x : α) (hp : p≤xs.size) : (insertAt xs p x).toList = xs.toList.take p ++ x :: xs.toList.drop p:=by
 unfold insertAt
 simp [Array.toList_extract,List.take_of_length_le]
theorem mem_ins {α : Type} {l : List α} {p : Nat} {x y : α} : y∈l.take p ++ x :: l.drop p↔y = x∨y∈l:=by
 rw [List.mem_append,List.mem_cons]
 constructor
 ·rintro (h | h | h)
  ·exact .inr (List.mem_of_mem_take h)
  ·exact .inl h
  ·exact .inr (List.mem_of_mem_drop h)
 ·rintro (h | h)
  ·exact .inr (.inl h)
  ·rw [← List.take_append_drop p l] at h
   rcases List.mem_append.mp h with h | h
   ·exact .inl h
   ·exact .inr (.inr h)
theorem get_ins {α : Type} {l : List α} {p : Nat} (hp : p≤l.length) (x : α) (i : Nat) : (l.take p ++ x :: l.drop p)[i]? = if i < p then l[i]? else if i = p then some x else l[i - 1]?:=by
 by_cases h1 : i < p
 ·rw [if_pos h1,List.getElem?_append_left (by rw [List.length_take]; omega),List.getElem?_take_of_lt h1]
 ·rw [if_neg h1,List.getElem?_append_right (by rw [List.length_take]; omega),List.length_take,Nat.min_eq_left hp]
  by_cases h2 : i = p
  ·subst h2; simp
  ·rw [if_neg h2]
   obtain ⟨d,hd⟩ : ∃ d,i - p = d + 1:=⟨i - p - 1,by omega⟩
   rw [hd,List.getElem?_cons_succ,List.getElem?_drop]
   congr 1
   omega
def Way (m : Nat) (place : List Nat) (hs : List Int) : Prop:=∀ (i j : Nat) (h : Int),place[i]? = some j→hs[i]? = some h→∃ n,(look m h n).j = j∧∀ q,q < n→(look m h q).j∈place
theorem rise_ins {xs : Array Nat} (hr : Rise xs.toList) {j : Nat} (hj : j∉xs.toList) : Rise (xs.toList.take (below xs j) ++ j :: xs.toList.drop (below xs j)):=by
 obtain ⟨h1,h2⟩:=below_spec hr j
 have lo : ∀ a∈xs.toList.take (below xs j),a < j:=fun a ha=>by
  obtain ⟨i,hi⟩:=List.mem_iff_getElem?.mp ha
  rw [List.getElem?_take] at hi
  split at hi
  ·rename_i hlt
   obtain ⟨b,hb,hl⟩:=h1 i hlt
   rw [Array.getElem?_toList] at hi
   rw [hi] at hb; cases hb; exact hl
  ·cases hi
 have up : ∀ a∈xs.toList.drop (below xs j),j < a:=fun a ha=>by
  obtain ⟨i,hi⟩:=List.mem_iff_getElem?.mp ha
  rw [List.getElem?_drop,Array.getElem?_toList] at hi
  have:=h2 _ (by omega) a hi
  have hne : a≠j:=fun e=>hj (by rw [← e]; exact List.mem_of_getElem? (by rw [Array.getElem?_toList]; exact hi))
  omega
 refine List.pairwise_append.mpr ⟨hr.sublist (List.take_sublist _ _),List.pairwise_cons.mpr ⟨up,hr.sublist (List.drop_sublist _ _)⟩,fun a ha b hb=>?_⟩
 have:=lo a ha
 rcases List.mem_cons.mp hb with e | hb
 ·omega
 ·have:=up b hb; omega
theorem put_tab {t : SetTable} {n j : Nat} (T : Tab t n) (hj : j∉t.place.toList) (hm : j≤t.mask) (hf : n + 1≤t.mask) : Tab (t.put j).1 (n + 1)∧(t.put j).2 = below t.place j∧(t.put j).1.mask = t.mask∧(t.put j).1.place.toList = t.place.toList.take (below t.place j) ++ j :: t.place.toList.drop (below t.place j):=by
 have hp:=below_le T.rise j
 have el : (t.put j).1.place.toList = t.place.toList.take (below t.place j) ++ j :: t.place.toList.drop (below t.place j):=by
  unfold put
  exact insertAt_toList _ _ _ hp
 refine ⟨⟨?_,?_,?_,?_,T.whole,hf⟩,rfl,rfl,el⟩
 ·unfold put
  simp only [T.nodum,has_nil]
  simp
 ·rw [el]; exact rise_ins T.rise hj
 ·rw [← Array.length_toList,el,List.length_append,List.length_take,List.length_cons,List.length_drop,Array.length_toList,T.size]
  have:=T.size
  omega
 ·rw [el]
  intro k hk
  rcases mem_ins.mp hk with e | hk
  ·rw [e]; exact hm
  ·exact T.most k hk
theorem put_way {t : SetTable} {n j N : Nat} {h : Int} {hs : List Int} (T : Tab t n) (W : Way t.mask t.place.toList hs) (hl : hs.length = n) (hN : (look t.mask h N).j = j) (hall : ∀ q,q < N→(look t.mask h q).j∈t.place.toList) :
 Way t.mask (t.place.toList.take (below t.place j) ++ j :: t.place.toList.drop (below t.place j)) (hs.take (below t.place j) ++ h :: hs.drop (below t.place j)):=by
 have hp:=below_le T.rise j
 have hp1 : below t.place j≤t.place.toList.length:=by rw [Array.length_toList]; exact hp
 have hp2 : below t.place j≤hs.length:=by rw [hl,← T.size]; exact hp
 intro i k g h1 h2
 rw [get_ins hp1] at h1
 rw [get_ins hp2] at h2
 have old : ∀ i',t.place.toList[i']? = some k→hs[i']? = some g→∃ n,(look t.mask g n).j = k∧∀ q,q < n→(look t.mask g q).j∈t.place.toList.take (below t.place j) ++ j :: t.place.toList.drop (below t.place j):=fun i' a b=>by
  obtain ⟨n,e,hq⟩:=W i' k g a b
  exact ⟨n,e,fun q hq'=>mem_ins.mpr (.inr (hq q hq'))⟩
 by_cases c1 : i < below t.place j
 ·rw [if_pos c1] at h1 h2; exact old i h1 h2
 ·rw [if_neg c1] at h1 h2
  by_cases c2 : i = below t.place j
  ·rw [if_pos c2] at h1 h2
   cases h1
   cases h2
   exact ⟨N,hN,fun q hq=>mem_ins.mpr (.inr (hall q hq))⟩
  ·rw [if_neg c2] at h1 h2; exact old (i - 1) h1 h2
def at_ (ow : Array (Option Nat)) (j : Nat) : Option Nat:=ow.getD j none
structure Own (m : Nat) (hs : List Int) (ow : Array (Option Nat)) (k : Nat) : Prop where
 size : ow.size = m + 1
 of : ∀ j i,at_ ow j = some i→i < k∧∃ h,hs[i]? = some h∧∃ n,(look m h n).j = j∧∀ q,q < n→(at_ ow (look m h q).j).isSome = true
 has : ∀ i,i < k→∃ j,at_ ow j = some i
 one : ∀ j l i,at_ ow j = some i→at_ ow l = some i→j = l
theorem at_lt {ow : Array (Option Nat)} {j i : Nat} (h : at_ ow j = some i) : j < ow.size:=by
 apply Classical.byContradiction
 intro z
 unfold at_ at h
 rw [Array.getD_eq_getD_getElem?,Array.getElem?_eq_none (by omega)] at h
 cases h
theorem at_set {ow : Array (Option Nat)} {j k l : Nat} (hj : j < ow.size) : at_ (ow.setIfInBounds j (some k)) l = if l = j then some k else at_ ow l:=by
 unfold at_
 rw [Array.getD_eq_getD_getElem?,Array.getD_eq_getD_getElem?,Array.getElem?_setIfInBounds]
 by_cases e : j = l
 ·subst e; simp [hj]
 ·have e' : ¬ l = j:=fun z=>e z.symm
  simp [e,e']
theorem runEnd_le {m i : Nat} (h : i≤m) : runEnd m i≤m:=by unfold runEnd; split <;> omega
theorem free_go {m : Nat} {h : Int} {ow : Array (Option Nat)} (hs : ow.size = m + 1) : ∀ (f k n : Nat),look m h n = runAt m (runI m h k).1 (runI m h k).2→(∀ q,q < n→(at_ ow (look m h q).j).isSome = true) →
 (∃ r,k≤r∧r < k + f∧at_ ow (runI m h r).1 = none)→∃ N j,layClean.free m ow f (runI m h k).1 (runI m h k).2 = some j∧(look m h N).j = j∧j < m + 1∧at_ ow j = none∧∀ q,q < N→(at_ ow (look m h q).j).isSome = true
 | 0,k,n,_,_,⟨r,h1,h2,_⟩=>by omega
 | f + 1,k,n,hn,hq,⟨r,h1,h2,h3⟩=>by
  have hi : (runI m h k).1≤m:=by have:=runI_lt m h k; omega
  have hre:=runEnd_le hi
  have hre2:=(runEnd_ge m (runI m h k).1).1
  have inr : ∀ e,e < runEnd m (runI m h k).1 + 1 - (runI m h k).1→(runI m h k).1 + e < ow.size:=fun e he=>by rw [hs]; omega
  have isn : ∀ e,e < runEnd m (runI m h k).1 + 1 - (runI m h k).1→(ow.getD ((runI m h k).1 + e) (some 0)).isNone = (at_ ow ((runI m h k).1 + e)).isNone:=fun e he=>by
   unfold at_
   have:=inr e he
   simp [Array.getD,this]
  have lk : ∀ e,e < runEnd m (runI m h k).1 + 1 - (runI m h k).1→(look m h (n + e)).j = (runI m h k).1 + e:=fun e he=>by rw [look_run hn e (by omega)]
  unfold layClean.free
  cases hf : (List.range (runEnd m (runI m h k).1 + 1 - (runI m h k).1)).find? fun e=>(ow.getD ((runI m h k).1 + e) (some 0)).isNone with
  | some e =>
   simp only
   obtain ⟨hp,as,bs,hab,hno⟩:=List.find?_eq_some_iff_append.mp hf
   have he : e < runEnd m (runI m h k).1 + 1 - (runI m h k).1:=List.mem_range.mp (List.mem_of_find?_eq_some hf)
   have hmin : ∀ d,d < e→(at_ ow ((runI m h k).1 + d)).isSome = true:=fun d hd=>by
    have hget : (List.range (runEnd m (runI m h k).1 + 1 - (runI m h k).1))[as.length]? = some e:=by rw [hab]; simp
    have hal : as.length = e:=by
     obtain ⟨q1,q2⟩:=List.getElem?_eq_some_iff.mp hget
     rw [List.getElem_range] at q2; exact q2
    have hd' : (List.range (runEnd m (runI m h k).1 + 1 - (runI m h k).1))[d]? = some d:=List.getElem?_range (by omega)
    have : d∈as:=by
     rw [hab,List.getElem?_append_left (by omega)] at hd'
     exact List.mem_of_getElem? hd'
    have:=hno d this
    rw [isn d (by omega)] at this
    cases q : at_ ow ((runI m h k).1 + d) with
    | none=>rw [q] at this; simp at this
    | some _=>rfl
   have hnone : at_ ow ((runI m h k).1 + e) = none:=by
    have hp' : (ow.getD ((runI m h k).1 + e) (some 0)).isNone = true:=hp
    rw [isn e he] at hp'
    exact Option.isNone_iff_eq_none.mp hp'
   refine ⟨n + e,_,rfl,lk e he,by have:=inr e he; omega,hnone,fun q hq'=>?_⟩
   by_cases hqn : q < n
   ·exact hq q hqn
   ·obtain ⟨d,hd⟩ : ∃ d,q = n + d:=⟨q - n,by omega⟩
    subst hd
    rw [lk d (by omega)]
    exact hmin d (by omega)
  | none =>
   simp only
   have hall : ∀ d,d < runEnd m (runI m h k).1 + 1 - (runI m h k).1→(at_ ow ((runI m h k).1 + d)).isSome = true:=fun d hd=>by
    have:=List.find?_eq_none.mp hf d (List.mem_range.mpr hd)
    rw [isn d hd] at this
    cases q : at_ ow ((runI m h k).1 + d) with
    | none=>rw [q] at this; simp at this
    | some _=>rfl
   have hkr : k≠r:=fun e=>by
    subst e
    have:=hall 0 (by omega)
    rw [Nat.add_zero,h3] at this
    cases this
   exact free_go hs f (k + 1) _ (look_leap hn) (fun q hq'=>by
    by_cases hqn : q < n
    ·exact hq q hqn
    ·obtain ⟨d,hd⟩ : ∃ d,q = n + d:=⟨q - n,by omega⟩
     subst hd
     rw [lk d (by omega)]
     exact hall d (by omega)) ⟨r,by omega,by omega,h3⟩
theorem free_ok {m : Nat} (w : Whole m) {h : Int} {ow : Array (Option Nat)} (hs : ow.size = m + 1) (hf : ∃ j,j < m + 1∧at_ ow j = none) :
 ∃ N j,layClean.free m ow (turns m) (bits h % (m + 1)) (bits h) = some j∧(look m h N).j = j∧j < m + 1∧at_ ow j = none∧∀ q,q < N→(at_ ow (look m h q).j).isSome = true:=by
 obtain ⟨j,hj,hn⟩:=hf
 obtain ⟨r,hr,e⟩:=look_all w h hj
 exact free_go (h:=h) hs (turns m) 0 0 rfl (fun q hq=>by omega) ⟨r,Nat.zero_le _,by unfold turns; omega,by rw [e]; exact hn⟩
theorem own_free {m : Nat} {hs : List Int} {ow : Array (Option Nat)} {k : Nat} (O : Own m hs ow k) (hk : k < m + 1) : ∃ j,j < m + 1∧at_ ow j = none:=by
 apply Classical.byContradiction
 intro z
 have all : ∀ j,j < m + 1→∃ i,at_ ow j = some i:=fun j hj=>by
  cases q : at_ ow j with
  | none=>exact absurd ⟨j,hj,q⟩ z
  | some i=>exact ⟨i,rfl⟩
 have nd : ((List.range (m + 1)).map fun j=>(at_ ow j).getD 0).Nodup:=by
  unfold List.Nodup
  rw [List.pairwise_map]
  refine List.Pairwise.imp_of_mem ?_ List.nodup_range
  intro a b ha hb hab e
  apply hab
  obtain ⟨i,hi⟩:=all a (List.mem_range.mp ha)
  obtain ⟨l,hl⟩:=all b (List.mem_range.mp hb)
  rw [hi,hl] at e
  have e' : i = l:=e
  subst e'
  exact O.one a b i hi hl
 have sub : ∀ x,x∈((List.range (m + 1)).map fun j=>(at_ ow j).getD 0)→x∈List.range k:=fun x hx=>by
  obtain ⟨j,hj,e⟩:=List.mem_map.mp hx
  obtain ⟨i,hi⟩:=all j (List.mem_range.mp hj)
  rw [hi] at e
  have e' : i = x:=e
  rw [← e']
  exact List.mem_range.mpr (O.of j i hi).1
 have:=nd.length_le_of_subset sub
 simp at this
 omega
theorem own_put {m : Nat} {hs : List Int} {ow : Array (Option Nat)} {k j N : Nat} {h : Int} (O : Own m hs ow k) (hk : hs[k]? = some h) (hN : (look m h N).j = j) (hj : j < m + 1) (hn : at_ ow j = none) (hq : ∀ q,q < N→(at_ ow (look m h q).j).isSome = true) :
 Own m hs (ow.setIfInBounds j (some k)) (k + 1):=by
 have hjs : j < ow.size:=by rw [O.size]; exact hj
 have up : ∀ l,(at_ ow l).isSome = true→(at_ (ow.setIfInBounds j (some k)) l).isSome = true:=fun l hl=>by
  rw [at_set hjs]
  split
  ·rfl
  ·exact hl
 refine ⟨by rw [Array.size_setIfInBounds]; exact O.size,fun l i hl=>?_,fun i hi=>?_,fun a b i ha hb=>?_⟩
 ·rw [at_set hjs] at hl
  by_cases e : l = j
  ·rw [if_pos e] at hl
   cases hl
   exact ⟨by omega,h,hk,N,by rw [hN,e],fun q hq'=>up _ (hq q hq')⟩
  ·rw [if_neg e] at hl
   obtain ⟨h1,g,h2,n,h3,h4⟩:=O.of l i hl
   exact ⟨by omega,g,h2,n,h3,fun q hq'=>up _ (h4 q hq')⟩
 ·by_cases e : i = k
  ·exact ⟨j,by rw [at_set hjs,if_pos rfl,e]⟩
  ·obtain ⟨l,hl⟩:=O.has i (by omega)
   refine ⟨l,?_⟩
   rw [at_set hjs,if_neg]
   ·exact hl
   ·intro z; rw [z,hn] at hl; cases hl
 ·rw [at_set hjs] at ha hb
  by_cases e1 : a = j
  ·by_cases e2 : b = j
   ·rw [e1,e2]
   ·rw [if_pos e1] at ha
    rw [if_neg e2] at hb
    cases ha
    have:=(O.of b _ hb).1
    omega
  ·rw [if_neg e1] at ha
   by_cases e2 : b = j
   ·rw [if_pos e2] at hb
    cases hb
    have:=(O.of a _ ha).1
    omega
   ·rw [if_neg e2] at hb
    exact O.one a b i ha hb
theorem lay_go {m : Nat} (w : Whole m) (hs : List Int) : ∀ (l : List Int) (ow : Array (Option Nat)) (k : Nat),Own m hs ow k→(∀ i,i < l.length→hs[k + i]? = l[i]?)→k + l.length≤m →
 ∃ ow',(l.foldl (fun (acc : Option (Array (Option Nat) × Nat)) (h : Int)=>do
  let (owner,k) ← acc
  let j ← layClean.free m owner (turns m) (bits h % (m + 1)) (bits h)
  pure (owner.setIfInBounds j (some k),k + 1)) (some (ow,k))) = some (ow',k + l.length)∧Own m hs ow' (k + l.length)
 | [],ow,k,O,_,_=>⟨ow,rfl,O⟩
 | h :: l,ow,k,O,hl,hm=>by
  have hk : hs[k]? = some h:=by
   have:=hl 0 (by simp)
   simpa using this
  obtain ⟨N,j,e,h1,h2,h3,h4⟩:=free_ok (h:=h) w O.size (own_free O (by simp at hm; omega))
  have O':=own_put O hk h1 h2 h3 h4
  rw [List.foldl_cons]
  have es : (do
   let (owner,k) ← some (ow,k)
   let j ← layClean.free m owner (turns m) (bits h % (m + 1)) (bits h)
   pure (owner.setIfInBounds j (some k),k + 1) : Option (Array (Option Nat) × Nat)) = some (ow.setIfInBounds j (some k),k + 1):=by
   show (layClean.free m ow (turns m) (bits h % (m + 1)) (bits h)).bind _ = _
   rw [e]; rfl
  rw [es]
  obtain ⟨ow',q1,q2⟩:=lay_go w hs l _ (k + 1) O' (fun i hi=>by
   have:=hl (i + 1) (by simp; omega)
   rw [List.getElem?_cons_succ] at this
   rw [← this]; congr 1; omega) (by simp at hm; omega)
  refine ⟨ow',?_,?_⟩
  ·rw [q1]; simp; omega
  ·have : k + (h :: l).length = k + 1 + l.length:=by simp; omega
   rw [this]; exact q2
theorem own_start (m : Nat) (hs : List Int) : Own m hs (Array.replicate (m + 1) none) 0:=by
 have no : ∀ j,at_ (Array.replicate (m + 1) (none : Option Nat)) j = none:=fun j=>by
  unfold at_
  rw [Array.getD_eq_getD_getElem?,Array.getElem?_replicate]
  split <;> rfl
 refine ⟨by simp,fun j i h=>?_,fun i h=>by omega,fun j l i h _=>?_⟩
 ·rw [no] at h; cases h
 ·rw [no] at h; cases h
theorem layClean_ok {m : Nat} (w : Whole m) (hs : Array Int) (hm : hs.size≤m) : ∃ ow,layClean m hs = some ow∧Own m hs.toList ow hs.size:=by
 unfold layClean
 rw [← Array.foldl_toList]
 obtain ⟨ow',q1,q2⟩:=lay_go w hs.toList hs.toList (Array.replicate (m + 1) none) 0 (own_start m _) (fun i _=>by rw [Nat.zero_add]) (by rw [Array.length_toList]; omega)
 refine ⟨ow',?_,?_⟩
 ·rw [q1]; rfl
 ·rw [Nat.zero_add,Array.length_toList] at q2; exact q2
def liveL (m : Nat) (ow : Array (Option Nat)) : List (Nat × Nat):=(List.range (m + 1)).filterMap fun j=>(ow.getD j none).map (j,·)
theorem mem_live {m : Nat} {ow : Array (Option Nat)} {j i : Nat} : (j,i)∈liveL m ow↔j < m + 1∧at_ ow j = some i:=by
 unfold liveL
 rw [List.mem_filterMap]
 constructor
 ·rintro ⟨a,ha,e⟩
  obtain ⟨b,hb,e'⟩:=Option.map_eq_some_iff.mp e
  cases e'
  exact ⟨List.mem_range.mp ha,hb⟩
 ·rintro ⟨h1,h2⟩
  exact ⟨j,List.mem_range.mpr h1,by unfold at_ at h2; rw [h2]; rfl⟩
theorem live_rise (m : Nat) (ow : Array (Option Nat)) : Rise ((liveL m ow).map (·.1)):=by
 have e : (liveL m ow).map (·.1) = (List.range (m + 1)).filter fun j=>(ow.getD j none).isSome:=by
  unfold liveL
  induction List.range (m + 1) with
  | nil=>rfl
  | cons a l ih =>
   rw [List.filterMap_cons,List.filter_cons]
   cases q : ow.getD a none with
   | none=>simpa using ih
   | some b=>simpa using ih
 rw [e]
 exact List.pairwise_lt_range.filter _
theorem laid_ok {m f mv : Nat} {led plain : Bool} (w : Whole m) (hs : Array Int) (hm : hs.size≤m) : ∃ t order,laid m f mv led plain hs = some (t,order)∧Tab t hs.size∧t.mask = m∧t.led = led ∧
 order.toList.Perm (List.range hs.size)∧Way m t.place.toList (order.toList.map fun i=>hs.getD i 0)∧t.place.size = order.size:=by
 obtain ⟨ow,e,O⟩:=layClean_ok w hs hm
 have nd : (liveL m ow).map (·.2) |>.Nodup:=by
  unfold List.Nodup
  rw [List.pairwise_map]
  have nd1 : (liveL m ow).Pairwise (fun a b=>a.1≠b.1):=by
   have:=live_rise m ow
   unfold Rise at this
   rw [List.pairwise_map] at this
   exact this.imp fun q=>Nat.ne_of_lt q
  refine List.Pairwise.imp_of_mem ?_ nd1
  intro a b ha hb hab e
  obtain ⟨a1,a2⟩:=a
  obtain ⟨b1,b2⟩:=b
  have e' : a2 = b2:=e
  subst e'
  exact hab (O.one a1 b1 a2 (mem_live.mp ha).2 (mem_live.mp hb).2)
 have memo : ∀ i,i∈(liveL m ow).map (·.2)↔i∈List.range hs.size:=fun i=>by
  rw [List.mem_map,List.mem_range]
  constructor
  ·rintro ⟨⟨j,k⟩,h,e⟩
   have e' : k = i:=e
   subst e'
   exact (O.of j k (mem_live.mp h).2).1
  ·intro hi
   obtain ⟨j,hj⟩:=O.has i hi
   exact ⟨(j,i),mem_live.mpr ⟨by have:=at_lt hj; rw [O.size] at this; exact this,hj⟩,rfl⟩
 have perm : ((liveL m ow).map (·.2)).Perm (List.range hs.size):=(List.perm_ext_iff_of_nodup nd List.nodup_range).mpr memo
 have len : (liveL m ow).length = hs.size:=by
  have:=perm.length_eq
  rw [List.length_map,List.length_range] at this
  exact this
 refine ⟨{ mask:=m,place:=((liveL m ow).map (·.1)).toArray,dummies:=#[],finger:=f,led:=led,moves:=mv,plain:=plain },((liveL m ow).map (·.2)).toArray,?_,⟨rfl,?_,?_,?_,w,hm⟩,rfl,rfl,perm,?_,by simp⟩
 ·unfold laid
  rw [e]; rfl
 ·exact live_rise m ow
 ·show ((liveL m ow).map (·.1)).toArray.size = _
  simp [len]
 ·intro j hj
  have hj' : j∈(liveL m ow).map (·.1):=hj
  obtain ⟨⟨a,b⟩,h,e⟩:=List.mem_map.mp hj'
  have e' : a = j:=e
  have:=(mem_live.mp h).1
  show j≤m
  omega
 ·intro i j h h1 h2
  have h1' : ((liveL m ow).map (·.1))[i]? = some j:=h1
  have h2' : (((liveL m ow).map (·.2)).map fun i=>hs.getD i 0)[i]? = some h:=h2
  rw [List.getElem?_map] at h1'
  rw [List.getElem?_map,List.getElem?_map] at h2'
  cases q : (liveL m ow)[i]? with
  | none=>rw [q] at h1'; cases h1'
  | some p =>
   rw [q] at h1' h2'
   obtain ⟨a,b⟩:=p
   have e1 : a = j:=Option.some.inj h1'
   have e2 : hs.getD b 0 = h:=Option.some.inj h2'
   subst e1
   have hm':=(mem_live.mp (List.mem_of_getElem? q)).2
   obtain ⟨hb,g,hg,n,e3,hq⟩:=O.of a b hm'
   have eg : g = h:=by
    rw [← e2]
    rw [Array.getElem?_toList] at hg
    rw [Array.getD_eq_getD_getElem?,hg]; rfl
   subst eg
   refine ⟨n,e3,fun r hr=>?_⟩
   have:=hq r hr
   obtain ⟨c,hc⟩:=Option.isSome_iff_exists.mp this
   exact List.mem_map.mpr ⟨(_,c),mem_live.mpr ⟨by have:=at_lt hc; rw [O.size] at this; exact this,hc⟩,rfl⟩
theorem reorder {α : Type} {es : Array α} {order : Array Nat} (hp : order.toList.Perm (List.range es.size)) : (order.filterMap (es[·]?)).toList.Perm es.toList∧(∀ i : Nat,(order.filterMap (es[·]?))[i]? = (order[i]?).bind (es[·]?)):=by
 have hall : ∀ k∈order.toList,k < es.size:=fun k hk=>List.mem_range.mp (hp.mem_iff.mp hk)
 constructor
 ·rw [Array.toList_filterMap]
  refine (hp.filterMap _).trans ?_
  have : (List.range es.size).filterMap (es[·]?) = es.toList:=by
   rw [← Array.length_toList]
   have key : ∀ (l : List α),(List.range l.length).filterMap (l[·]?) = l:=by
    intro l
    induction l with
    | nil=>rfl
    | cons a l ih =>
     rw [List.length_cons,List.range_succ_eq_map,List.filterMap_cons]
     simp only [List.getElem?_cons_zero,List.filterMap_map]
     refine congrArg (a :: ·) ?_
     have : (fun x=>(a :: l)[x]?) ∘ Nat.succ = fun x=>l[x]?:=by funext x; rfl
     rw [this]; exact ih
   have e2 : (fun i : Nat=>es[i]?) = fun i=>es.toList[i]?:=by funext i; rw [Array.getElem?_toList]
   rw [e2]; exact key es.toList
  rw [this]
 ·intro i
  rw [← Array.getElem?_toList,Array.toList_filterMap,← Array.getElem?_toList]
  have key : ∀ (l : List Nat),(∀ k∈l,k < es.size)→∀ i : Nat,(l.filterMap (es[·]?))[i]? = (l[i]?).bind (es[·]?):=by
   intro l
   induction l with
   | nil=>intro _ i; rfl
   | cons a l ih =>
    intro h i
    have ha:=h a List.mem_cons_self
    rw [List.filterMap_cons,Array.getElem?_eq_getElem ha]
    simp only
    cases i with
    | zero=>simp [ha]
    | succ i=>simpa using ih (fun k hk=>h k (List.mem_cons_of_mem _ hk)) i
  exact key order.toList hall i
end ST
end
section
namespace NK
open PySem
open Sem (wp)
def Keep (h h' : Heap) : Prop:=∀ b o items n,h.get? b = some o→o.cls = .type "tuple"→o.data = .seq items n→h'.get? b = some o
theorem Keep.refl (h : Heap) : Keep h h:=fun _ _ _ _ e _ _=>e
theorem Keep.trans {h h' h'' : Heap} (k : Keep h h') (l : Keep h' h'') : Keep h h'':=fun b o i n e c d=>l b o i n (k b o i n e c d) c d
theorem Keep.but {h h' : Heap} {d : Addr} {o : Obj} (ho : h.get? d = some o) (hc : o.cls≠.type "tuple") (hs : Heap.SameBut d h h') : Keep h h':=fun b u _ _ e c _=>by
 have hne : b≠d:=by
  rintro rfl
  rw [ho] at e; cases e; exact hc c
 exact (hs.2 b hne).trans e
theorem Keep.dict {h h' : Heap} {d : Addr} {o : Obj} {es ep} (ho : h.get? d = some o) (hd : o.data = .dict es ep) (hs : Heap.SameBut d h h') : Keep h h':=fun b u _ _ e _ q=>by
 have hne : b≠d:=by
  rintro rfl
  rw [ho] at e; cases e; rw [hd] at q; cases q
 exact (hs.2 b hne).trans e
theorem Keep.all {h h' : Heap} (k : ∀ b o,h.get? b = some o→h'.get? b = some o) : Keep h h':=fun b o _ _ e _ _=>k b o e
structure VKind (prog : Program) (w : World) (K : Type) [DecidableEq K] where
 is : Heap→K→Value→Prop
 hash : K→Int
 draws : K→Nat
 inj : ∀ {h : Heap} {v : Value} {x y : K},is h x v→is h y v→x = y
 keeps : ∀ {h h' : Heap} {k : K} {v : Value},is h k v→Keep h h'→is h' k v
 pyHash : ∀ {A : Around} {E : Value→Shared→Prop} {s : Shared} {k : K} {v : Value} {Q : Int→Shared→Prop},A.units < cLine→is s.heap k v→Q (hash k) { s with toks:=s.toks + draws k } →
  wpAny (model prog w) A (PySem.pyHash v) Q E s
 eqBool : ∀ {A : Around} {E : Value→Shared→Prop} {s : Shared} {x y : K} {u v : Value} {Q : Bool→Shared→Prop},A.units < cLine→is s.heap x u→is s.heap y v→Q (decide (x = y)) s →
  wpAny (model prog w) A (PySem.eqBool u v) Q E s
 quiet : ∀ {A : Around} {E : Value→Shared→Prop} {s : Shared} {k : K} {v : Value} {Q : Bool→Shared→Prop},is s.heap k v→Q true s→wpAny (model prog w) A (eqIsQuiet 7 v) Q E s
 known : ∀ {A : Around} {E : Value→Shared→Prop} {s : Shared} {k : K} {v : Value} {Q : Bool→Shared→Prop},is s.heap k v→(∀ b,Q b s)→wpAny (model prog w) A (hashByValue 7 v) Q E s
 noCls : ∀ {A : Around} {E : Value→Shared→Prop} {s : Shared} {k : K} {v : Value} {Q : Bool→Shared→Prop},is s.heap k v→Q false s→wpAny (model prog w) A (ofAClassStatement 7 v) Q E s
section
variable {prog : Program} {w : World} {A : Around} {E : Value→Shared→Prop} {s : Shared}
theorem int_is {i : Int} {v : Value} (h : (intKind prog w).is i v = true) : ∃ t,v = .int i t:=Value.isInt_shape h
theorem is_int (i : Int) (t : Tok) : (intKind prog w).is i (.int i t) = true:=by
 show Value.isInt i (.int i t) = true
 simp [Value.isInt]
theorem tuple_keep {h h' : Heap} {l : List Int} {a : Addr} (x : IsTupleKey (intKind prog w) h l a) (k : Keep h h') : IsTupleKey (intKind prog w) h' l a:=by
 obtain ⟨o,items,n,ho,hc,hd,hi⟩:=x
 exact ⟨o,items,n,k _ _ _ _ ho hc hd,hc,hd,hi⟩
theorem quiet_tuple {f : Nat} {l : List Int} {a : Addr} {Q : Bool→Shared→Prop} (hk : IsTupleKey (intKind prog w) s.heap l a) (h : Q true s) : wpAny (model prog w) A (eqIsQuiet (f + 1) (.ref a)) Q E s:=by
 have hT:=hk.typeIs
 obtain ⟨o,items,n,ho,_,hd,hi⟩:=hk
 unfold eqIsQuiet
 refine wpAny_bind (wpAny_specialOf hT F.slot_tuple_eq.lookup ?_)
 show wpAny _ _ (isInstance (.ref a) (.type "tuple") >>= _) _ _ s
 refine wpAny_bind (wpAny_isInstance hT isSubtype_tuple_tuple ?_)
 simp only [Bool.not_true,Bool.false_eq_true,if_false]
 refine wpAny_bind (wpAny_seqItems ho hd ?_)
 refine wpAny_bind ?_
 show wpAny _ _ (forIn items _ _) _ _ s
 rw [← Array.forIn_toList]
 refine wpAny_forIn_list _ (fun rest r s'=>r.1 = none∧s' = s∧∀ v∈rest,carriedByValue v = true) _ ?_ ?_ _ _ ⟨rfl,rfl,hi.byValue⟩
 ·rintro v rest r s' ⟨hr,rfl,hall⟩
  rw [eqIsQuiet_byValue _ (hall v List.mem_cons_self)]
  refine wpAny_bind (wpAny_pure ?_)
  simp only [Bool.not_true,Bool.false_eq_true,if_false]
  exact wpAny_pure ⟨rfl,rfl,fun u hu'=>hall u (List.mem_cons_of_mem _ hu')⟩
 ·rintro ⟨r1,r2⟩ s' ⟨hr,rfl,_⟩
  simp only at hr
  subst hr
  exact wpAny_pure h
theorem items_ints {ks : List Int} {vs : List Value} (h : ItemsAre (intKind prog w) ks vs) : ∀ v∈vs,∃ i t,v = .int i t:=by
 induction h with
 | nil=>intro v hv; cases hv
 | cons h1 _ ih =>
  intro v hv
  rcases List.mem_cons.mp hv with e | hv
  ·obtain ⟨t,e'⟩:=int_is h1
   exact ⟨_,t,e.trans e'⟩
  ·exact ih v hv
theorem seqItems?_of {a : Addr} {o : Obj} {items n} {Q : Option (Array Value)→Shared→Prop} (ho : s.heap.get? a = some o) (hd : o.data = .seq items n) (h : Q (some items) s) : wpAny (model prog w) A (seqItems? (.ref a)) Q E s:=by
 unfold seqItems?
 refine wpAny_bind (wpAny_load ho ?_)
 rw [hd]
 exact wpAny_pure h
end
end NK
end
section
namespace NK
open PySem
open Sem (wp)
section
variable {prog : Program} {w : World} {A : Around} {E : Value→Shared→Prop} {s : Shared}
theorem for_all {f : Value→Sem Bool} {vs : Array Value} {Q : Bool→Shared→Prop} (hf : ∀ v∈vs.toList,∀ (Q' : Bool→Shared→Prop),Q' true s→wpAny (model prog w) A (f v) Q' E s) (h : Q true s) :
 wpAny (model prog w) A (do
  for x in vs do
   if !(← f x) then return false
  return true) Q E s:=by
 refine wpAny_bind ?_
 show wpAny _ _ (forIn vs _ _) _ _ s
 rw [← Array.forIn_toList]
 refine wpAny_forIn_list _ (fun rest r s'=>r.1 = none∧s' = s∧∀ v∈rest,v∈vs.toList) _ ?_ ?_ _ _ ⟨rfl,rfl,fun _ hv=>hv⟩
 ·rintro v rest r s' ⟨hr,rfl,hall⟩
  refine wpAny_bind (hf v (hall v List.mem_cons_self) _ ?_)
  simp only [Bool.not_true,Bool.false_eq_true,if_false]
  exact wpAny_pure ⟨rfl,rfl,fun u hu'=>hall u (List.mem_cons_of_mem _ hu')⟩
 ·rintro ⟨r1,r2⟩ s' ⟨hr,rfl,_⟩
  simp only at hr
  subst hr
  exact wpAny_pure h
theorem for_none {f : Value→Sem Bool} {vs : Array Value} {Q : Bool→Shared→Prop} (hf : ∀ v∈vs.toList,∀ (Q' : Bool→Shared→Prop),Q' false s→wpAny (model prog w) A (f v) Q' E s) (h : Q false s) :
 wpAny (model prog w) A (do
  for x in vs do
   if ← f x then return true
  return false) Q E s:=by
 refine wpAny_bind ?_
 show wpAny _ _ (forIn vs _ _) _ _ s
 rw [← Array.forIn_toList]
 refine wpAny_forIn_list _ (fun rest r s'=>r.1 = none∧s' = s∧∀ v∈rest,v∈vs.toList) _ ?_ ?_ _ _ ⟨rfl,rfl,fun _ hv=>hv⟩
 ·rintro v rest r s' ⟨hr,rfl,hall⟩
  refine wpAny_bind (hf v (hall v List.mem_cons_self) _ ?_)
  simp only [Bool.false_eq_true,if_false]
  exact wpAny_pure ⟨rfl,rfl,fun u hu'=>hall u (List.mem_cons_of_mem _ hu')⟩
 ·rintro ⟨r1,r2⟩ s' ⟨hr,rfl,_⟩
  simp only at hr
  subst hr
  exact wpAny_pure h
theorem known_seq {f : Nat} {a : Addr} {o : Obj} {items : Array Value} {n : Nat} {Q : Bool→Shared→Prop} (ho : s.heap.get? a = some o) (hc : o.cls = .type "tuple") (hd : o.data = .seq items n)
 (hf : ∀ v∈items.toList,∀ (Q' : Bool→Shared→Prop),(∀ b,Q' b s)→wpAny (model prog w) A (hashByValue f v) Q' E s) (h : ∀ b,Q b s) : wpAny (model prog w) A (hashByValue (f + 1) (.ref a)) Q E s:=by
 have hT : s.TypeIs (.ref a) "tuple":=⟨o,ho,hc⟩
 unfold hashByValue
 refine wpAny_bind (wpAny_specialOf hT F.slot_tuple_hash.lookup ?_)
 show wpAny _ _ (seqItems? (.ref a) >>= _) _ _ s
 refine wpAny_bind (seqItems?_of ho hd ?_)
 show wpAny _ _ (forIn items _ _ >>= _) _ _ s
 refine wpAny_bind ?_
 rw [← Array.forIn_toList]
 refine wpAny_forIn_list _ (fun rest r s'=>(r.1 = none∨r.1 = some false)∧s' = s∧∀ v∈rest,v∈items.toList) _ ?_ ?_ _ _ ⟨.inl rfl,rfl,fun _ hv=>hv⟩
 ·rintro v rest r s' ⟨hr,rfl,hall⟩
  refine wpAny_bind (hf v (hall v List.mem_cons_self) _ fun b=>?_)
  cases b with
  | true =>
   simp only [Bool.not_true,Bool.false_eq_true,if_false]
   exact wpAny_pure ⟨.inl rfl,rfl,fun u hu'=>hall u (List.mem_cons_of_mem _ hu')⟩
  | false =>
   simp only [Bool.not_false,if_true]
   exact wpAny_pure (wpAny_pure (h false))
 ·rintro ⟨r1,r2⟩ s' ⟨hr,rfl,_⟩
  simp only at hr
  rcases hr with hr | hr
  ·subst hr; exact wpAny_pure (h true)
  ·subst hr; exact wpAny_pure (h false)
theorem noCls_seq {f : Nat} {a : Addr} {o : Obj} {items : Array Value} {n : Nat} {Q : Bool→Shared→Prop} (ho : s.heap.get? a = some o) (hc : o.cls = .type "tuple") (hd : o.data = .seq items n)
 (hf : ∀ v∈items.toList,∀ (Q' : Bool→Shared→Prop),Q' false s→wpAny (model prog w) A (ofAClassStatement f v) Q' E s) (h : Q false s) : wpAny (model prog w) A (ofAClassStatement (f + 1) (.ref a)) Q E s:=by
 have hT : s.TypeIs (.ref a) "tuple":=⟨o,ho,hc⟩
 unfold ofAClassStatement
 refine wpAny_bind (wpAny_typeOf hT ?_)
 simp only [beq_self_eq_true,if_true]
 refine wpAny_bind (wpAny_pure ?_)
 simp only [Bool.not_true,Bool.false_eq_true,if_false]
 refine wpAny_bind (seqItems?_of ho hd ?_)
 exact for_none hf h
def intV (prog : Program) (w : World) : VKind prog w Int where
 is:=fun _ i v=>(intKind prog w).is i v = true
 hash:=(intKind prog w).hash
 draws:=fun _=>1
 inj:=fun hx hy=>(intKind prog w).inj _ _ _ hx hy
 keeps:=fun h _=>h
 pyHash:=fun _ hk h=>(intKind prog w).pyHash hk h
 eqBool:=fun _ hx hy h=>(intKind prog w).eqBool hx hy h
 quiet:=fun hk h=>by
  rw [eqIsQuiet_byValue _ ((intKind prog w).byValue _ _ hk)]
  exact wpAny_pure h
 known:=fun hk h=>by
  obtain ⟨t,rfl⟩:=int_is hk
  exact wpAny_pure (h true)
 noCls:=fun hk h=>by
  obtain ⟨t,rfl⟩:=int_is hk
  exact wpAny_pure h
def nameV (prog : Program) (w : World) : VKind prog w (List Int) where
 is:=fun h l v=>∃ a,v = .ref a∧IsTupleKey (intKind prog w) h l a
 hash:=tupleKeyHash (intKind prog w)
 draws:=fun l=>l.length + 1
 inj:=fun hx hy=>by
  obtain ⟨a,rfl,h1⟩:=hx
  obtain ⟨b,e,h2⟩:=hy
  cases e
  exact h1.inj h2
 keeps:=fun h k=>by
  obtain ⟨a,e,h1⟩:=h
  exact ⟨a,e,tuple_keep h1 k⟩
 pyHash:=fun hu hk h=>by
  obtain ⟨a,rfl,h1⟩:=hk
  exact wpAny_pyHash_tuple hu h1 h
 eqBool:=fun hu hx hy h=>by
  obtain ⟨a,rfl,h1⟩:=hx
  obtain ⟨b,rfl,h2⟩:=hy
  exact wpAny_eqBool_tuple hu h1 h2 h
 quiet:=fun hk h=>by
  obtain ⟨a,rfl,h1⟩:=hk
  exact quiet_tuple h1 h
 known:=fun hk h=>by
  obtain ⟨a,rfl,o,items,n,ho,hc,hd,hi⟩:=hk
  refine known_seq ho hc hd (fun v hv Q' hq=>?_) h
  obtain ⟨i,t,rfl⟩:=items_ints hi v hv
  exact wpAny_pure (hq true)
 noCls:=fun hk h=>by
  obtain ⟨a,rfl,o,items,n,ho,hc,hd,hi⟩:=hk
  refine noCls_seq ho hc hd (fun v hv Q' hq=>?_) h
  obtain ⟨i,t,rfl⟩:=items_ints hi v hv
  exact wpAny_pure hq
end
section
variable {prog : Program} {w : World} {K L : Type} [DecidableEq K] [DecidableEq L] (kx : VKind prog w K) (ky : VKind prog w L)
def IsPair (h : Heap) (k : K × L) (a : Addr) : Prop:=∃ o u v n,h.get? a = some o∧o.cls = .type "tuple"∧o.data = .seq #[u,v] n∧kx.is h k.1 u∧ky.is h k.2 v
variable {kx ky}
theorem IsPair.typeIs {s : Shared} {k : K × L} {a : Addr} (x : IsPair kx ky s.heap k a) : s.TypeIs (.ref a) "tuple":=let ⟨o,_,_,_,ho,hc,_⟩:=x; ⟨o,ho,hc⟩
theorem IsPair.inj {h : Heap} {a : Addr} {x y : K × L} (hx : IsPair kx ky h x a) (hy : IsPair kx ky h y a) : x = y:=by
 obtain ⟨o,u,v,n,ho,_,hd,h1,h2⟩:=hx
 obtain ⟨o',u',v',n',ho',_,hd',h1',h2'⟩:=hy
 rw [ho] at ho'; cases ho'
 rw [hd] at hd'
 injection hd' with e _
 have e1 : u = u':=by have:=congrArg (fun z : Array Value=>z[0]?) e; simpa using this
 have e2 : v = v':=by have:=congrArg (fun z : Array Value=>z[1]?) e; simpa using this
 subst e1 e2
 exact Prod.ext (kx.inj h1 h1') (ky.inj h2 h2')
theorem IsPair.keeps {h h' : Heap} {k : K × L} {a : Addr} (x : IsPair kx ky h k a) (kp : Keep h h') : IsPair kx ky h' k a:=by
 obtain ⟨o,u,v,n,ho,hc,hd,h1,h2⟩:=x
 exact ⟨o,u,v,n,kp _ _ _ _ ho hc hd,hc,hd,kx.keeps h1 kp,ky.keeps h2 kp⟩
def pairHash (k : K × L) : Int:=reduceHash (Builtin.Tuple.tupleHashOf [kx.hash k.1,ky.hash k.2])
variable {A : Around} {E : Value→Shared→Prop} {s : Shared}
theorem pyHash_pair {k : K × L} {a : Addr} {Q : Int→Shared→Prop} (hu : A.units + 1 < cLine) (hk : IsPair kx ky s.heap k a) (h : Q (pairHash (kx:=kx) (ky:=ky) k) { s with toks:=s.toks + (kx.draws k.1 + ky.draws k.2 + 1) }) :
 wpAny (model prog w) A (pyHash (.ref a)) Q E s:=by
 have hT:=hk.typeIs
 obtain ⟨o,u,v,n,ho,_,hd,h1,h2⟩:=hk
 unfold pyHash
 first | unfold pyHashByItsType | skip
 first | refine wpAny_bind (wpAny_cRoomFor_or (.inr (by omega)) ?_) | skip
 refine wpAny_bind (wpAny_specialOf hT F.slot_tuple_hash.lookup ?_)
 show wpAny _ _ (if (some (Value.builtin "tuple.__hash__") == some Value.none) = true then _ else _) Q E s
 rw [if_neg (by rw [beq_builtin_none]; exact Bool.false_ne_true)]
 refine wpAny_bind (wpAny_specialOf hT F.slot_tuple_hash.lookup ?_)
 show wpAny _ _ (callSpecialIfBoundUnlessNone? (.ref a) "__hash__" _ >>= _) Q E s
 refine wpAny_bind (wpAny_callSpecialIfBoundUnlessNone?_slot hT F.slot_tuple_hash (wpAny_call_entry F.slot_tuple_hash hT F.entry_tuple_hash ?_ (F.args_tuple_hash_1 _)))
 show wpAny _ _ (Builtin.Tuple.tupleItemsOf (.ref a) >>= _) _ _ s
 refine wpAny_bind (wpAny_tupleItemsOf ho hd ?_)
 refine wpAny_bind ?_
 rw [← Array.forIn_toList]
 show wpAny _ _ (forIn [u,v] _ _) _ _ s
 rw [List.forIn_cons]
 refine wpAny_bind (wpAny_bind (kx.pyHash (A:=A.in1) hu h1 ?_))
 have h2' : ky.is (({ s with toks:=s.toks + kx.draws k.1 } : Shared)).heap k.2 v:=h2
 refine wpAny_pure ?_
 show wpAny _ _ (forIn [v] _ _) _ _ _
 rw [List.forIn_cons]
 refine wpAny_bind (wpAny_bind (ky.pyHash (A:=A.in1) hu h2' ?_))
 refine wpAny_pure ?_
 show wpAny _ _ (forIn ([] : List Value) _ _) _ _ _
 rw [List.forIn_nil]
 refine wpAny_pure ?_
 show wpAny _ _ (retInt (Builtin.Tuple.tupleHashOf [kx.hash k.1,ky.hash k.2])) _ _ _
 refine wpAny_ret_mkInt ?_
 show wpAny _ _ (if (decide (-(2 : Int) ^ 63≤Builtin.Tuple.tupleHashOf [kx.hash k.1,ky.hash k.2]) && decide (Builtin.Tuple.tupleHashOf [kx.hash k.1,ky.hash k.2] < 2 ^ 63)) = true then _ else _) Q E _
 unfold pairHash reduceHash at h
 by_cases hr : (decide (-(2 : Int) ^ 63≤Builtin.Tuple.tupleHashOf [kx.hash k.1,ky.hash k.2]) && decide (Builtin.Tuple.tupleHashOf [kx.hash k.1,ky.hash k.2] < 2 ^ 63)) = true
 ·rw [if_pos hr]
  rw [if_pos hr] at h
  exact wpAny_pure (by simpa [Nat.add_assoc] using h)
 ·rw [if_neg hr]
  rw [if_neg hr] at h
  exact wpAny_bind (wpAny_rule (wpAny_pure (by simpa [Nat.add_assoc] using h)))
theorem pair_eq_tree {x y : K × L} {a b : Addr} {P : Fin→Shared→Prop} (hu : A.units < cLine) (hx : IsPair kx ky s.heap x a) (hy : IsPair kx ky s.heap y b) (h : P (.done (.ret (.bool (decide (x = y))))) s) :
 wpAny (model prog w) A (Builtin.«tuple.__eq__» ⟨[.ref a,.ref b],[]⟩) P E s:=by
 have hTb:=hy.typeIs
 obtain ⟨oa,u,v,na,hoa,_,hda,h1,h2⟩:=hx
 obtain ⟨ob,u',v',nb,hob,_,hdb,h1',h2'⟩:=hy
 show wpAny _ _ (isInstance (.ref b) (.type "tuple") >>= _) _ _ s
 refine wpAny_bind (wpAny_isInstance hTb isSubtype_tuple_tuple ?_)
 simp only [Bool.not_true,Bool.false_eq_true,if_false]
 refine wpAny_bind (wpAny_tupleItemsOf hoa hda ?_)
 refine wpAny_bind (wpAny_tupleItemsOf hob hdb ?_)
 refine wpAny_bind ?_
 show wpAny _ _ (forIn [(u,u'),(v,v')] _ _) _ _ s
 rw [List.forIn_cons]
 refine wpAny_bind (wpAny_bind (kx.eqBool (x:=x.1) (y:=y.1) hu h1 h1' ?_))
 by_cases e1 : x.1 = y.1
 ·rw [decide_eq_true e1]
  simp only [Bool.not_true,Bool.false_eq_true,if_false]
  refine wpAny_pure ?_
  show wpAny _ _ (forIn [(v,v')] _ _) _ _ s
  rw [List.forIn_cons]
  refine wpAny_bind (wpAny_bind (ky.eqBool (x:=x.2) (y:=y.2) hu h2 h2' ?_))
  by_cases e2 : x.2 = y.2
  ·rw [decide_eq_true e2]
   simp only [Bool.not_true,Bool.false_eq_true,if_false]
   refine wpAny_pure ?_
   show wpAny _ _ (forIn ([] : List (Value × Value)) _ _) _ _ s
   rw [List.forIn_nil]
   refine wpAny_pure (wpAny_pure ?_)
   rw [decide_eq_true (Prod.ext e1 e2)] at h
   exact h
  ·rw [decide_eq_false e2]
   simp only [Bool.not_false,if_true]
   have hf : decide (x = y) = false:=decide_eq_false fun e=>e2 (by rw [e])
   rw [hf] at h
   exact wpAny_bind (wpAny_pure (wpAny_pure (wpAny_pure (wpAny_pure h))))
 ·rw [decide_eq_false e1]
  simp only [Bool.not_false,if_true]
  have hf : decide (x = y) = false:=decide_eq_false fun e=>e1 (by rw [e])
  rw [hf] at h
  exact wpAny_bind (wpAny_pure (wpAny_pure (wpAny_pure (wpAny_pure h))))
theorem eqBool_pair {x y : K × L} {a b : Addr} {Q : Bool→Shared→Prop} (hu : A.units + 1 < cLine) (hx : IsPair kx ky s.heap x a) (hy : IsPair kx ky s.heap y b) (h : Q (decide (x = y)) s) :
 wpAny (model prog w) A (eqBool (.ref a) (.ref b)) Q E s:=by
 unfold eqBool
 try with_reducible refine wpAny_holding ?_
 show wpAny _ _ (if (Value.ref a == Value.ref b) = true then _ else _) Q E s
 by_cases hab : (Value.ref a == Value.ref b) = true
 ·rw [if_pos hab]
  have e : a = b:=by have:=eq_of_beq hab; injection this
  subst e
  obtain rfl:=hx.inj hy
  exact wpAny_bind (wpAny_rule (wpAny_pure (by simpa using h)))
 ·rw [if_neg hab]
  exact wpAny_bind (wpAny_richCompare_same_room (op:=.Eq) hx.typeIs hy.typeIs F.slot_tuple_eq
   (wpAny_call_entry F.slot_tuple_eq hx.typeIs F.entry_tuple_eq (pair_eq_tree (A:=A.in1) hu hx hy ⟨_,rfl,(fun e=>nomatch e),wpAny_truthy_bool h⟩) (F.args_tuple_eq_2 _ _)) (by omega))
theorem quiet_pair {k : K × L} {a : Addr} {Q : Bool→Shared→Prop} (hk : IsPair kx ky s.heap k a) (h : Q true s) : wpAny (model prog w) A (eqIsQuiet 8 (.ref a)) Q E s:=by
 have hT:=hk.typeIs
 obtain ⟨o,u,v,n,ho,_,hd,h1,h2⟩:=hk
 unfold eqIsQuiet
 refine wpAny_bind (wpAny_specialOf hT F.slot_tuple_eq.lookup ?_)
 show wpAny _ _ (isInstance (.ref a) (.type "tuple") >>= _) _ _ s
 refine wpAny_bind (wpAny_isInstance hT isSubtype_tuple_tuple ?_)
 simp only [Bool.not_true,Bool.false_eq_true,if_false]
 refine wpAny_bind (wpAny_seqItems ho hd ?_)
 refine for_all (fun x hx Q' hq=>?_) h
 have hx' : x∈[u,v]:=hx
 rcases List.mem_cons.mp hx' with e | hx'
 ·subst e; exact kx.quiet h1 hq
 ·obtain rfl:=List.mem_singleton.mp hx'
  exact ky.quiet h2 hq
theorem known_pair {k : K × L} {a : Addr} {Q : Bool→Shared→Prop} (hk : IsPair kx ky s.heap k a) (h : ∀ b,Q b s) : wpAny (model prog w) A (hashByValue 8 (.ref a)) Q E s:=by
 obtain ⟨o,u,v,n,ho,hc,hd,h1,h2⟩:=hk
 refine known_seq ho hc hd (fun x hx Q' hq=>?_) h
 have hx' : x∈[u,v]:=hx
 rcases List.mem_cons.mp hx' with e | hx'
 ·subst e; exact kx.known h1 hq
 ·obtain rfl:=List.mem_singleton.mp hx'
  exact ky.known h2 hq
theorem noCls_pair {k : K × L} {a : Addr} {Q : Bool→Shared→Prop} (hk : IsPair kx ky s.heap k a) (h : Q false s) : wpAny (model prog w) A (ofAClassStatement 8 (.ref a)) Q E s:=by
 obtain ⟨o,u,v,n,ho,hc,hd,h1,h2⟩:=hk
 refine noCls_seq ho hc hd (fun x hx Q' hq=>?_) h
 have hx' : x∈[u,v]:=hx
 rcases List.mem_cons.mp hx' with e | hx'
 ·subst e; exact kx.noCls h1 hq
 ·obtain rfl:=List.mem_singleton.mp hx'
  exact ky.noCls h2 hq
end
def pairKind {prog : Program} {w : World} {K L : Type} [DecidableEq K] [DecidableEq L] (kx : VKind prog w K) (ky : VKind prog w L) : HeapKind prog w (K × L) where
 is:=IsPair kx ky
 hash:=pairHash (kx:=kx) (ky:=ky)
 draws:=fun k=>kx.draws k.1 + ky.draws k.2 + 1
 room:=fun A=>A.units + 1 < cLine
 inj:=fun hx hy=>hx.inj hy
 keeps:=fun x ho hd hs=>x.keeps (Keep.dict ho hd hs)
 pyHash:=fun hu hk h=>pyHash_pair hu hk h
 eqBool:=fun hu hx hy h=>eqBool_pair hu hx hy h
 quiet:=fun hk h=>quiet_pair hk h
end NK
end
section
namespace SK
open PySem NK ST
open Sem (wp)
structure SKind (prog : Program) (w : World) (K : Type) [DecidableEq K] extends HeapKind prog w K where
 keepK : ∀ {h h' : Heap} {k : K} {a : Addr},is h k a→Keep h h'→is h' k a
 known : ∀ {A : Around} {E : Value→Shared→Prop} {s : Shared} {k : K} {a : Addr} {Q : Bool→Shared→Prop},is s.heap k a→(∀ b,Q b s)→wpAny (model prog w) A (hashByValue 8 (.ref a)) Q E s
 noCls : ∀ {A : Around} {E : Value→Shared→Prop} {s : Shared} {k : K} {a : Addr} {Q : Bool→Shared→Prop},is s.heap k a→Q false s→wpAny (model prog w) A (ofAClassStatement 8 (.ref a)) Q E s
def nameS (prog : Program) (w : World) : SKind prog w (List Int) where
 toHeapKind:=tupleKind (intKind prog w)
 keepK:=fun h k=>tuple_keep h k
 known:=fun hk h=>by
  obtain ⟨o,items,n,ho,hc,hd,hi⟩:=hk
  refine known_seq ho hc hd (fun v hv Q' hq=>?_) h
  obtain ⟨i,t,rfl⟩:=items_ints hi v hv
  exact wpAny_pure (hq true)
 noCls:=fun hk h=>by
  obtain ⟨o,items,n,ho,hc,hd,hi⟩:=hk
  refine noCls_seq ho hc hd (fun v hv Q' hq=>?_) h
  obtain ⟨i,t,rfl⟩:=items_ints hi v hv
  exact wpAny_pure hq
def pairS {prog : Program} {w : World} {K L : Type} [DecidableEq K] [DecidableEq L] (kx : VKind prog w K) (ky : VKind prog w L) : SKind prog w (K × L) where
 toHeapKind:=pairKind kx ky
 keepK:=fun h k=>h.keeps k
 known:=fun hk h=>known_pair hk h
 noCls:=fun hk h=>noCls_pair hk h
def Sz (m n : Nat) : Prop:=(m = 7∧n≤4)∨(m = 31∧n≤18)∨(m = 127∧n≤76)
theorem Sz.whole {m n : Nat} (h : Sz m n) : Whole m:=by
 rcases h with ⟨e,_⟩ | ⟨e,_⟩ | ⟨e,_⟩
 ·rw [e]; exact whole7
 ·rw [e]; exact whole31
 ·rw [e]; exact whole127
section
variable {prog : Program} {w : World} {K : Type} [DecidableEq K] (knd : SKind prog w K)
inductive Ents (h : Heap) : List K→List (Int × Value)→Prop
 | nil : Ents h [] []
 | cons {k : K} {b : Addr} {ks : List K} {es : List (Int × Value)} : knd.is h k b→Ents h ks es→Ents h (k :: ks) ((knd.hash k,.ref b) :: es)
variable {knd}
theorem Ents.length {h : Heap} {ks : List K} {es : List (Int × Value)} (e : Ents knd h ks es) : ks.length = es.length:=by
 induction e with
 | nil=>rfl
 | cons _ _ ih=>simp [ih]
theorem Ents.keep {h h' : Heap} {ks : List K} {es : List (Int × Value)} (e : Ents knd h ks es) (kp : Keep h h') : Ents knd h' ks es:=by
 induction e with
 | nil=>exact .nil
 | cons a _ ih=>exact .cons (knd.keepK a kp) ih
theorem Ents.get {h : Heap} : ∀ {ks : List K} {es : List (Int × Value)} (_ : Ents knd h ks es) {i : Nat} {x : Int × Value},es[i]? = some x→∃ k b,ks[i]? = some k∧x = (knd.hash k,.ref b)∧knd.is h k b
 | _,_,.nil,i,x,hx=>by simp at hx
 | _,_,.cons (k:=k) (b:=b) a r,0,x,hx=>by
  simp at hx
  exact ⟨k,b,rfl,hx.symm,a⟩
 | _,_,.cons a r,i + 1,x,hx=>by
  obtain ⟨k,b,h1,h2,h3⟩:=r.get (i:=i) (by simpa using hx)
  exact ⟨k,b,by simpa using h1,h2,h3⟩
theorem Ents.key {h : Heap} : ∀ {ks : List K} {es : List (Int × Value)} (_ : Ents knd h ks es) {i : Nat} {k : K},ks[i]? = some k→∃ b,es[i]? = some (knd.hash k,.ref b)∧knd.is h k b
 | _,_,.nil,i,x,hx=>by simp at hx
 | _,_,.cons (k:=k) (b:=b) a r,0,x,hx=>by
  simp at hx
  subst hx
  exact ⟨b,rfl,a⟩
 | _,_,.cons a r,i + 1,x,hx=>by
  obtain ⟨b,h1,h2⟩:=r.key (i:=i) (by simpa using hx)
  exact ⟨b,by simpa using h1,h2⟩
theorem Ents.insert {h : Heap} {k : K} {b : Addr} (hk : knd.is h k b) : ∀ {ks : List K} {es : List (Int × Value)} (p : Nat),Ents knd h ks es→Ents knd h (ks.take p ++ k :: ks.drop p) (es.take p ++ (knd.hash k,.ref b) :: es.drop p)
 | _,_,0,e=>by simpa using Ents.cons hk e
 | _,_,p + 1,.nil=>by simpa using Ents.cons hk .nil
 | _,_,p + 1,.cons a r=>by simpa using Ents.cons a (Ents.insert hk p r)
theorem Ents.order {h : Heap} {ks : List K} {es : List (Int × Value)} (e : Ents knd h ks es) : ∀ (l : List Nat),Ents knd h (l.filterMap (ks[·]?)) (l.filterMap (es[·]?))
 | []=>.nil
 | i :: l=>by
  rw [List.filterMap_cons,List.filterMap_cons]
  cases q : es[i]? with
  | none =>
   have : ks[i]? = none:=by
    rw [List.getElem?_eq_none_iff] at q ⊢
    rw [e.length]; exact q
   rw [this]
   exact e.order l
  | some x =>
   obtain ⟨k,b,h1,h2,h3⟩:=e.get q
   rw [h1,h2]
   exact .cons h3 (e.order l)
variable (knd)
def SetAt (h : Heap) (a : Addr) (ks : List K) : Prop :=
 ∃ o es ep t,h.get? a = some o∧o.ExactSet∧o.data = .set es ep t∧Ents knd h ks es.toList∧ks.Nodup∧Tab t es.size∧Way t.mask t.place.toList (es.toList.map (·.1))∧Sz t.mask es.size
variable {knd}
theorem set_not_tuple {o : Obj} (h : o.ExactSet) : o.cls≠.type "tuple":=by rw [h.1]; decide
theorem SetAt.keep {h h' : Heap} {a : Addr} {ks : List K} (x : SetAt knd h a ks) (kp : Keep h h') (ha : ∀ o,h.get? a = some o→h'.get? a = some o) : SetAt knd h' a ks:=by
 obtain ⟨o,es,ep,t,ho,hx,hd,en,nd,T,W,z⟩:=x
 exact ⟨o,es,ep,t,ha o ho,hx,hd,en.keep kp,nd,T,W,z⟩
theorem tab_fits {t : SetTable} {n : Nat} (T : Tab t n) : t.fits n = true:=by
 unfold SetTable.fits SetTable.fill
 rw [T.size,T.nodum]
 have:=T.free
 simp
 omega
variable {A : Around} {E : Value→Shared→Prop} {s : Shared}
theorem could_be_seen {k : K} {b : Addr} {vs : List Value} {Q : Bool→Shared→Prop} (hk : knd.is s.heap k b) (hv : ∀ v∈vs,∃ k' c,v = .ref c∧knd.is s.heap k' c) (h : Q false s) : wpAny (model prog w) A (searchCouldBeSeen (.ref b) vs) Q E s:=by
 unfold searchCouldBeSeen
 refine wpAny_bind ?_
 refine wpAny_forIn_list _ (fun rest r s'=>r.1 = none∧s' = s∧∀ v∈rest,v∈vs) _ ?_ ?_ _ _ ⟨rfl,rfl,fun _ hv=>hv⟩
 ·rintro v rest r s' ⟨hr,rfl,hall⟩
  obtain ⟨k',c,rfl,hc⟩:=hv v (hall v List.mem_cons_self)
  have nx : ∀ v∈rest,v∈vs:=fun u hu=>hall u (List.mem_cons_of_mem _ hu)
  dsimp only
  by_cases e : (b == c || (carriedByValue (Value.ref b) && carriedByValue (Value.ref c))) = true
  ·rw [if_pos e]
   exact wpAny_pure ⟨rfl,rfl,nx⟩
  ·rw [if_neg e]
   refine wpAny_bind (knd.quiet hk ?_)
   simp only [Bool.not_true,Bool.false_eq_true,if_false]
   refine wpAny_bind (knd.quiet hc ?_)
   simp only [Bool.not_true,Bool.false_eq_true,if_false]
   refine wpAny_bind (knd.noCls hk ?_)
   simp only [Bool.false_eq_true,if_false]
   refine wpAny_bind (knd.noCls hc ?_)
   simp only [Bool.false_eq_true,if_false]
   exact wpAny_pure ⟨rfl,rfl,nx⟩
 ·rintro ⟨r1,r2⟩ s' ⟨hr,rfl,_⟩
  simp only at hr
  subst hr
  exact wpAny_pure h
end
end SK
end
section
namespace SK
open PySem NK ST
open Sem (wp)
section
variable {prog : Program} {w : World} {K : Type} [DecidableEq K] {knd : SKind prog w K} {A : Around} {E : Value→Shared→Prop} {s : Shared}
theorem search_from {a b : Addr} {o : Obj} {es : Array (Int × Value)} {ep : Nat} {t : SetTable} {ks : List K} {k : K} (hroom : knd.room A) (ho : s.heap.get? a = some o) (hd : o.data = .set es ep t) (en : Ents knd s.heap ks es.toList)
 (nd : ks.Nodup) (T : Tab t es.size) (W : Way t.mask t.place.toList (es.toList.map (·.1))) (hodd : t.mask % 2 = 1) (hk : knd.is s.heap k b) {M : Nat} (hM : M < 10 * SetTable.turns t.mask) (hfree : (look t.mask (knd.hash k) M).j∉t.place.toList) (hfull : ∀ q,q < M→(look t.mask (knd.hash k) q).j∈t.place.toList) :
 ∀ (f n : Nat) (stand : Option SetTable.Probe) {Q : SetFound→Shared→Prop},M - n < f→n≤M→stand.getD (t.probeStart (knd.hash k)) = look t.mask (knd.hash k) n →
  (∀ i : Nat,ks[i]? = some k→∃ N,n≤N∧N < M∧t.place[i]? = some (look t.mask (knd.hash k) N).j) →
  (k∈ks→Q (.there none) s)→(k∉ks→Q (.free (look t.mask (knd.hash k) M).j false) s) →
  wpAny (model prog w) A (setSearchFrom a (.ref b) (knd.hash k) true f stand) Q E s:=by
 have hfit:=tab_fits T
 have hgw : t.gaveWay = false:=by unfold SetTable.gaveWay; rw [hodd]; rfl
 intro f
 induction f with
 | zero=>intro n _ Q h; omega
 | succ f ih =>
  intro n stand Q hf hn hst hin hyes hno
  unfold setSearchFrom
  refine wpAny_bind (wpAny_setState_of ho hd hfit ?_)
  dsimp only
  rw [hgw]
  simp only [Bool.false_eq_true,if_false]
  have key : ∀ g : Nat→Int,(g = fun i=>(es[i]?.map (·.1)).getD 0)→∀ met,t.probe g (knd.hash k) (stand.getD (t.probeStart (knd.hash k))) = some met→(∃ N,n≤N∧N≤M∧(∀ q,n≤q→q < N→¬ Stops t g (knd.hash k) q) ∧
   (((look t.mask (knd.hash k) N).j∉t.place.toList∧met = .empty (look t.mask (knd.hash k) N).j none)∨∃ i,t.place[i]? = some (look t.mask (knd.hash k) N).j∧g i = knd.hash k∧met = .candidate (look t.mask (knd.hash k) N).j i (look t.mask (knd.hash k) (N + 1)))):=by
   intro g hg met hmet
   obtain ⟨N,h1,h2,h3,h4⟩:=next_stop T g (knd.hash k) (n:=n) hfree hn
   refine ⟨N,h1,h2,h4,?_⟩
   unfold SetTable.probe at hmet
   rw [hst] at hmet
   rcases probe_go T g (knd.hash k) (10 * SetTable.turns t.mask) n N h1 (by omega) h3 h4 with ⟨q1,q2⟩ | ⟨i,q1,q2,q3⟩
   ·rw [q2] at hmet; exact .inl ⟨q1,(Option.some.inj hmet).symm⟩
   ·rw [q3] at hmet; exact .inr ⟨i,q1,q2,(Option.some.inj hmet).symm⟩
  have some_met : ∀ g : Nat→Int,∃ met,t.probe g (knd.hash k) (stand.getD (t.probeStart (knd.hash k))) = some met:=by
   intro g
   obtain ⟨N,h1,h2,h3,h4⟩:=next_stop T g (knd.hash k) (n:=n) hfree hn
   unfold SetTable.probe
   rw [hst]
   rcases probe_go T g (knd.hash k) (10 * SetTable.turns t.mask) n N h1 (by omega) h3 h4 with ⟨q1,q2⟩ | ⟨i,q1,q2,q3⟩
   ·exact ⟨_,q2⟩
   ·exact ⟨_,q3⟩
  split
  ·rename_i met hmet
   obtain ⟨N,h1,h2,h3,h4⟩:=key _ (by rfl) met hmet
   have inN : ∀ i : Nat,ks[i]? = some k→∃ N',N≤N'∧N' < M∧t.place[i]? = some (look t.mask (knd.hash k) N').j:=fun i hi=>by
    obtain ⟨N',a1,a2,a3⟩:=hin i hi
    refine ⟨N',?_,a2,a3⟩
    apply Classical.byContradiction
    intro z
    refine h3 N' a1 (by omega) (.inr ⟨i,a3,?_⟩)
    obtain ⟨c,hc,_⟩:=en.key hi
    rw [Array.getElem?_toList] at hc
    show (es[i]?.map (·.1)).getD 0 = _
    rw [hc]; rfl
   rcases h4 with ⟨q1,rfl⟩ | ⟨i,q1,q2,rfl⟩
   ·have eN : N = M:=by
     apply Classical.byContradiction
     intro z
     exact q1 (hfull N (by omega))
    subst eN
    refine wpAny_pure (hno fun hm=>?_)
    obtain ⟨i,hi⟩:=List.mem_iff_getElem?.mp hm
    obtain ⟨N',a1,a2,_⟩:=inN i hi
    omega
   ·have hi : i < es.size:=by
     rw [← T.size]; exact (Array.getElem?_eq_some_iff.mp q1).1
    have hei : es[i]? = some es[i]:=Array.getElem?_eq_getElem hi
    obtain ⟨k',c,hki,hec,hc⟩:=en.get (i:=i) (x:=es[i]) (by rw [Array.getElem?_toList]; exact hei)
    have hNM : N < M:=by
     apply Classical.byContradiction
     intro z
     have : N = M:=by omega
     subst this
     exact hfree (List.mem_of_getElem? (by rw [Array.getElem?_toList]; exact q1))
    have nx : ∀ k',ks[i]? = some k'→¬ k' = k→wpAny (model prog w) A (setSearchFrom a (.ref b) (knd.hash k) true f (some (look t.mask (knd.hash k) (N + 1)))) Q E s:=fun k' hki ek=>by
     refine ih (N + 1) (some (look t.mask (knd.hash k) (N + 1))) (by omega) (by omega) rfl (fun i' hi'=>?_) hyes hno
     obtain ⟨N',a1,a2,a3⟩:=inN i' hi'
     refine ⟨N',?_,a2,a3⟩
     apply Classical.byContradiction
     intro z
     have eN : N' = N:=by omega
     subst eN
     have e1:=below_at T.rise q1
     have e2:=below_at T.rise a3
     have : i = i':=e1.symm.trans e2
     subst this
     rw [hki] at hi'
     exact ek (Option.some.inj hi')
    dsimp only
    by_cases hled : t.led = true
    ·rw [hled]
     simp only [Bool.not_true,Bool.false_eq_true,if_false]
     rw [hei,hec]
     dsimp only
     refine wpAny_bind (wpAny_holding (knd.eqBool hroom hc hk ?_))
     refine wpAny_bind (wpAny_setState_of ho hd hfit ?_)
     dsimp only
     by_cases ek : k' = k
     ·subst ek
      simp only [decide_true,Bool.and_self,if_true]
      exact wpAny_pure (hyes (List.mem_of_getElem? hki))
     ·rw [decide_eq_false ek]
      simp only [Bool.and_false,Bool.false_eq_true,if_false]
      have hsm : t.sameMemory t.moves t.mask = some true:=by unfold SetTable.sameMemory; simp
      rw [hsm]
      dsimp only
      simp only [if_true]
      rw [slot_live T q1]
      dsimp only
      rw [hei,hec]
      dsimp only
      refine wpAny_bind (wpAny_isSame_ref_self (wpAny_bind (wpAny_pure ?_)))
      simp only [if_true]
      exact nx k' hki ek
    ·have hled' : t.led = false:=by simpa using hled
     rw [hled']
     simp only [Bool.not_false,if_true]
     refine wpAny_bind (could_be_seen hk (fun v hv=>?_) ?_)
     ·obtain ⟨x,hx,e⟩:=List.mem_map.mp hv
      rw [Array.toList_filter] at hx
      have hx':=(List.mem_filter.mp hx).1
      obtain ⟨j,hj⟩:=List.mem_iff_getElem?.mp hx'
      obtain ⟨k2,c2,_,e2,h2'⟩:=en.get hj
      subst e2
      exact ⟨k2,c2,e.symm,h2'⟩
     simp only [Bool.false_eq_true,if_false]
     rw [hei,hec]
     dsimp only
     refine wpAny_bind (wpAny_holding (knd.eqBool hroom hc hk ?_))
     refine wpAny_bind (wpAny_setState_of ho hd hfit ?_)
     dsimp only
     by_cases ek : k' = k
     ·subst ek
      simp only [decide_true,Bool.and_self,if_true]
      exact wpAny_pure (hyes (List.mem_of_getElem? hki))
     ·rw [decide_eq_false ek]
      simp only [Bool.and_false,Bool.false_eq_true,if_false]
      have hsm : t.sameMemory t.moves t.mask = some true:=by unfold SetTable.sameMemory; simp
      rw [hsm]
      dsimp only
      simp only [if_true]
      rw [slot_live T q1]
      dsimp only
      rw [hei,hec]
      dsimp only
      refine wpAny_bind (wpAny_isSame_ref_self (wpAny_bind (wpAny_pure ?_)))
      simp only [if_true]
      exact nx k' hki ek
  ·rename_i hnone
   obtain ⟨met,hmet⟩:=some_met _
   exact (hnone met hmet).elim
end
end SK
end
section
namespace SK
open PySem NK ST
open Sem (wp)
theorem keep_update {h : Heap} {a : Addr} {o : Obj} (ho : h.get? a = some o) (hx : o.ExactSet) (f : Obj→Obj) : Keep h (h.update a f):=Keep.but ho (set_not_tuple hx) (Heap.SameBut.update h a f)
theorem size_step {m n : Nat} (z : Sz m n) (hn : n + 1≤76) : ((n + 1) * 5 < m * 3∧Sz m (n + 1))∨(m * 3≤(n + 1) * 5∧Sz (SetTable.sizeAbove (SetTable.grown (n + 1)) - 1) (n + 1)∧SetTable.sizeAbove (SetTable.grown (n + 1))≤128):=by
 rcases z with ⟨e,h⟩ | ⟨e,h⟩ | ⟨e,h⟩
 ·subst e
  by_cases q : n≤3
  ·exact .inl ⟨by omega,.inl ⟨rfl,by omega⟩⟩
  ·have : n = 4:=by omega
   subst this
   exact .inr ⟨by decide,.inr (.inl ⟨by decide,by decide⟩),by decide⟩
 ·subst e
  by_cases q : n≤17
  ·exact .inl ⟨by omega,.inr (.inl ⟨rfl,by omega⟩)⟩
  ·have : n = 18:=by omega
   subst this
   exact .inr ⟨by decide,.inr (.inr ⟨by decide,by decide⟩),by decide⟩
 ·subst e
  exact .inl ⟨by omega,.inr (.inr ⟨rfl,by omega⟩)⟩
theorem Sz.odd {m n : Nat} (z : Sz m n) : m % 2 = 1:=by
 rcases z with ⟨e,_⟩ | ⟨e,_⟩ | ⟨e,_⟩ <;> (rw [e])
theorem Sz.room {m n : Nat} (z : Sz m n) : n + 1≤m:=by
 rcases z with ⟨e,h⟩ | ⟨e,h⟩ | ⟨e,h⟩ <;> omega
section
variable {prog : Program} {w : World} {K : Type} [DecidableEq K] {knd : SKind prog w K} {A : Around} {E : Value→Shared→Prop} {s : Shared}
theorem relay_of {a : Addr} {o : Obj} {es : Array (Int × Value)} {ep : Nat} {t : SetTable} {ks : List K} {wanted : Nat} {Q : Unit→Shared→Prop} (ho : s.heap.get? a = some o) (hx : o.ExactSet) (hd : o.data = .set es ep t) (en : Ents knd s.heap ks es.toList) (nd : ks.Nodup) (hf : t.fits es.size = true)
 (z : Sz (SetTable.sizeAbove wanted - 1) es.size) (hs : SetTable.sizeAbove wanted≤128)
 (h : ∀ h' ks',Heap.SameBut a s.heap h'→Keep s.heap h'→ks'.Perm ks→SetAt knd h' a ks'→Q () { s with heap:=h' }) : wpAny (model prog w) A (setRelay a wanted) Q E s:=by
 unfold setRelay
 refine wpAny_bind (wpAny_setState_of ho hd hf ?_)
 dsimp only
 have hsl : ¬ SetTable.sizeAbove wanted > sizeLine:=by rw [sizeLine_eq]; omega
 rw [if_neg hsl]
 have hsz : (es.map (·.1)).size = es.size:=by simp
 obtain ⟨t',order,e,T',em,_,perm,W',es1⟩:=laid_ok (f:=t.finger) (mv:=t.movedTo (SetTable.sizeAbove wanted - 1)) (led:=t.led) (plain:=t.plain) z.whole (es.map (·.1)) (by rw [hsz]; have:=z.room; omega)
 have er : t.relaid (es.map (·.1)) wanted = some (t',order):=e
 rw [er]
 rw [hsz] at T' perm
 obtain ⟨r1,r2⟩:=reorder (es:=es) perm
 have esz : (order.filterMap (es[·]?)).size = es.size:=by
  rw [← Array.length_toList,r1.length_eq,Array.length_toList]
 refine wpAny_bind ?_
 show wpAny _ _ (if ((order.filterMap (es[·]?)).size != es.size) = true then _ else _) _ _ _
 rw [if_neg (by rw [esz]; simp)]
 refine wpAny_pure ?_
 dsimp only
 refine wpAny_storeSet_of ho hd ?_ (by rw [esz,sizeLine_eq]; have:=z.room; omega)
 have hg : (s.heap.update a (Obj.putSet (order.filterMap (es[·]?)) t')).get? a = some { o with data:=.set (order.filterMap (es[·]?)) (ep + 1) t' }:=by
  have:=Heap.get?_update_self (Obj.putSet (order.filterMap (es[·]?)) t') ho (by rw [putSet_of _ t' hd]; rfl)
  rw [putSet_of _ t' hd] at this; exact this
 have kp:=keep_update ho hx (Obj.putSet (order.filterMap (es[·]?)) t')
 have kperm : (order.toList.filterMap (ks[·]?)).Perm ks:=by
  have e1 : ks.length = es.size:=by rw [en.length,Array.length_toList]
  have:=(reorder (es:=ks.toArray) (order:=order) (by rw [List.size_toArray,e1]; exact perm)).1
  rw [Array.toList_filterMap] at this
  simpa using this
 refine h _ (order.toList.filterMap (ks[·]?)) (Heap.SameBut.update s.heap a _) kp kperm ⟨_,_,_,_,hg,hx,rfl,?_,kperm.nodup_iff.mpr nd,?_,?_,?_⟩
 ·rw [Array.toList_filterMap]
  have e2 : List.filterMap (fun i : Nat=>es[i]?) order.toList = order.toList.filterMap (es.toList[·]?):=by
   refine congrArg (fun g=>List.filterMap g order.toList) ?_
   funext i; rw [Array.getElem?_toList]
  rw [e2]
  exact (en.order order.toList).keep kp
 ·rw [esz]; exact T'
 ·rw [em]
  have el : (order.filterMap (es[·]?)).toList.map (·.1) = order.toList.map fun i=>(es.map (·.1)).getD i 0:=by
   rw [Array.toList_filterMap]
   have hall : ∀ i∈order.toList,i < es.size:=fun i hi=>List.mem_range.mp (perm.mem_iff.mp hi)
   clear r1 r2 esz hg kp kperm W' T' perm
   generalize order.toList = l at hall ⊢
   induction l with
   | nil=>rfl
   | cons i l ih =>
    have hi:=hall i List.mem_cons_self
    rw [List.filterMap_cons,Array.getElem?_eq_getElem hi]
    simp only [List.map_cons]
    rw [ih fun j hj=>hall j (List.mem_cons_of_mem _ hj)]
    congr 1
    simp [Array.getD,hi]
  rw [el]; exact W'
 ·rw [em,esz]; exact z
theorem add_hashed {a b : Addr} {ks : List K} {k : K} {Q : Bool→Shared→Prop} (hroom : knd.room A) (hS : SetAt knd s.heap a ks) (hk : knd.is s.heap k b) (hn : ks.length < 76)
 (h : ∀ h' ks' r,Heap.SameBut a s.heap h'→Keep s.heap h'→(∀ x,x∈ks'↔x = k∨x∈ks)→SetAt knd h' a ks'→Q r { s with heap:=h' }) :
 wpAny (model prog w) A (setAddHashed a (.ref b) (knd.hash k)) Q E s:=by
 have hS0:=hS
 obtain ⟨o,es,ep,t,ho,hx,hd,en,nd,T,W,z⟩:=hS
 have hfit:=tab_fits T
 have el : ks.length = es.size:=by rw [en.length,Array.length_toList]
 unfold setAddHashed setAddHashedIn
 refine wpAny_holding (wpAny_bind (wpAny_setState_of ho hd hfit ?_))
 dsimp only
 have hbs : byScan (.ref b) es = false:=rfl
 rw [hbs]
 simp only [Bool.false_eq_true,if_false]
 obtain ⟨M,hM,hfree,hfull⟩:=first_free T (knd.hash k)
 unfold setSearch
 refine wpAny_bind (search_from hroom ho hd en nd T W z.odd hk hM hfree hfull 100000 0 none ?_ (Nat.zero_le _) rfl ?_ ?_ ?_)
 ·have : SetTable.turns t.mask≤142:=by
   unfold SetTable.turns
   rcases z with ⟨e,_⟩ | ⟨e,_⟩ | ⟨e,_⟩ <;> omega
  omega
 ·intro i hi
  obtain ⟨c,hc,_⟩:=en.key hi
  have hlt : i < es.size:=by
   rw [← el]; exact (List.getElem?_eq_some_iff.mp hi).1
  have hpl : i < t.place.size:=by rw [T.size]; exact hlt
  obtain ⟨N,e1,e2⟩:=W i t.place[i] (knd.hash k) (by rw [Array.getElem?_toList]; exact Array.getElem?_eq_getElem hpl) (by rw [List.getElem?_map,hc]; rfl)
  refine ⟨N,Nat.zero_le _,?_,by rw [e1]; exact Array.getElem?_eq_getElem hpl⟩
  apply Classical.byContradiction
  intro q
  by_cases e : N = M
  ·subst e
   rw [e1] at hfree
   exact hfree (List.mem_of_getElem? (by rw [Array.getElem?_toList]; exact Array.getElem?_eq_getElem hpl))
  ·exact hfree (e2 M (by omega))
 ·intro hm
  refine wpAny_pure ?_
  have e : s = { s with heap:=s.heap }:=by cases s; rfl
  have:=h s.heap ks false (Heap.SameBut.refl a s.heap) (Keep.refl _) (fun x=>⟨.inr,fun q=>q.elim (fun e=>e ▸ hm) id⟩) hS0
  rw [e]; exact this
 ·intro hnm
  dsimp only
  refine wpAny_bind (wpAny_setState_of ho hd hfit ?_)
  dsimp only
  have hj : (look t.mask (knd.hash k) M).j≤t.mask:=look_le _ _ _
  obtain ⟨T',ep2,em,epl⟩:=put_tab T hfree hj z.room
  have cont : ∀ bv : Bool,wpAny (model prog w) A (do
   storeSet a (SetTable.insertAt es (t.put (look t.mask (knd.hash k) M).j).2 (knd.hash k,.ref b)) (if bv then (t.put (look t.mask (knd.hash k) M).j).1 else { (t.put (look t.mask (knd.hash k) M).j).1 with plain:=false })
   if !false && (if bv then (t.put (look t.mask (knd.hash k) M).j).1 else { (t.put (look t.mask (knd.hash k) M).j).1 with plain:=false }).tooFull then setRelay a (SetTable.grown (es.size + 1))
   return true) Q E s:=fun bv=>by
   generalize ht : (if bv then (t.put (look t.mask (knd.hash k) M).j).1 else { (t.put (look t.mask (knd.hash k) M).j).1 with plain:=false }) = t1
   have T1 : Tab t1 (es.size + 1):=by
    rw [← ht]
    split
    ·exact T'
    ·exact ⟨T'.nodum,T'.rise,T'.size,T'.most,T'.whole,T'.free⟩
   have m1 : t1.mask = t.mask:=by rw [← ht]; split <;> exact em
   have p1 : t1.place.toList = t.place.toList.take (SetTable.below t.place (look t.mask (knd.hash k) M).j) ++ (look t.mask (knd.hash k) M).j :: t.place.toList.drop (SetTable.below t.place (look t.mask (knd.hash k) M).j):=by
    rw [← ht]; split <;> exact epl
   rw [ep2]
   have hple : SetTable.below t.place (look t.mask (knd.hash k) M).j≤es.size:=by rw [← T.size]; exact below_le T.rise _
   generalize hp0 : SetTable.below t.place (look t.mask (knd.hash k) M).j = p at p1 hple ⊢
   generalize he1 : SetTable.insertAt es p (knd.hash k,Value.ref b) = es1
   have l1 : es1.toList = es.toList.take p ++ (knd.hash k,.ref b) :: es.toList.drop p:=by rw [← he1]; exact insertAt_toList _ _ _ hple
   have z1 : es1.size = es.size + 1:=by
    rw [← Array.length_toList,l1]
    simp
    omega
   have hsl : es1.size≤sizeLine:=by rw [z1,sizeLine_eq]; omega
   refine wpAny_bind (wpAny_storeSet_of ho hd ?_ hsl)
   have hg : (s.heap.update a (Obj.putSet es1 t1)).get? a = some { o with data:=.set es1 (ep + 1) t1 }:=by
    have:=Heap.get?_update_self (Obj.putSet es1 t1) ho (by rw [putSet_of _ t1 hd]; rfl)
    rw [putSet_of _ t1 hd] at this; exact this
   have kp:=keep_update ho hx (Obj.putSet es1 t1)
   have en1 : Ents knd (s.heap.update a (Obj.putSet es1 t1)) (ks.take p ++ k :: ks.drop p) es1.toList:=by
    rw [l1]; exact (Ents.insert hk p en).keep kp
   have mem1 : ∀ x,x∈ks.take p ++ k :: ks.drop p↔x = k∨x∈ks:=fun x=>mem_ins
   have nd1 : (ks.take p ++ k :: ks.drop p).Nodup:=by
    have pp : (ks.take p ++ k :: ks.drop p).Perm (k :: ks):=by
     refine List.perm_middle.trans ?_
     rw [List.take_append_drop]
    exact pp.nodup_iff.mpr (List.nodup_cons.mpr ⟨hnm,nd⟩)
   have hfull1 : t1.tooFull = decide (t.mask * 3≤(es.size + 1) * 5):=by
    unfold SetTable.tooFull SetTable.fill
    rw [T1.size,T1.nodum,m1]
    simp
   rcases size_step z (by omega) with ⟨q1,q2⟩ | ⟨q1,q2,q3⟩
   ·have : t1.tooFull = false:=by rw [hfull1]; simp; omega
    rw [this]
    simp only [Bool.not_false,Bool.and_false,Bool.false_eq_true,if_false]
    refine wpAny_pure (h _ _ _ (Heap.SameBut.update s.heap a _) kp mem1 ⟨_,_,_,_,hg,hx,rfl,en1,nd1,by rw [z1]; exact T1,?_,by rw [m1,z1]; exact q2⟩)
    rw [m1,p1,l1,List.map_append,List.map_cons,List.map_take,List.map_drop,← hp0]
    exact put_way T W (by simp) rfl hfull
   ·have : t1.tooFull = true:=by rw [hfull1]; simp; omega
    rw [this]
    simp only [Bool.not_false,Bool.and_self,if_true]
    refine wpAny_bind (relay_of (s:={ s with heap:=s.heap.update a (Obj.putSet es1 t1) }) hg hx rfl en1 nd1 (by rw [z1]; exact tab_fits T1) (by rw [z1]; exact q2) q3 fun h' ks' sb kp' pm S'=>?_)
    refine wpAny_pure (h h' ks' true ((Heap.SameBut.update s.heap a _).trans sb) (kp.trans kp') (fun x=>?_) S')
    rw [pm.mem_iff]; exact mem1 x
  by_cases hp : (t.put (look t.mask (knd.hash k) M).j).1.plain = true
  ·rw [hp]
   simp only [if_true]
   refine wpAny_bind (knd.known hk fun bv=>?_)
   exact cont bv
  ·have hp' : (t.put (look t.mask (knd.hash k) M).j).1.plain = false:=by simpa using hp
   rw [hp']
   simp only [Bool.false_eq_true,if_false]
   refine wpAny_bind (wpAny_pure ?_)
   exact cont true
end
end SK
end
section
namespace SK
open PySem NK ST
open Sem (wp)
set_option maxRecDepth 100000
section
variable {prog : Program} {w : World} {K : Type} [DecidableEq K] {knd : SKind prog w K} {A : Around} {E : Value→Shared→Prop} {s : Shared} {R : Result→Shared→Prop} {I : Addr} {fp wr : List Addr} {G : Array GenState→Array GenState→Prop} {n : Nat} {P : Nat→Value→Prop} {St : Nat→Shared→Prop}
theorem keep_moved {s s' : Shared} (hm : Moved wr G s s') (hn : ∀ b∈wr,∀ o,s.heap.get? b = some o→o.cls≠.type "tuple") : Keep s.heap s'.heap:=fun b o _ _ e c _ =>
 hm.heap b o (fun hb=>hn b hb o e c) e
theorem met_length {ks : List K} {kf : Nat→K} {i : Nat} (nd : ks.Nodup) (hm : ∀ x,x∈ks↔∃ j,j < i∧kf j = x) : ks.length≤i:=by
 have:=nd.length_le_of_subset (l₂:=(List.range i).map kf) fun x hx=>by
  obtain ⟨j,hj,e⟩:=(hm x).mp hx
  exact List.mem_map.mpr ⟨j,List.mem_range.mpr hj,e⟩
 simpa using this
theorem SetAt.nodup {h : Heap} {a : Addr} {ks : List K} (x : SetAt knd h a ks) : ks.Nodup:=let ⟨_,_,_,_,_,_,_,_,nd,_⟩:=x; nd
theorem update_loop (W : WalksS prog w A.in1 I fp wr G n P St) (S : Addr) (hSf : S∉fp) (hroom : knd.room A.in1) (h0 : Heap) (hS0 : h0.objs.size≤S) (hwr : ∀ b∈wr,h0.objs.size≤b)
 (hnt : ∀ i s,St i s→∀ b∈wr,∀ o,s.heap.get? b = some o→o.cls≠.type "tuple") (kf : Nat→K) (hval : ∀ i v,P i v→∃ b,v = .ref b∧knd.is h0 (kf i) b) (hb : n≤76) :
 ∀ (k i : Nat) (s : Shared) (ks : List K),n - i = k→i≤n→St i s→(∀ b o,h0.get? b = some o→s.heap.get? b = some o)→SetAt knd s.heap S ks→(∀ x,x∈ks↔∃ j,j < i∧kf j = x) →
  (∀ s' ks',Moved (S :: wr) G s s'→SetAt knd s'.heap S ks'→(∀ x,x∈ks'↔∃ j,j < n∧kf j = x)→R (.ok (.ret .none)) s') →
  codeAny (model prog w) A (.builtin "set.update.loop" ⟨[.ref S,.ref I],[]⟩) R s:=by
 have hSw : S∉wr:=fun h=>hSf (W.sub _ h)
 have hsub : ∀ b∈wr,b∈S :: wr:=fun b hb=>List.mem_cons_of_mem _ hb
 intro k
 induction k with
 | zero =>
  intro i s ks hk hi hst hold hS hmem hR
  have hin : i = n:=by omega
  subst hin
  refine codeAny_builtin PyProof.Rows.F.entry_set_update_loop ?_
  rw [Around.under_plainId PyProof.Rows.F.plain_set_update_loop _]
  show wpAny _ A.in1 (pyNext (.ref I) >>= _) _ _ s
  refine wpAny_bind (W.done s _ _ hst fun s' hm=>?_)
  show wpAny _ A.in1 (ret Value.none) _ _ s'
  exact wpAny_pure (hR s' ks (hm.mono hsub) (hS.keep (keep_moved hm (hnt _ _ hst)) fun o e=>hm.heap S o hSw e) hmem)
 | succ k ih =>
  intro i s ks hk hi hst hold hS hmem hR
  have hlt : i < n:=by omega
  refine codeAny_builtin PyProof.Rows.F.entry_set_update_loop ?_
  rw [Around.under_plainId PyProof.Rows.F.plain_set_update_loop _]
  show wpAny _ A.in1 (pyNext (.ref I) >>= _) _ _ s
  refine wpAny_bind (W.item i s _ _ hlt hst fun v s' hP hst' hm=>?_)
  obtain ⟨b,rfl,hkb⟩:=hval i v hP
  have hS' : SetAt knd s'.heap S ks:=hS.keep (keep_moved hm (hnt _ _ hst)) fun o e=>hm.heap S o hSw e
  have hold' : ∀ c o,h0.get? c = some o→s'.heap.get? c = some o:=fun c o e=>hm.heap c o (fun hc=>absurd (Nat.lt_of_lt_of_le (Heap.lt_size e) (hwr c hc)) (Nat.lt_irrefl _)) (hold c o e)
  have hk' : knd.is s'.heap (kf i) b:=knd.keepK hkb (Keep.all hold')
  show wpAny _ A.in1 (holding [Value.ref b] (setAdd S (.ref b)) >>= _) _ _ s'
  refine wpAny_bind (wpAny_holding ?_)
  unfold setAdd
  refine wpAny_holding ?_
  refine wpAny_bind (knd.pyHash hroom hk' ?_)
  have hlen:=met_length hS'.nodup hmem
  refine add_hashed (s:={ s' with toks:=s'.toks + knd.draws (kf i) }) hroom hS' hk' (by omega) fun h' ks' r hsb kp hm' hS2=>?_
  refine wpAny_pure ⟨plainId_quiet PyProof.Rows.F.plain_set_update_loop _,ih (i + 1) _ ks' (by omega) hlt (W.frame _ s' _ _ hst' (Nat.le_add_right _ _) fun c hc o e=>?_) (fun c o e=>?_) hS2 (fun x=>?_) fun s'' ks'' hm'' hS'' hq=>?_⟩
  ·rw [hsb.2 c (fun z : c = S=>hSf (by rw [← z]; exact hc))]; exact e
  ·have hcS : c≠S:=fun z=>absurd (Nat.lt_of_lt_of_le (Heap.lt_size e) (by rw [z]; exact hS0)) (Nat.lt_irrefl _)
   show h'.get? c = some o
   rw [hsb.2 c hcS]; exact hold' c o e
  ·rw [hm' x,hmem x]
   constructor
   ·rintro (e | ⟨j,hj,e⟩)
    ·exact ⟨i,by omega,e.symm⟩
    ·exact ⟨j,by omega,e⟩
   ·rintro ⟨j,hj,e⟩
    by_cases q : j = i
    ·subst q; exact .inl e.symm
    ·exact .inr ⟨j,by omega,e⟩
  ·refine hR s'' ks'' (Moved.trans W.gtrans ((hm.mono hsub).then_heap (Nat.le_add_right _ _) fun c o hc e=>?_) hm'') hS'' hq
   rw [hsb.2 c (fun z : c = S=>hc (by rw [z]; exact List.mem_cons_self))]; exact e
theorem fresh_set {h : Heap} {a : Addr} {led : Bool} (hg : h.get? a = some { cls:=.type "set",dict:=none,data:=.set #[] 0 (.fresh 0 0 led) }) : SetAt knd h a [] :=
 ⟨_,#[],0,_,hg,⟨rfl,rfl,rfl⟩,rfl,.nil,List.nodup_nil,⟨rfl,List.Pairwise.nil,rfl,(fun j hj=>by cases hj),whole7,Nat.zero_le _⟩,(fun i j h h1 _=>by cases h1),.inl ⟨rfl,by decide⟩⟩
end
namespace F
theorem sub_tuple_set : isSubtype (.type "tuple") (.type "set") = pure false:=by rw [isSubtype_type]; kernel_rfl
theorem sub_tuple_frozenset : isSubtype (.type "tuple") (.type "frozenset") = pure false:=by rw [isSubtype_type]; kernel_rfl
end F
section
variable {prog : Program} {w : World} {K : Type} [DecidableEq K] {knd : SKind prog w K} {A : Around} {E : Value→Shared→Prop} {s : Shared}
set_option maxHeartbeats 3200000 in
theorem call_set {l : Addr} {items : Array Value} {kf : Nat→K} {Q : Value→Shared→Prop} (hroom : ∀ B : Around,B.units≤A.units + 4→knd.room B) (hh : A.handled = none) (hl : s.heap.IsList l items∨s.heap.IsTuple l items)
 (hval : ∀ (i : Nat) (v : Value),items[i]? = some v→∃ b,v = .ref b∧knd.is s.heap (kf i) b) (hb : items.size≤76)
 (h : ∀ (h' : Heap) (tk : Nat) (ks : List K),SetAt knd h' s.heap.objs.size ks→(∀ x,x∈ks↔∃ j,j < items.size∧kf j = x) →
  (∀ b o,b < s.heap.objs.size→s.heap.get? b = some o→h'.get? b = some o)→Q (.ref s.heap.objs.size) { s with heap:=h',toks:=tk }) :
 wpAny (model prog w) A (call (.type "set") [.ref l]) Q E s:=by
 obtain ⟨c,tl,hmro⟩:=PySem.F.called_set.mro
 have hmade:=PySem.F.called_set.made
 have hsub:=PySem.F.called_set.sub
 refine wpAny_call (codeAny_of_tree ?_)
 show wpAny _ _ (callAny (.type "set") _) _ _ _
 refine wpAny_pure ⟨Code.quiet_builtin _ (by decide +kernel),codeAny_builtin PySem.F.entry_type_call ?_⟩
 rw [Around.under_plain (weight_type_call_type "set" [.ref l] []) rfl]
 have h1:=PySem.F.called_set.notType
 have h2:=PySem.F.called_set.canCreate
 have hct:=PySem.F.typeCall_set_1 (.ref l)
 repeat (any_goals (first | assumption | wp_step))
 refine codeAny_mono (code_set_new_1 (.ref l) (E:=E) (Q₁:=fun obj s₁=>∃ led : Bool,obj = .ref s.heap.objs.size∧s₁ = { s with heap:=s.heap.push { cls:=.type "set",dict:=none,data:=.set #[] 0 (.fresh 0 0 led) } }) fun led=>⟨led,rfl,rfl⟩) fun r s₁ hr=>?_
 cases r with
 | error e=>exact hr
 | ok fl =>
  cases fl with
  | ret obj =>
   obtain ⟨led,rfl,rfl⟩:=hr
   have hS : (s.heap.push { cls:=.type "set",dict:=none,data:=.set #[] 0 (.fresh 0 0 led) }).get? s.heap.objs.size = some { cls:=.type "set",dict:=none,data:=.set #[] 0 (.fresh 0 0 led) }:=Heap.get?_push_size _ rfl
   have hT : Shared.TypeIs { s with heap:=s.heap.push { cls:=.type "set",dict:=none,data:=.set #[] 0 (.fresh 0 0 led) } } (.ref s.heap.objs.size) "set":=⟨_,hS,rfl⟩
   have hli:=PySem.F.called_set.init.lookup
   have hbi:=PySem.F.called_set.init.bind (.ref s.heap.objs.size)
   repeat (any_goals (first | assumption | wp_step))
   refine codeAny_mono (codeAny_call_builtin (R:=wants (fun r s₂=>r = .none∧∃ h' tk ks,s₂ = { s with heap:=h',toks:=tk } ∧
    SetAt knd h' s.heap.objs.size ks∧(∀ x,x∈ks↔∃ j,j < items.size∧kf j = x) ∧
    (∀ b o,b < s.heap.objs.size→s.heap.get? b = some o→h'.get? b = some o)) E) PySem.F.called_set.init.plain PySem.F.entry_set_init (check_set_init_1 hT ?_)) fun r₂ s₂ hr₂=>?_
   ·rcases hl with hl | hl
    ·obtain ⟨ol,hol,hcl,nl,hdl⟩:=hl
     obtain ⟨ocls,odict,odata,oslots⟩:=ol
     simp only at hcl hdl
     subst hcl; subst hdl
     have hol' : (s.heap.push { cls:=.type "set",dict:=none,data:=.set #[] 0 (.fresh 0 0 led) }).get? l = some { cls:=.type "list",dict:=odict,data:=.seq items nl,slots:=oslots }:=Heap.get?_push_of_some _ hol
     have hsls:=PySem.F.sub_list_set
     have hslf:=PySem.F.sub_list_frozenset
     have hne : (Value.type "list" == Value.type "dict") = false:=by decide
     have hl1 : (s.heap.push { cls:=.type "set",dict:=none,data:=.set #[] 0 (.fresh 0 0 led) }).IsList l items:=⟨_,hol',rfl,nl,rfl⟩
     unfold Builtin.«set.__init__» noKeywords Builtin.Frozenset.updateFrom
     generalize hPI : pyIter = PI
     wp_walk
     subst hPI
     refine wpAny_pyIter_list hl1 ?_
     refine wpAny_bind (wpAny_runValue ?_)
     have hlS : l < s.heap.objs.size:=Heap.lt_size hol
     have hh3 : A.in1.in1.in1.handled = none:=by simp [hh]
     have hneI : l≠(s.heap.push { cls:=.type "set",dict:=none,data:=.set #[] 0 (.fresh 0 0 led) }).objs.size:=by
      rw [Heap.size_push]; exact Nat.ne_of_lt (Nat.lt_succ_of_lt hlS)
     have hSf : s.heap.objs.size∉[(s.heap.push { cls:=.type "set",dict:=none,data:=.set #[] 0 (.fresh 0 0 led) }).objs.size,l]:=by
      rw [Heap.size_push]; simp only [List.mem_cons,List.not_mem_nil,or_false,not_or]
      exact ⟨Nat.ne_of_lt (Nat.lt_succ_self _),Nat.ne_of_gt hlS⟩
     refine update_loop (knd:=knd) ((Walks.list hh3 _ l hneI items).toS) s.heap.objs.size hSf (hroom _ (by show A.units + 1 + 1 + 1≤_; omega)) s.heap (Nat.le_refl _) ?hwr ?hnt kf hval hb (items.size - 0) 0 _ [] (by omega) (Nat.zero_le _)
      ⟨⟨_,Heap.get?_push_size _ rfl,rfl,rfl⟩,(hl1.push _)⟩ ?hold ?hS0 ?hm ?hR
     case hwr =>
      intro b hb'
      have:=List.mem_singleton.mp hb'
      rw [this,Heap.size_push]; omega
     case hnt =>
      intro i s' hst b hb' o e
      obtain rfl:=List.mem_singleton.mp hb'
      obtain ⟨⟨o',ho',hc',_⟩,_⟩:=hst
      rw [ho'] at e; cases e
      rw [hc']; decide
     case hold=>exact fun b o e=>Heap.get?_push_of_some _ (Heap.get?_push_of_some _ e)
     case hS0=>exact fresh_set (Heap.get?_push_of_some _ hS)
     case hm =>
      intro x
      constructor
      ·intro q; cases q
      ·rintro ⟨j,hj,_⟩; omega
     case hR =>
      intro s' ks' hm hS' hq
      obtain ⟨h',g',d',tk',os'⟩:=s'
      have eg : g' = s.gens:=hm.gens
      have ed : d' = s.drawn:=hm.drawn
      have eo : os' = s.os:=hm.os
      subst eg; subst ed; subst eo
      show wpAny _ _ _ _ _ _
      refine wpAny_pure ?_
      show wpAny _ _ (ret Value.none) _ _ _
      refine wpAny_pure ⟨rfl,h',tk',ks',rfl,hS',hq,fun b o hb e=>?_⟩
      have hb1 : b≠s.heap.objs.size:=Nat.ne_of_lt hb
      have hb2 : b≠(s.heap.push { cls:=.type "set",dict:=none,data:=.set #[] 0 (.fresh 0 0 led) }).objs.size:=by
       rw [Heap.size_push]; exact Nat.ne_of_lt (Nat.lt_succ_of_lt hb)
      exact hm.heap b o (by simp only [List.mem_cons,List.not_mem_nil,or_false,not_or]; exact ⟨hb1,hb2⟩) (Heap.get?_push_of_some _ (Heap.get?_push_of_some _ e))
    ·obtain ⟨ol,hol,hcl,nl,hdl⟩:=hl
     obtain ⟨ocls,odict,odata,oslots⟩:=ol
     simp only at hcl hdl
     subst hcl; subst hdl
     have hol' : (s.heap.push { cls:=.type "set",dict:=none,data:=.set #[] 0 (.fresh 0 0 led) }).get? l = some { cls:=.type "tuple",dict:=odict,data:=.seq items nl,slots:=oslots }:=Heap.get?_push_of_some _ hol
     have hsls:=F.sub_tuple_set
     have hslf:=F.sub_tuple_frozenset
     have hne : (Value.type "tuple" == Value.type "dict") = false:=by decide
     have hl1 : (s.heap.push { cls:=.type "set",dict:=none,data:=.set #[] 0 (.fresh 0 0 led) }).IsTuple l items:=⟨_,hol',rfl,nl,rfl⟩
     unfold Builtin.«set.__init__» noKeywords Builtin.Frozenset.updateFrom
     generalize hPI : pyIter = PI
     wp_walk
     subst hPI
     refine wpAny_pyIter_tuple hl1 ?_
     refine wpAny_bind (wpAny_runValue ?_)
     have hlS : l < s.heap.objs.size:=Heap.lt_size hol
     have hh3 : A.in1.in1.in1.handled = none:=by simp [hh]
     have hneI : l≠(s.heap.push { cls:=.type "set",dict:=none,data:=.set #[] 0 (.fresh 0 0 led) }).objs.size:=by
      rw [Heap.size_push]; exact Nat.ne_of_lt (Nat.lt_succ_of_lt hlS)
     have hSf : s.heap.objs.size∉[(s.heap.push { cls:=.type "set",dict:=none,data:=.set #[] 0 (.fresh 0 0 led) }).objs.size,l]:=by
      rw [Heap.size_push]; simp only [List.mem_cons,List.not_mem_nil,or_false,not_or]
      exact ⟨Nat.ne_of_lt (Nat.lt_succ_self _),Nat.ne_of_gt hlS⟩
     refine update_loop (knd:=knd) ((Walks.tuple hh3 _ l hneI items).toS) s.heap.objs.size hSf (hroom _ (by show A.units + 1 + 1 + 1≤_; omega)) s.heap (Nat.le_refl _) ?hwr ?hnt kf hval hb (items.size - 0) 0 _ [] (by omega) (Nat.zero_le _)
      ⟨⟨_,Heap.get?_push_size _ rfl,rfl,rfl⟩,(hl1.push _)⟩ ?hold ?hS0 ?hm ?hR
     case hwr =>
      intro b hb'
      have:=List.mem_singleton.mp hb'
      rw [this,Heap.size_push]; omega
     case hnt =>
      intro i s' hst b hb' o e
      obtain rfl:=List.mem_singleton.mp hb'
      obtain ⟨⟨o',ho',hc',_⟩,_⟩:=hst
      rw [ho'] at e; cases e
      rw [hc']; decide
     case hold=>exact fun b o e=>Heap.get?_push_of_some _ (Heap.get?_push_of_some _ e)
     case hS0=>exact fresh_set (Heap.get?_push_of_some _ hS)
     case hm =>
      intro x
      constructor
      ·intro q; cases q
      ·rintro ⟨j,hj,_⟩; omega
     case hR =>
      intro s' ks' hm hS' hq
      obtain ⟨h',g',d',tk',os'⟩:=s'
      have eg : g' = s.gens:=hm.gens
      have ed : d' = s.drawn:=hm.drawn
      have eo : os' = s.os:=hm.os
      subst eg; subst ed; subst eo
      show wpAny _ _ _ _ _ _
      refine wpAny_pure ?_
      show wpAny _ _ (ret Value.none) _ _ _
      refine wpAny_pure ⟨rfl,h',tk',ks',rfl,hS',hq,fun b o hb e=>?_⟩
      have hb1 : b≠s.heap.objs.size:=Nat.ne_of_lt hb
      have hb2 : b≠(s.heap.push { cls:=.type "set",dict:=none,data:=.set #[] 0 (.fresh 0 0 led) }).objs.size:=by
       rw [Heap.size_push]; exact Nat.ne_of_lt (Nat.lt_succ_of_lt hb)
      exact hm.heap b o (by simp only [List.mem_cons,List.not_mem_nil,or_false,not_or]; exact ⟨hb1,hb2⟩) (Heap.get?_push_of_some _ (Heap.get?_push_of_some _ e))
   ·cases r₂ with
    | error e=>exact hr₂
    | ok fl₂ =>
     cases fl₂ with
     | ret r =>
      obtain ⟨rfl,h',tk,ks,rfl,hS',hq,hk'⟩:=hr₂
      repeat (any_goals (first | assumption | wp_step))
      exact h _ _ _ hS' hq hk'
     | _=>exact hr₂.elim
  | _=>exact hr.elim
end
end SK
end
section
namespace KS
open PySem PyProof.Rows
abbrev Kept (h h' : Heap) : Prop:=∀ b o,h.get? b = some o→h'.get? b = some o
abbrev ish : Nat→Bool:=fun _=>false
section
variable {prog : Program} {w : World} {A : Around} {E : Value→Shared→Prop} {s : Shared}
theorem tailK {a kS : Addr} {keys : Array Value} {e e1 : Nat} {P : Fin→Shared→Prop} {st : SortSt}
 (hk : s.heap.get? kS = some (seqObj "list" keys e)) (ha : s.heap.get? a = some (seqObj "list" #[] e1)) (hne : kS≠a) (hz : keys.size≤sizeLine) (hz2 : (arrOf st).size≤sizeLine) (hf : failedOf st = none)
 (h : P (.done (.ret .none)) { s with heap:=(s.heap.update kS (Obj.mapSeq fun _=>#[])).update a (Obj.mapSeq fun _=>(arrOf st).map (·.2)) }) :
 wpAny (model prog w) A (ksk_tail a false e1 (.ref kS) st) P E s:=by
 have ha1 : (s.heap.update kS (Obj.mapSeq fun _=>#[])).get? a = some (seqObj "list" #[] e1):=by
  rw [Heap.get?_update_ne _ _ _ _ (Ne.symm hne)]; exact ha
 unfold ksk_tail
 refine wpAny_bind (listUpdate_at hk rfl ?_ hz (Nat.zero_le _))
 refine wpAny_bind (wpAny_letGo ?_)
 refine wpAny_bind (seqEpoch_at ha1 rfl ?_)
 refine wpAny_bind (listUpdate_at ha1 rfl ?_ (Nat.zero_le _) ?_)
 ·rw [hf]
  simp only [bne_self_eq_false,Bool.false_eq_true,if_false]
  exact wpAny_pure h
 ·simp only [Bool.false_eq_true,if_false]
  rw [Array.size_map]; omega
def Out (κ : PyProof.Rows.KeyKind) (keys : Array Value) (vs : List Value) (arr : Array Keyed) : Prop:=arr.Perm (keys.zip vs.toArray)∧SortedToK κ arr arr.size
theorem endK {a kS : Addr} {vs : List Value} {keys : Array Value} {fs : List Value} {e e1 : Nat} {P : Fin→Shared→Prop}
 (hk : s.heap.get? kS = some (seqObj "list" keys e)) (ha : s.heap.get? a = some (seqObj "list" #[] e1)) (hne : kS≠a) (hz : vs.length≤sizeLine) (hl : keys.size = vs.length)
 (ht : TupsOf s.heap ish keys.toList fs) (hK : ∀ v∈keys.toList,∃ l,G.tupKeyC s.heap ish v = some l)
 (h : ∀ arr : Array Keyed,Out (G.tupKindC s.heap ish) keys vs arr→P (.done (.ret .none)) { s with heap:=(s.heap.update kS (Obj.mapSeq fun _=>#[])).update a (Obj.mapSeq fun _=>arr.map (·.2)) }) :
 wpAny (model prog w) A (ksk_end a false vs.toArray e1 (.ref kS) keys) P E s:=by
 have hzs : (keys.zip vs.toArray).size = vs.length:=by have h0 : vs.toArray.size = vs.length:=List.size_toArray; rw [Array.size_zip,h0,hl,Nat.min_self]
 have hKO : PyProof.Rows.KeysOf (G.tupKindC s.heap ish) (keys.zip vs.toArray):=fun p hp=>by
  rw [ksk_zip] at hp
  exact hK _ (List.of_mem_zip hp).1
 unfold ksk_end
 simp only [Bool.false_eq_true,if_false]
 by_cases h2 : vs.toArray.size < 2
 ·simp only [if_pos h2]
  refine wpAny_bind (wpAny_pure ?_)
  rw [StateT.run_pure]
  refine wpAny_bind (wpAny_pure ?_)
  refine tailK hk ha hne (by rw [hl]; exact hz) (by show (keys.zip vs.toArray).size≤_; rw [hzs]; exact hz) rfl (h _ ⟨Array.Perm.refl _,fun i j hij hj=>?_⟩)
  have hj' : j < vs.length:=by
   have : j < (keys.zip vs.toArray).size:=hj
   rwa [hzs] at this
  rw [List.size_toArray] at h2
  have e1 : i = j:=by omega
  subst e1
  show (G.tupKindC s.heap ish).blt _ _ = false
  exact (G.tupKindC s.heap ish).irrefl _
 ·simp only [if_neg h2]
  rw [List.size_toArray] at h2
  have hfl : 0 < fs.length:=by have h3 : fs.length = keys.toList.length:=G.TupsOf.length ht; rw [h3]; show 0 < keys.size; omega
  have tk : ∀ {Q : SortKind→Shared→Prop},Q (tuples' true) s→wpAny (model prog w) A (keyKind' keys) Q E s:=fun {Q} hq=>by
   have:=tup_kind (M:=model prog w) (A:=A) (E:=E) (s:=s) (Q:=Q) hfl ht hq
   rwa [Array.toArray_toList] at this
  refine wpAny_bind (tk ?_)
  refine wpAny_bind (wpAny_mono (G.wpS_sortRunsSt (kd:=tuples' true) (a₀:=keys.zip vs.toArray) (κ:=G.tupKindC s.heap ish) (Q:=fun _ st'=>(arrOf st').Perm (keys.zip vs.toArray)∧failedOf st' = none∧SortedToK (G.tupKindC s.heap ish) (arrOf st') (keys.zip vs.toArray).size)
   (G.tupC_ltAt true (G.KeepsTups.refl _)) hKO ⟨Array.Perm.refl _,rfl,rfl⟩ rfl (fun _=>rfl) (by rw [hzs]; omega) fun st' a1 a2 a3 _=>⟨a1,a2,a3⟩) (fun r s' hr=>?_) fun _ _ q=>q)
  obtain ⟨⟨⟩,st'⟩:=r
  obtain ⟨rfl,hp,hf,hs⟩:=hr
  have es:=Array.Perm.size_eq hp
  refine tailK hk ha hne (by rw [hl]; exact hz) (by rw [es,hzs]; exact hz) hf (h _ ⟨hp,?_⟩)
  rw [es]; exact hs
def Turn (prog : Program) (w : World) (A : Around) (f : Value) (s0 : Shared) (v n : Value) : Prop:=∀ (h : Heap) (tk : Nat),Kept s0.heap h →
 wpAny (model prog w) A (call f [v]) (fun r s'=>r = n∧∃ h' tk',s' = { s0 with heap:=h',toks:=tk' }∧Kept h h') (fun _ _=>False) { s0 with heap:=h,toks:=tk }
theorem keyC_keep {h h' : Heap} {v : Value} {l : List (Int ⊕ List Nat)} (k : Kept h h') (e : G.tupKeyC h ish v = some l) : G.tupKeyC h' ish v = some l:=by
 obtain ⟨a,o,xs,n,rfl,h1,h2,h3,h4⟩:=G.tupKeyC_some e
 have h1':=k _ _ h1
 unfold G.tupKeyC G.isTupObj tupKey
 simp only [h1',h2,h3]
 simpa using h4
theorem tups_keep {h h' : Heap} (k : Kept h h') : G.KeepsTups h h':=fun b o e _=>k b o e
theorem seq_up {h : Heap} {a : Addr} {xs : Array Value} {n : Nat} (e : h.get? a = some (seqObj "list" xs n)) (f : Array Value→Array Value) : ∃ c,(h.update a (Obj.mapSeq f)).get? a = some (seqObj "list" (f xs) c):=⟨_,get?_update_seq e f⟩
theorem kept_up {h h' : Heap} {a : Addr} {f : Obj→Obj} (k : Kept h h') (ha : h.objs.size≤a) : Kept h (h'.update a f):=fun b o e=>by
 rw [Heap.get?_update_ne _ _ _ _ (Nat.ne_of_lt (Nat.lt_of_lt_of_le (Heap.lt_size e) ha))]; exact k b o e
theorem restK {s0 : Shared} {a kS : Addr} {vs ns fs : List Value} {e1 : Nat} {P : Fin→Shared→Prop} {f : Value} (es : ∃ h tk,s = { s0 with heap:=h,toks:=tk })
 (hkp : Kept s0.heap s.heap) (hkS : s0.heap.objs.size≤kS) (haS : s0.heap.objs.size≤a) (hk : s.heap.get? kS = some (seqObj "list" #[] 0)) (ha : s.heap.get? a = some (seqObj "list" #[] e1)) (hne : kS≠a) (hz : vs.length≤sizeLine) (hl : ns.length = vs.length)
 (ht : TupsOf s0.heap ish ns fs) (hK : ∀ v∈ns,∃ l,G.tupKeyC s0.heap ish v = some l) (turn : ∀ (i : Nat) (v n : Value),vs[i]? = some v→ns[i]? = some n→Turn prog w A f s0 v n)
 (h : ∀ (arr : Array Keyed) (h' : Heap) (tk c : Nat),Kept s0.heap h'→h'.get? a = some (seqObj "list" (arr.map (·.2)) c)→(∃ g,Kept s0.heap g∧Out (G.tupKindC g ish) ns.toArray vs arr)→P (.done (.ret .none)) { s0 with heap:=h',toks:=tk }) :
 wpAny (model prog w) A (ksk_rest a f false vs.toArray e1 (.ref kS)) P E s:=by
 obtain ⟨h0,tk0,rfl⟩:=es
 unfold ksk_rest
 refine wpAny_bind (wpAny_rule ?_)
 rw [List.forIn_toArray]
 refine wpAny_bind (ksk_fold (fun i s'=>∃ h' tk e,s' = { s0 with heap:=h',toks:=tk }∧Kept s0.heap h'∧h'.get? kS = some (seqObj "list" (ns.take i).toArray e)∧h'.get? a = some (seqObj "list" #[] e1)) vs 0 _ ⟨h0,tk0,0,rfl,hkp,by simpa using hk,ha⟩ ?_ ?_)
 ·rintro j x s' hx ⟨h',tk,e,rfl,k1,k2,k3⟩
  rw [Nat.zero_add] at k2 ⊢
  have hj:=(List.getElem?_eq_some_iff.mp hx).1
  have hn : ns[j]? = some ns[j]:=List.getElem?_eq_getElem (by omega)
  refine wpAny_bind (wpAny_attempt (wpAny_mono (turn j x _ hx hn h' tk k1) (fun r s'' hr=>?_) fun _ _ q=>q.elim))
  obtain ⟨rfl,g,tk2,rfl,kg⟩:=hr
  obtain ⟨c2,hc2⟩:=seq_up (kg _ _ k2) fun x=>x.push ns[j]
  have hs : ((ns.take j).toArray).size≤sizeLine:=by rw [List.size_toArray,List.length_take]; omega
  refine wpAny_bind (listUpdate_at (kg _ _ k2) rfl (wpAny_pure ⟨rfl,_,tk2,c2,rfl,kept_up (fun b o q=>kg b o (k1 b o q)) hkS,?_,?_⟩) hs ?_)
  ·rw [hc2,List.take_add_one,hn]; simp
  ·rw [Heap.get?_update_ne _ _ _ _ (Ne.symm hne)]; exact kg _ _ k3
  ·rw [Array.size_push]; omega
 ·rintro s' ⟨h',tk,e,rfl,k1,k2,k3⟩
  rw [Nat.zero_add,← hl,List.take_length] at k2
  refine wpAny_bind (listItems_at k2 rfl ?_)
  refine endK (fs:=fs) k2 k3 hne hz (by rw [List.size_toArray]; exact hl) (G.TupsOf.keep (tups_keep k1) ht) (fun v hv=>let ⟨l,q⟩:=hK v hv; ⟨l,keyC_keep k1 q⟩) fun arr ho=>?_
  have k4 : (h'.update kS (Obj.mapSeq fun _=>#[])).get? a = some (seqObj "list" #[] e1):=by rw [Heap.get?_update_ne _ _ _ _ (Ne.symm hne)]; exact k3
  obtain ⟨c,hc⟩:=seq_up k4 fun _=>arr.map (·.2)
  exact h arr _ tk c (kept_up (kept_up k1 hkS) haS) hc ⟨h',k1,ho⟩
theorem sortK {s0 : Shared} {a : Addr} {vs ns fs : List Value} {P : Fin→Shared→Prop} {f : Value} {n : Nat} (es : ∃ h tk,s = { s0 with heap:=h,toks:=tk })
 (hkp : Kept s0.heap s.heap) (haS : s0.heap.objs.size≤a) (ho : s.heap.get? a = some (seqObj "list" vs.toArray n)) (hz : vs.length≤sizeLine) (hl : ns.length = vs.length)
 (ht : TupsOf s0.heap ish ns fs) (hK : ∀ v∈ns,∃ l,G.tupKeyC s0.heap ish v = some l) (turn : ∀ (i : Nat) (v n : Value),vs[i]? = some v→ns[i]? = some n→Turn prog w A f s0 v n)
 (h : ∀ (arr : Array Keyed) (h' : Heap) (tk c : Nat),Kept s0.heap h'→h'.get? a = some (seqObj "list" (arr.map (·.2)) c)→(∃ g,Kept s0.heap g∧Out (G.tupKindC g ish) ns.toArray vs arr)→P (.done (.ret .none)) { s0 with heap:=h',toks:=tk }) :
 wpAny (model prog w) A (ksk_tree a f false) P E s:=by
 obtain ⟨h0,tk0,rfl⟩:=es
 obtain ⟨e1,he1⟩:=seq_up ho fun _=>#[]
 have ha : a < h0.objs.size:=Heap.lt_size ho
 unfold ksk_tree
 refine wpAny_bind (listItems_at ho rfl ?_)
 refine wpAny_bind (listUpdate_at ho rfl ?_ (by rw [List.size_toArray]; exact hz) (Nat.zero_le _))
 refine wpAny_bind (seqEpoch_at he1 rfl ?_)
 refine wpAny_bind (wpAny_newTuple ?_ (by simpa using hz))
 refine wpAny_bind (wpAny_newList ?_ (Nat.zero_le _))
 refine wpAny_holding ?_
 have k0 : Kept s0.heap (((h0.update a (Obj.mapSeq fun _=>#[])).push (seqObj "tuple" vs.toArray 0)).push (seqObj "list" #[] 0)):=fun b o q =>
  Heap.get?_push_of_some _ (Heap.get?_push_of_some _ (kept_up hkp haS b o q))
 have hkS : ((h0.update a (Obj.mapSeq fun _=>#[])).push (seqObj "tuple" vs.toArray 0)).objs.size = h0.objs.size + 1:=by rw [size_push',Heap.size_update]
 have hge : s0.heap.objs.size≤h0.objs.size:=Nat.le_trans haS (Nat.le_of_lt ha)
 refine restK (s0:=s0) (fs:=fs) (ns:=ns) ⟨_,_,rfl⟩ k0 ?_ haS (Heap.get?_push_size _ rfl) (Heap.get?_push_of_some _ (Heap.get?_push_of_some _ he1)) ?_ hz hl ht hK turn h
 ·rw [hkS]; omega
 ·rw [hkS]; exact Nat.ne_of_gt (Nat.lt_succ_of_lt ha)
theorem sortedK {l q : Addr} {vs ns fs : List Value} {Q : Value→Shared→Prop} (hl0 : s.heap.IsList l vs.toArray) (hz : vs.length≤sizeLine) (hl : ns.length = vs.length)
 (ha1 : argsOk "sorted" { pos:=[.ref l],kw:=[("key",.ref q)] }) (ha2 : ∀ x : Addr,argsOk "list.sort" { pos:=[.ref x],kw:=[("key",.ref q)] })
 (ht : TupsOf s.heap ish ns fs) (hK : ∀ v∈ns,∃ l,G.tupKeyC s.heap ish v = some l) (turn : ∀ (i : Nat) (v n : Value),vs[i]? = some v→ns[i]? = some n→Turn prog w A.in1.in1 (.ref q) s v n)
 (h : ∀ (arr : Array Keyed) (D : Addr) (h' : Heap) (tk c : Nat),Kept s.heap h'→s.heap.objs.size≤D→h'.get? D = some (seqObj "list" (arr.map (·.2)) c)→(∃ g,Kept s.heap g∧Out (G.tupKindC g ish) ns.toArray vs arr)→Q (.ref D) { s with heap:=h',toks:=tk }) :
 wpAny (model prog w) A (call (.builtin "sorted") [.ref l] [("key",.ref q)]) Q E s:=by
 refine call_function_entry_kw kind_sorted plain_sorted entry_sorted ha1 ?_
 refine wpAny_bind (wpAny_pure ?_)
 refine wpAny_bind (collect_list hl0 ?_ hz)
 refine wpAny_bind (wpAny_newList ?_ hz)
 have hsz : ((s.heap.push (seqObj "list" #[] 0)).update s.heap.objs.size (Obj.mapSeq fun x=>x ++ vs.toArray)).objs.size = s.heap.objs.size + 1:=by rw [Heap.size_update,size_push']
 have k0 : Kept s.heap (((s.heap.push (seqObj "list" #[] 0)).update s.heap.objs.size (Obj.mapSeq fun x=>x ++ vs.toArray)).push (seqObj "list" vs.toArray 0)):=fun b o q =>
  Heap.get?_push_of_some _ (kept_up (fun b o q=>Heap.get?_push_of_some _ q) (Nat.le_refl _) b o q)
 have hoL : (((s.heap.push (seqObj "list" #[] 0)).update s.heap.objs.size (Obj.mapSeq fun x=>x ++ vs.toArray)).push (seqObj "list" vs.toArray 0)).get? (s.heap.objs.size + 1) = some (seqObj "list" vs.toArray 0):=by
  rw [← hsz]; exact Heap.get?_push_size _ rfl
 show wpAny (model prog w) A.in1 (holding [Value.ref ((s.heap.push (seqObj "list" #[] 0)).update s.heap.objs.size (Obj.mapSeq fun x=>x ++ vs.toArray)).objs.size] (call (Value.builtin "list.sort") [Value.ref ((s.heap.push (seqObj "list" #[] 0)).update s.heap.objs.size (Obj.mapSeq fun x=>x ++ vs.toArray)).objs.size] _) >>= _) _ E _
 rw [hsz]
 refine wpAny_bind (wpAny_holding (wpAny_call_entry_kw slot_list_sort ⟨_,hoL,rfl⟩ entry_list_sort ?_ (ha2 _)))
 show wpAny (model prog w) A.in1.in1 (Builtin.«list.sort» { pos:=[Value.ref (s.heap.objs.size + 1)],kw:=[(Str.ofString "key",Value.ref q)] }) _ E _
 rw [ksk_t1]
 refine sortK (s0:=s) (vs:=vs) (ns:=ns) (fs:=fs) ⟨_,_,rfl⟩ k0 (Nat.le_succ _) hoL hz hl ht hK turn fun arr h' tk c k1 k2 k3=>⟨_,rfl,wpAny_pure ⟨_,rfl,h arr _ h' tk c k1 (Nat.le_succ _) k2 k3⟩⟩
end
def intsOf (l : List (Int ⊕ List Nat)) : List Int:=l.map fun x=>match x with | .inl i=>i | .inr _=>0
def inls (l : List Int) : List (Int ⊕ List Nat):=l.map Sum.inl
theorem ints_inls (l : List Int) : intsOf (inls l) = l:=by
 unfold intsOf inls; rw [List.map_map]
 induction l with
 | nil=>rfl
 | cons a l ih=>rw [List.map_cons,ih]; rfl
theorem out_pure {h g : Heap} {ns vs : List Value} {kl : List (List Int)} {arr : Array Keyed} (hl : ns.length = vs.length) (kg : Kept h g) (hk : ∀ (i : Nat) (v : Value) (k : List Int),ns[i]? = some v→kl[i]? = some k→G.tupKeyC h ish v = some (inls k)) (hl2 : kl.length = ns.length)
 (ho : Out (G.tupKindC g ish) ns.toArray vs arr) : ∃ zs : List (List Int × Value),zs.Perm (kl.zip vs)∧(arr.map (·.2)).toList = zs.map (·.2)∧zs.Pairwise fun p q=>PyProof.Rows.lexLt itemOrd (inls q.1) (inls p.1) = false:=by
 obtain ⟨hp,hs⟩:=ho
 let kf : Value→List Int:=fun v=>intsOf ((G.tupKeyC g ish v).getD [])
 have hg : ∀ (i : Nat) (v : Value) (k : List Int),ns[i]? = some v→kl[i]? = some k→G.tupKeyC g ish v = some (inls k):=fun i v k a b=>keyC_keep kg (hk i v k a b)
 have hmap : ns.map kf = kl:=by
  refine List.ext_getElem? fun i=>?_
  rw [List.getElem?_map]
  cases e : ns[i]? with
  | none =>
   have : kl[i]? = none:=List.getElem?_eq_none (by rw [hl2]; exact List.getElem?_eq_none_iff.mp e)
   rw [this]; rfl
  | some v =>
   have hi:=(List.getElem?_eq_some_iff.mp e).1
   have e2 : kl[i]? = some kl[i]:=List.getElem?_eq_getElem (by omega)
   rw [e2]
   show some (kf v) = _
   show some (intsOf ((G.tupKeyC g ish v).getD [])) = _
   rw [hg i v _ e e2]
   show some (intsOf (inls _)) = _
   rw [ints_inls]
 have hpl : arr.toList.Perm (ns.zip vs):=by
  have:=Array.perm_iff_toList_perm.mp hp
  rwa [ksk_zip] at this
 have hkey : ∀ p∈arr.toList,G.tupKeyC g ish p.1 = some (inls (kf p.1)):=fun p hpm=>by
  have hm:=hpl.mem_iff.mp hpm
  obtain ⟨i,hi,e⟩:=List.mem_iff_getElem.mp (List.of_mem_zip hm).1
  have e1 : ns[i]? = some p.1:=by rw [List.getElem?_eq_getElem hi,e]
  have e2 : kl[i]? = some kl[i]:=List.getElem?_eq_getElem (by omega)
  have:=hg i _ _ e1 e2
  rw [this]
  show some _ = some (inls (intsOf ((G.tupKeyC g ish p.1).getD [])))
  rw [this]
  show _ = some (inls (intsOf (inls _)))
  rw [ints_inls]
 refine ⟨arr.toList.map fun p=>(kf p.1,p.2),?_,?_,?_⟩
 ·have : kl.zip vs = (ns.zip vs).map fun p=>(kf p.1,p.2):=by
   rw [← hmap,List.zip_map_left]; rfl
  rw [this]
  exact hpl.map _
 ·rw [Array.toList_map,List.map_map]; rfl
 ·rw [List.pairwise_map,List.pairwise_iff_getElem]
  intro i j hi hj hij
  have q : (G.tupKindC g ish).blt (KK (G.tupKindC g ish) arr j) (KK (G.tupKindC g ish) arr i) = false:=hs i j (Nat.le_of_lt hij) (by simpa using hj)
  have kk : ∀ (m : Nat) (hm : m < arr.toList.length),KK (G.tupKindC g ish) arr m = inls (kf arr.toList[m].1):=fun m hm=>by
   unfold KK
   have e : arr[m]? = some arr.toList[m]:=by rw [← Array.getElem?_toList,List.getElem?_eq_getElem hm]
   rw [e]
   show (G.tupKeyC g ish arr.toList[m].1).getD [] = _
   rw [hkey _ (List.getElem_mem hm)]
   rfl
  rw [kk i hi,kk j hj] at q
  exact q
end KS
end
section
set_option maxRecDepth 100000
namespace L2
open PySem PySem.Spec PyProof.Rows
abbrev Key:=Sum Int Str
def keyIs : Key→Value→Bool
 | .inl k,v=>Value.isInt k v
 | .inr x,v=>Value.isStrOf x v
def keyH (w : World) : Key→Int
 | .inl k=>hashInt k
 | .inr x=>hashStr w x
theorem keyIs_shape : ∀ {k : Key} {v : Value},keyIs k v = true→(∃ i t,k = Sum.inl i∧v = Value.int i t)∨(∃ x t,k = Sum.inr x∧v = Value.str x t)
 | .inl i,v,h=>by
  obtain ⟨t,e⟩:=Value.isInt_shape (k:=i) (v:=v) h
  exact .inl ⟨i,t,rfl,e⟩
 | .inr x,v,h=>by
  obtain ⟨t,e⟩:=Value.isStrOf_shape (x:=x) (v:=v) h
  exact .inr ⟨x,t,rfl,e⟩
theorem key_ll (a b : Int) : decide ((Sum.inl a : Key) = Sum.inl b) = (a == b):=by
 by_cases e : a = b
 ·subst e; simp
 ·have h : ¬ (Sum.inl a : Key) = Sum.inl b:=fun q=>e (Sum.inl.inj q)
  rw [decide_eq_false h]
  exact (beq_eq_false_iff_ne.mpr e).symm
theorem key_rr (a b : Str) : decide ((Sum.inr a : Key) = Sum.inr b) = decide (a = b):=by
 by_cases e : a = b
 ·subst e; simp
 ·have h : ¬ (Sum.inr a : Key) = Sum.inr b:=fun q=>e (Sum.inr.inj q)
  rw [decide_eq_false h,decide_eq_false e]
theorem key_lr (a : Int) (b : Str) : decide ((Sum.inl a : Key) = Sum.inr b) = false:=decide_eq_false (fun q=>nomatch q)
theorem key_rl (a : Str) (b : Int) : decide ((Sum.inr a : Key) = Sum.inl b) = false:=decide_eq_false (fun q=>nomatch q)
def mixKind (prog : Program) (w : World) : PySem.KeyKind prog w Key where
 is:=keyIs
 hash:=keyH w
 inj:=fun v a b ha hb=>by
  rcases keyIs_shape ha with ⟨i,t,rfl,rfl⟩ | ⟨x,t,rfl,rfl⟩
  ·rcases keyIs_shape hb with ⟨j,u,rfl,e⟩ | ⟨y,u,rfl,e⟩
   ·injection e with e1 _; rw [e1]
   ·exact nomatch e
  ·rcases keyIs_shape hb with ⟨j,u,rfl,e⟩ | ⟨y,u,rfl,e⟩
   ·exact nomatch e
   ·injection e with e1 _; rw [e1]
 byValue:=fun k v h=>by
  rcases keyIs_shape h with ⟨i,t,rfl,rfl⟩ | ⟨x,t,rfl,rfl⟩ <;> rfl
 pyHash:=fun hv h=>by
  rcases keyIs_shape hv with ⟨i,t,rfl,rfl⟩ | ⟨x,t,rfl,rfl⟩
  ·exact wpAny_pyHash_int h
  ·exact wpAny_pyHash_str h
 eqBool:=fun hu hv h=>by
  rcases keyIs_shape hu with ⟨i,t,rfl,rfl⟩ | ⟨x,t,rfl,rfl⟩
  ·rcases keyIs_shape hv with ⟨j,u,rfl,rfl⟩ | ⟨y,u,rfl,rfl⟩
   ·rw [key_ll] at h; exact wpAny_eqBool_int h
   ·rw [key_lr] at h; exact SeqAt.EqAt.int_str i t y u _ _ _ _ h
  ·rcases keyIs_shape hv with ⟨j,u,rfl,rfl⟩ | ⟨y,u,rfl,rfl⟩
   ·rw [key_rl] at h; exact SeqAt.EqAt.str_int x t j u _ _ _ _ h
   ·rw [key_rr] at h; exact wpAny_eqBool_str h
 «strs»:=fun k x t v h=>by
  rcases keyIs_shape h with ⟨i,u,rfl,e⟩ | ⟨y,u,rfl,e⟩
  ·exact nomatch e
  ·injection e with e1 _
   subst e1
   cases v <;> rfl
end L2
namespace L2
open PySem PySem.Spec PyProof.Rows
inductive V where
 | non | bl (b : Bool) | int (i : Int) | str (x : Str) | byt (b : Array UInt8) | flt (b : UInt64) | ref (a : Addr) | ty (n : String)
 deriving DecidableEq
def RelV : V→Value→Prop
 | .non,u=>u = Value.none
 | .bl b,u=>u = Value.bool b
 | .int i,u=>∃ t,u = Value.int i t
 | .str x,u=>∃ t,u = Value.str x t
 | .byt b,u=>∃ t,u = Value.bytes b t
 | .flt b,u=>∃ t,u = Value.float b t
 | .ref a,u=>u = Value.ref a
 | .ty n,u=>u = Value.type n
abbrev Vals : List V→List Value→Prop:=Paired RelV
theorem Vals.length {xs : List V} {us : List Value} (r : Vals xs us) : xs.length = us.length:=Paired.length r
theorem Vals.get : ∀ {xs : List V} {us : List Value} {i : Nat} {x : V},Vals xs us→xs[i]? = some x→∃ u,us[i]? = some u∧RelV x u
 | _,_,_,_,.nil,e=>by simp at e
 | _,_,0,_,.cons r _,e=>by simp at e; subst e; exact ⟨_,rfl,r⟩
 | _,_,i + 1,x,.cons _ t,e=>by
  obtain ⟨u,h1,h2⟩:=Vals.get (i:=i) (x:=x) t (by simpa using e)
  exact ⟨u,by simpa using h1,h2⟩
theorem Vals.set {x : V} {u : Value} (r : RelV x u) : ∀ {xs : List V} {us : List Value} (i : Nat),Vals xs us→Vals (xs.set i x) (us.set i u)
 | _,_,_,.nil=>.nil
 | _,_,0,.cons _ t=>.cons r t
 | _,_,i + 1,.cons q t=>.cons q (Vals.set r i t)
theorem Vals.append : ∀ {xs ys : List V} {us ws : List Value},Vals xs us→Vals ys ws→Vals (xs ++ ys) (us ++ ws)
 | _,_,_,_,.nil,s=>s
 | _,_,_,_,.cons r t,s=>.cons r (Vals.append t s)
theorem Vals.take : ∀ {xs : List V} {us : List Value} (n : Nat),Vals xs us→Vals (xs.take n) (us.take n)
 | _,_,0,_=>.nil
 | _,_,_ + 1,.nil=>.nil
 | _,_,n + 1,.cons r t=>.cons r (Vals.take n t)
theorem Vals.drop : ∀ {xs : List V} {us : List Value} (n : Nat),Vals xs us→Vals (xs.drop n) (us.drop n)
 | _,_,0,r=>r
 | _,_,_ + 1,.nil=>.nil
 | _,_,n + 1,.cons _ t=>Vals.drop n t
def RelO : Option V→Option Value→Prop
 | some v,some u=>RelV v u
 | none,none=>True
 | _,_=>False
def KV {κ : Type} : List (κ × V)→List (κ × Value)→Prop:=Paired fun (p : κ × V) (q : κ × Value)=>p.1 = q.1∧RelV p.2 q.2
def kV : Key→V
 | .inl i=>.int i
 | .inr x=>.str x
inductive HO where
 | lst (xs : List V)
 | tup (xs : List V)
 | dK (kvs : List (Key × V)) | dT (kvs : List (List Key × V))
 | set (S : Int→Bool) (n : Nat)
 | ins (C dx : Addr) (fs : List (Str × V))
 | own (x : Addr)
 | xd (fs : List (Str × V))
 | met (f x : Addr)
 | rng (lo hi : Int)
 | frz (o : Obj) (u : HO)
 | tbl (ps : Array Value)
 | ext (φ : Heap→Prop)
abbrev Hp:=Addr→Option HO
def upd (H : Hp) (a : Addr) (o : HO) : Hp:=fun b=>if b = a then some o else H b
theorem upd_same {H : Hp} {a : Addr} {o : HO} : upd H a o a = some o:=by unfold upd; rw [if_pos rfl]
theorem upd_ne {H : Hp} {a b : Addr} {o : HO} (h : b≠a) : upd H a o b = H b:=by unfold upd; rw [if_neg h]
theorem upd_upd {H : Hp} {a : Addr} {o u : HO} : upd (upd H a o) a u = upd H a u:=by
 funext b; unfold upd; split <;> rfl
theorem ne_of {H : Hp} {a b : Addr} {o u : HO} (h : H a = some o) (h' : H b = some u) (d : o≠u) : a≠b:=by
 intro e; subst e; rw [h] at h'; exact d (Option.some.inj h')
theorem ne_of_none {H : Hp} {a b : Addr} {o : HO} (h : H a = some o) (h' : H b = none) : a≠b:=by
 intro e; subst e; rw [h] at h'; cases h'
section
variable (P : Program) (w : World)
def ObjOk (H : Hp) (h : Heap) (a : Addr) : HO→Prop
 | .lst xs=>xs.length≤sizeLine∧∃ (its : List Value) (n : Nat),Vals xs its∧h.get? a = some { cls:=.type "list",data:=.seq its.toArray n }
 | .tup xs=>xs.length≤sizeLine∧∃ its : List Value,Vals xs its∧IsTup h a its.toArray
 | .dK kvs=>kvs.length≤sizeLine∧(a == sysModules) = false∧∃ vs,KV kvs vs∧h.DictOf (mixKind P w) a vs
 | .dT kvs=>kvs.length≤sizeLine∧(a == sysModules) = false∧∃ xs : List (List Key × Addr × Value),
  Paired (fun (p : List Key × V) (q : List Key × Addr × Value)=>p.1 = q.1∧H q.2.1 = some (.tup (p.1.map kV))∧RelV p.2 q.2.2) kvs xs ∧
  ∃ o es ep,h.get? a = some o∧o.ExactDict∧o.data = .dict es ep∧es.toList = xs.map (entryOfKey (tupleKind (mixKind P w)))∧(xs.map (·.1)).Nodup
 | .set S n=>h.SetOf (intKind P w) a S n
 | .ins C dx fs=>H dx = some (.own a)∧fs.length≤1000∧dx≠a∧h.get? a = some (PySem.W.instObj C dx) ∧
  ∃ mA,h.Ns1 dx mA∧(∀ f,RelO (fs.lookup f) (mA f))∧PySem.Within mA (fs.map (·.1))
 | .own _=>∃ o,h.get? a = some o
 | .xd fs=>∃ mA,h.Ns1 a mA∧∀ f,RelO (fs.lookup f) (mA f)
 | .rng lo hi=>∃ t u v,h.get? a = some { cls:=.type "range",data:=.fields #[.int lo t,.int hi u,.int 1 v] }
 | .frz o u=>h.get? a = some o∧ObjOk H h a u
 | .tbl ps=>h.get? a = some { cls:=.none,data:=.fields ps }
 | .met f x=>h.get? a = some (PySem.W.methodObj (.ref f) (.ref x))
 | .ext φ=>φ h∧(∃ o,h.get? a = some o)∧∀ h1 h2 : Heap,φ h1→(∀ o,h1.get? a = some o→h2.get? a = some o)→φ h2
def HOk (H : Hp) (h : Heap) : Prop:=∀ a o,H a = some o→ObjOk P w H h a o
end
section
variable {P : Program} {w : World} {H H' : Hp} {h h' : Heap} {a : Addr} {o : HO}
theorem ObjOk.lt (x : ObjOk P w H h a o) : a < h.objs.size:=by
 cases o with
 | lst xs=>obtain ⟨_,_,_,_,e⟩:=x; exact Heap.lt_size e
 | tup xs=>obtain ⟨_,_,_,p⟩:=x; exact p.lt
 | dK kvs=>obtain ⟨_,_,_,_,o,_,_,e,_⟩:=x; exact Heap.lt_size e
 | dT kvs=>obtain ⟨_,_,_,_,o,_,_,e,_⟩:=x; exact Heap.lt_size e
 | set S n=>obtain ⟨o,_,_,_,e,_⟩:=x; exact Heap.lt_size e
 | ins C dx fs=>obtain ⟨_,_,_,e,_⟩:=x; exact Heap.lt_size e
 | own y=>obtain ⟨_,e⟩:=x; exact Heap.lt_size e
 | xd fs=>obtain ⟨_,⟨_,_,_,e,_⟩,_⟩:=x; exact Heap.lt_size e
 | rng lo hi=>obtain ⟨_,_,_,e⟩:=x; exact Heap.lt_size e
 | frz ob u=>obtain ⟨e,_⟩:=x; exact Heap.lt_size e
 | tbl ps=>exact Heap.lt_size (show h.get? a = some _ from x)
 | met f y=>exact Heap.lt_size (show h.get? a = some _ from x)
 | ext φ=>obtain ⟨_,⟨_,e⟩,_⟩:=x; exact Heap.lt_size e
theorem Paired.mapP {α β : Type} {F G : α→β→Prop} : ∀ {l₁ : List α} {l₂ : List β},Paired F l₁ l₂→(∀ a b,F a b→G a b)→Paired G l₁ l₂
 | _,_,.nil,_=>.nil
 | _,_,.cons r t,f=>.cons (f _ _ r) (Paired.mapP t f)
theorem ObjOk.stay (x : ObjOk P w H h a o) (k : ∀ b u,(b = a∨H b = some (.own a))→h.get? b = some u→h'.get? b = some u)
 (ho : ∀ b,H b = some (.own a)→H' b = some (.own a)) (ht : ∀ b xs,H b = some (.tup xs)→H' b = some (.tup xs)) : ObjOk P w H' h' a o:=by
 induction o with
 | lst xs=>obtain ⟨z,its,n,r,e⟩:=x; exact ⟨z,its,n,r,k _ _ (.inl rfl) e⟩
 | tup xs=>obtain ⟨z,its,r,ob,e,c⟩:=x; exact ⟨z,its,r,ob,k _ _ (.inl rfl) e,c⟩
 | dK kvs=>obtain ⟨z,y,vs,r,ob,es,ep,e,c⟩:=x; exact ⟨z,y,vs,r,ob,es,ep,k _ _ (.inl rfl) e,c⟩
 | dT kvs =>
  obtain ⟨z,y,xs,r,ob,es,ep,e,c⟩:=x
  exact ⟨z,y,xs,Paired.mapP r fun p q z=>⟨z.1,ht _ _ z.2.1,z.2.2⟩,ob,es,ep,k _ _ (.inl rfl) e,c⟩
 | set S n=>obtain ⟨ob,es,ep,t,e,c⟩:=x; exact ⟨ob,es,ep,t,k _ _ (.inl rfl) e,c⟩
 | ins C dx fs =>
  obtain ⟨d,z,ne,e,mA,⟨od,es,ep,e2,c⟩,r⟩:=x
  exact ⟨ho _ d,z,ne,k _ _ (.inl rfl) e,mA,⟨od,es,ep,k _ _ (.inr d) e2,c⟩,r⟩
 | own y=>obtain ⟨ob,e⟩:=x; exact ⟨ob,k _ _ (.inl rfl) e⟩
 | xd fs=>obtain ⟨mA,⟨od,es,ep,e,c⟩,r⟩:=x; exact ⟨mA,⟨od,es,ep,k _ _ (.inl rfl) e,c⟩,r⟩
 | rng lo hi=>obtain ⟨t,u,v,e⟩:=x; exact ⟨t,u,v,k _ _ (.inl rfl) e⟩
 | frz ob u ih=>obtain ⟨e,q⟩:=x; exact ⟨k _ _ (.inl rfl) e,ih q⟩
 | tbl ps =>
  have e : h.get? a = some { cls:=.none,data:=.fields ps }:=x
  show h'.get? a = some { cls:=.none,data:=.fields ps }
  exact k a _ (.inl rfl) e
 | met f y =>
  have e : h.get? a = some (PySem.W.methodObj (.ref f) (.ref y)):=x
  show h'.get? a = some (PySem.W.methodObj (.ref f) (.ref y))
  exact k a _ (.inl rfl) e
 | ext φ=>obtain ⟨p,⟨o,e⟩,st⟩:=x; exact ⟨st _ _ p fun o q=>k _ _ (.inl rfl) q,⟨o,k _ _ (.inl rfl) e⟩,st⟩
theorem HOk.lt (x : HOk P w H h) (e : H a = some o) : a < h.objs.size:=(x a o e).lt
theorem HOk.fresh (x : HOk P w H h) (e : h.objs.size≤a) : H a = none:=by
 cases q : H a with
 | none=>rfl
 | some u=>exact absurd (Nat.lt_of_lt_of_le (x.lt q) e) (Nat.lt_irrefl _)
theorem HOk.kept (x : HOk P w H h) (k : ∀ b u,h.get? b = some u→h'.get? b = some u) : HOk P w H h':=fun a o e =>
 (x a o e).stay (fun b u _ q=>k b u q) (fun _ q=>q) fun _ _ q=>q
theorem HOk.laid (x : HOk P w H h) (k : ∀ b u,h.get? b = some u→h'.get? b = some u) (hp : h.objs.size≤a) (new : ObjOk P w (upd H a o) h' a o) : HOk P w (upd H a o) h':=fun b u e=>by
 have hn:=x.fresh hp
 by_cases hb : b = a
 ·subst hb; rw [upd_same] at e; cases e; exact new
 ·rw [upd_ne hb] at e
  exact (x b u e).stay (fun c v _ q=>k c v q) (fun c q=>by rw [upd_ne (ne_of_none q hn)]; exact q) fun c xs q=>by rw [upd_ne (ne_of_none q hn)]; exact q
end
def Rd (H : Hp) (a : Addr) (u : HO) : Prop:=H a = some u∨∃ o,H a = some (.frz o u)
theorem Rd.ok {P : Program} {w : World} {H : Hp} {h : Heap} {a : Addr} {u : HO} (r : Rd H a u) (x : HOk P w H h) : ObjOk P w H h a u:=by
 rcases r with r | ⟨o,r⟩
 ·exact x a u r
 ·obtain ⟨_,q⟩:=x a _ r
  exact q
def Mut : Option HO→Prop
 | some (.lst _)=>True
 | some (.dK _)=>True
 | some (.dT _)=>True
 | some (.set _ _)=>True
 | some (.ins _ _ _)=>True
 | some (.ext _)=>True
 | _=>False
section
variable {P : Program} {w : World} {H : Hp} {h h' : Heap} {x e : Addr} {o' : HO}
theorem HOk.write (ok : HOk P w H h) (mu : Mut (H x)) (he : e = x∨H e = some (.own x)) (k : ∀ b u,b≠e→h.get? b = some u→h'.get? b = some u) (heo : ∃ u,h'.get? e = some u)
 (new : ObjOk P w (upd H x o') h' x o') : HOk P w (upd H x o') h':=fun b u q=>by
 have nown : ∀ c y,H c = some (.own y)→c≠x:=fun c y r z=>by subst z; rw [r] at mu; exact mu
 have ntup : ∀ c xs,H c = some (.tup xs)→c≠x:=fun c xs r z=>by subst z; rw [r] at mu; exact mu
 by_cases hb : b = x
 ·subst hb; rw [upd_same] at q; cases q; exact new
 ·rw [upd_ne hb] at q
  by_cases hbe : b = e
  ·have q' : H b = some (.own x):=by
    rcases he with z | z
    ·exact absurd (hbe.trans z) hb
    ·rw [hbe]; exact z
   rw [q] at q'; cases q'
   obtain ⟨v,hv⟩:=heo
   exact ⟨v,by rw [hbe]; exact hv⟩
  ·refine (ok b u q).stay (fun c v hc r=>k c v ?_ r) (fun c r=>by rw [upd_ne (nown c b r)]; exact r) fun c xs r=>by rw [upd_ne (ntup c xs r)]; exact r
   rcases hc with rfl | hc
   ·exact hbe
   ·rintro rfl
    rcases he with z | z
    ·exact nown c b hc z
    ·rw [hc] at z; cases z; exact hb rfl
end
structure Un (fs ex : List Addr) (H H' : Hp) (h h' : Heap) : Prop where
 keep : ∀ b o,h.get? b = some o→H b = none→b∉fs→b∉ex→h'.get? b = some o
 slot : ∀ b o,h.get? b = some o→H b = none→b∈fs→b∉ex→∃ sl,h'.get? b = some { o with slots:=sl }
 free : ∀ b o,h.get? b = some o→H b = none→b∉ex→H' b = none
 there : ∀ b o,h.get? b = some o→b∉ex→∃ o',h'.get? b = some o'
 tups : ∀ b xs,H b = some (.tup xs)→H' b = some (.tup xs)
 frzs : ∀ b o u,H b = some (.frz o u)→H' b = some (.frz o u)
 tbls : ∀ b ps,H b = some (.tbl ps)→∃ more,H' b = some (.tbl (ps ++ more))
section
variable {fs fs' ex ex' : List Addr} {H H1 H2 : Hp} {h h1 h2 h' : Heap} {a x e : Addr} {o : HO}
theorem Un.any (u : Un fs ex H H1 h h1) {b : Addr} {ob : Obj} (q : h.get? b = some ob) (n : H b = none) (hx : b∉ex) : ∃ sl,h1.get? b = some { ob with slots:=sl }:=by
 by_cases hb : b∈fs
 ·exact u.slot b ob q n hb hx
 ·exact ⟨ob.slots,u.keep b ob q n hb hx⟩
theorem Un.kept (k : ∀ b u,h.get? b = some u→h'.get? b = some u) : Un fs ex H H h h' :=
 ⟨fun b ob q _ _ _=>k b ob q,fun b ob q _ _ _=>⟨ob.slots,k b ob q⟩,fun _ _ _ n _=>n,fun b ob q _=>⟨ob,k b ob q⟩,fun _ _ q=>q,fun _ _ _ q=>q,fun _ ps q=>⟨#[],by rw [q]; simp⟩⟩
theorem Un.refl : Un fs ex H H h h:=Un.kept fun _ _ q=>q
theorem Un.laid (k : ∀ b u,h.get? b = some u→h'.get? b = some u) (hp : h.objs.size≤a) (hn : H a = none) : Un fs ex H (upd H a o) h h' where
 keep:=fun b u q _ _ _=>k b u q
 slot:=fun b u q _ _ _=>⟨u.slots,k b u q⟩
 free:=fun b u q n _=>by rw [upd_ne (Nat.ne_of_lt (Nat.lt_of_lt_of_le (Heap.lt_size q) hp))]; exact n
 there:=fun b u q _=>⟨u,k b u q⟩
 tups:=fun b xs q=>by rw [upd_ne (ne_of_none q hn)]; exact q
 frzs:=fun b u xs q=>by rw [upd_ne (ne_of_none q hn)]; exact q
 tbls:=fun b ps q=>⟨#[],by rw [upd_ne (ne_of_none q hn),q]; simp⟩
theorem Un.write (mu : Mut (H x)) (he : e = x∨H e = some (.own x)) (k : ∀ b u,b≠e→h.get? b = some u→h'.get? b = some u) (heo : ∃ u,h'.get? e = some u) : Un fs ex H (upd H x o) h h':=by
 have hx : ∀ b,H b = none→b≠x:=fun b n z=>by subst z; rw [n] at mu; exact mu
 have hb : ∀ b,H b = none→b≠e:=fun b n z=>by
  subst z
  rcases he with r | r
  ·exact hx b n r
  ·rw [n] at r; cases r
 have hm : ∀ b u,H b = some u→¬ Mut (some u)→b≠x:=fun b u q nm z=>by subst z; rw [q] at mu; exact nm mu
 refine ⟨fun b u q n _ _=>k b u (hb b n) q,fun b u q n _ _=>⟨u.slots,k b u (hb b n) q⟩,fun b u q n _=>by rw [upd_ne (hx b n)]; exact n,fun b u q _=>?_,
  fun b xs q=>by rw [upd_ne (hm b _ q fun z=>z)]; exact q,fun b u xs q=>by rw [upd_ne (hm b _ q fun z=>z)]; exact q,fun b ps q=>⟨#[],by rw [upd_ne (hm b _ q fun z=>z),q]; simp⟩⟩
 by_cases hbe : b = e
 ·subst hbe; exact heo
 ·exact ⟨u,k b u hbe q⟩
end
def trk (h : Heap) (H : Hp) : List Addr:=(List.range h.objs.size).filter fun a=>(H a).isSome
def hidT (h : Heap) (H : Hp) : Heap:=PySem.W.hideAll h (trk h H)
theorem hidT_size (h : Heap) (H : Hp) : (hidT h H).objs.size = h.objs.size:=PySem.W.hideAll_size _ _
theorem hidT_get {h : Heap} {H : Hp} {b : Addr} {o : Obj} (e : h.get? b = some o) (n : H b = none) : (hidT h H).get? b = some o :=
 PySem.W.hideAll_get _ e fun hm=>by
  have q : (H b).isSome = true:=(List.mem_filter.mp hm).2
  rw [n] at q; simp at q
theorem of_hidT {h : Heap} {H : Hp} {b : Addr} {o : Obj} (e : (hidT h H).get? b = some o) : h.get? b = some o∧H b = none:=by
 have e' : h.get? b = some o:=PySem.W.of_hideAll (trk h H) e
 refine ⟨e',?_⟩
 cases q : H b with
 | none=>rfl
 | some x =>
  have hm : b∈trk h H:=List.mem_filter.mpr ⟨List.mem_range.mpr (Heap.lt_size e'),by simp [q]⟩
  have z : (hidT h H).get? b = none:=PySem.W.hideAll_none (trk h H) hm
  rw [z] at e; cases e
end L2
namespace L2
open PySem PySem.Spec PyProof.Rows
structure Mod (K : PySem.W.Frag) (mg : Str→Option Value) (base : Heap) : Prop where
 kin : K.In base
 glob : base.Ns mainGlobals mg
 blt : ∃ mb,base.Ns builtinsNs mb∧∀ x : Str,x≠"__name__"→mb x = bootBuiltins x
 nolimit : base.NoLimit
structure Cx where
 prog : Program
 w : World
 K : PySem.W.Frag
 mg : Str→Option Value
 base : Heap
 A : Around
 N : List Str
 s_0 : Shared
 H_0 : Hp
 env : Env
 outer : List Env
 stack : List Env
 ex : List Addr
 fn : Str→Bool
 calm : Bool
 pn : List (Addr × Obj)
 xe : Value→Shared→Prop
def frs (l : List Env) : List Addr:=l.filterMap (·.frame)
abbrev Cx.fs (X : Cx) : List Addr:=frs X.outer
def Vis (sc : Scope) (x : Str) : Prop:=sc.names.lookup x = some .local∨sc.names.lookup x = some .cell∨sc.names.lookup x = some .free
def Loc (sc : Scope) (x : Str) : Prop:=sc.names.lookup x = some .local∨sc.names.lookup x = some .cell
def Look (env : Env) (h : Heap) (m : Str→Option Value) (x : Str) (u : Value) : Prop :=
 (env.kindOf x = some .local∧m x = some u)∨((env.kindOf x = some .cell∨env.kindOf x = some .free)∧∃ c,env.cells.lookup x = some c∧h.IsCell c (some u))
structure Cx.Ok (X : Cx) : Prop where
 mod : Mod X.K X.mg X.base
 kind : X.env.scope.kind = .function
 glob : X.env.globals = mainGlobals
 blt : X.env.builtins = builtinsNs
 above : X.s_0.heap.objs.size≤X.env.locals
 inj : ∀ x y c,X.env.cells.lookup x = some c→X.env.cells.lookup y = some c→x = y
 has : ∀ x,(X.env.kindOf x = some .cell∨X.env.kindOf x = some .free)→∃ c,X.env.cells.lookup x = some c
 cab : ∀ x c,X.fn x = true→X.env.cells.lookup x = some c→X.s_0.heap.objs.size≤c
 hd : X.calm = true→X.A.handled = none
 frames : X.A.frames = some X.stack
 stk : X.stack = X.outer∨(X.stack = X.env :: X.outer∧X.env.frame = some X.env.locals)
 exf : ∀ b∈X.ex,b≠X.env.locals∧∀ x c,X.env.cells.lookup x = some c→c≠b
 bs : ∀ b o,X.base.get? b = some o→X.s_0.heap.get? b = some o∧X.H_0 b = none
 bsz : X.base.objs.size≤X.s_0.heap.objs.size
 noex : ∀ b o,X.base.get? b = some o→b∉X.ex
 exfs : ∀ b∈X.ex,b∉X.fs
 funs : X.s_0.heap.FunFrames X.base X.outer
 frf : ∀ b∈X.fs,X.H_0 b = none
structure Inv (X : Cx) (pins : List (Addr × Obj)) (σ : List (Option V)) (H : Hp) (s : Shared) : Prop where
 ok : X.Ok
 os : s.os = X.s_0.os
 bare : AllBare s.gens
 base : Un X.fs X.ex X.H_0 H X.s_0.heap s.heap
 loc : ∃ m,s.heap.Ns X.env.locals m∧∀ (i : Nat) (x : Str) (v : V),X.N[i]? = some x→σ[i]? = some (some v)→Vis X.env.scope x→∃ u,RelV v u∧Look X.env s.heap m x u
 cell : ∀ x c,X.env.cells.lookup x = some c→∃ v,s.heap.IsCell c v
 free : H X.env.locals = none
 freeC : ∀ x c,X.env.cells.lookup x = some c→H c = none
 pin : ∀ p∈X.pn ++ pins,s.heap.get? p.1 = some p.2∧H p.1 = none∧p.1≠X.env.locals∧p.1∉X.fs∧∀ v,p.2.data≠.cell v
 hok : HOk X.prog X.w H s.heap
 len : σ.length = X.N.length
section
variable {X : Cx} {pins : List (Addr × Obj)} {σ : List (Option V)} {H H' : Hp} {s : Shared} {h' : Heap}
theorem Cx.Ok.nofr (ok : X.Ok) {b : Addr} {o : Obj} (e : X.base.get? b = some o) : b∉X.fs:=fun hb=>by
 have:=(ok.funs.mem hb).1
 rw [e] at this; cases this
theorem Inv.bs (I : Inv X pins σ H s) : ∀ b o,X.base.get? b = some o→s.heap.get? b = some o∧H b = none:=fun b o e =>
 ⟨I.base.keep b o (I.ok.bs b o e).1 (I.ok.bs b o e).2 (I.ok.nofr e) (I.ok.noex b o e),I.base.free b o (I.ok.bs b o e).1 (I.ok.bs b o e).2 (I.ok.noex b o e)⟩
theorem Inv.bk (I : Inv X pins σ H s) : ∀ b o,X.base.get? b = some o→s.heap.get? b = some o:=fun b o e=>(I.bs b o e).1
theorem Inv.mod (I : Inv X pins σ H s) : Mod X.K X.mg X.base:=I.ok.mod
theorem Inv.kIn (I : Inv X pins σ H s) : X.K.In s.heap:=I.ok.mod.kin.keeps I.bk
theorem Inv.nolimit (I : Inv X pins σ H s) : s.heap.NoLimit:=I.ok.mod.nolimit.keeps I.bk
theorem Inv.lt (I : Inv X pins σ H s) : X.env.locals < s.heap.objs.size:=let ⟨_,hn,_⟩:=I.loc; hn.lt
theorem Inv.sz (I : Inv X pins σ H s) : X.s_0.heap.objs.size≤s.heap.objs.size:=Nat.le_trans I.ok.above (Nat.le_of_lt I.lt)
theorem Inv.nofs (I : Inv X pins σ H s) {a : Addr} (h : s.heap.objs.size≤a) : a∉X.fs:=fun hb=>by
 obtain ⟨_,o,ho,_⟩:=I.ok.funs.mem hb
 exact absurd (Nat.lt_of_lt_of_le (Heap.lt_size ho) (Nat.le_trans I.sz h)) (Nat.lt_irrefl _)
theorem Inv.cne (I : Inv X pins σ H s) : ∀ x c,X.env.cells.lookup x = some c→c≠X.env.locals:=fun x c e z=>by
 obtain ⟨v,o,ho,hd⟩:=I.cell x c e
 obtain ⟨m,⟨o',es,ep,ho',hd',_⟩,_⟩:=I.loc
 rw [z,ho'] at ho; cases ho; rw [hd'] at hd; cases hd
theorem Inv.funs (I : Inv X pins σ H s) : s.heap.FunFrames X.base X.outer:=by
 have all : ∀ (l : List Env),(∀ b∈frs l,b∈X.fs)→X.s_0.heap.FunFrames X.base l→s.heap.FunFrames X.base l:=by
  intro l
  induction l with
  | nil=>intro _ _; trivial
  | cons env r ih =>
   intro hs hl
   obtain ⟨hk,⟨L,o,hf,hn,ho,hd⟩,hr⟩:=hl
   have hL : L∈X.fs:=hs L (by unfold frs; rw [List.filterMap_cons,hf]; exact List.mem_cons_self)
   obtain ⟨sl,e⟩:=I.base.slot L o ho (I.ok.frf L hL) hL fun z=>I.ok.exfs L z hL
   exact ⟨hk,⟨L,_,hf,hn,e,hd⟩,ih (fun b hb=>hs b (by unfold frs; rw [List.filterMap_cons,hf]; exact List.mem_cons_of_mem _ hb)) hr⟩
 exact all X.outer (fun _ hb=>hb) I.ok.funs
theorem Inv.stack (I : Inv X pins σ H s) : s.heap.FunFrames X.base X.stack:=by
 rcases I.ok.stk with e | ⟨e,hf⟩
 ·rw [e]; exact I.funs
 ·rw [e]
  obtain ⟨m,hn,_⟩:=I.loc
  refine .cons (by rw [I.ok.kind]; decide) hf hn ?_ I.funs
  exact Heap.get?_none_of_le (Nat.le_trans I.ok.bsz I.ok.above)
theorem Inv.stkSub (I : Inv X pins σ H s) : ∀ b∈frs X.stack,b∈X.env.locals :: X.fs:=fun b hb=>by
 rcases I.ok.stk with e | ⟨e,hf⟩
 ·rw [e] at hb; exact List.mem_cons_of_mem _ hb
 ·rw [e] at hb
  unfold frs at hb
  rw [List.filterMap_cons,hf] at hb
  exact hb
theorem Inv.stkFree (I : Inv X pins σ H s) : ∀ b∈frs X.stack,H b = none:=fun b hb=>by
 rcases List.mem_cons.mp (I.stkSub b hb) with e | hb
 ·rw [e]; exact I.free
 ·obtain ⟨_,o,ho,_⟩:=I.ok.funs.mem hb
  exact I.base.free b o ho (I.ok.frf b hb) fun z=>I.ok.exfs b z hb
theorem Inv.step {g' : Array GenState} {t' : Nat} {d' : Drawn} {ch : List Addr} (I : Inv X pins σ H s)
 (hch : ∀ b∈ch,(b∈X.ex∨X.s_0.heap.objs.size≤b)∧b≠X.env.locals∧(∀ x c,X.env.cells.lookup x = some c→c≠b)∧∀ p∈X.pn ++ pins,p.1≠b)
 (keep : ∀ b o,b≠X.env.locals→b∉X.fs→b∉ch→s.heap.get? b = some o→H b = none→h'.get? b = some o)
 (slot : ∀ b o,b≠X.env.locals→b∈X.fs→b∉ch→s.heap.get? b = some o→H b = none→∃ sl,h'.get? b = some { o with slots:=sl }) (free : ∀ b o,b∉ch→s.heap.get? b = some o→H b = none→H' b = none)
 (there : ∀ b o,b∉ch→s.heap.get? b = some o→∃ o',h'.get? b = some o')
 (tups : ∀ b xs,H b = some (.tup xs)→H' b = some (.tup xs)) (frzs : ∀ b o u,H b = some (.frz o u)→H' b = some (.frz o u)) (tbls : ∀ b ps,H b = some (.tbl ps)→∃ more,H' b = some (.tbl (ps ++ more)))
 (ns : ∀ m,s.heap.Ns X.env.locals m→h'.Ns X.env.locals m) (hok : HOk X.prog X.w H' h') (hg : AllBare g') :
 Inv X pins σ H' { s with heap:=h',gens:=g',drawn:=d',toks:=t' }:=by
 have neL : ∀ b o,X.s_0.heap.get? b = some o→b≠X.env.locals:=fun b o e=>Nat.ne_of_lt (Nat.lt_of_lt_of_le (Heap.lt_size e) I.ok.above)
 have neC : ∀ b o,X.s_0.heap.get? b = some o→b∉X.ex→b∉ch:=fun b o e hx hb=>by
  rcases (hch b hb).1 with z | z
  ·exact hx z
  ·exact absurd (Nat.lt_of_lt_of_le (Heap.lt_size e) z) (Nat.lt_irrefl _)
 have cellK : ∀ x c,X.env.cells.lookup x = some c→∀ v,s.heap.IsCell c v→h'.IsCell c v:=fun x c e v ⟨o,ho,hd⟩=>by
  have nch : c∉ch:=fun z=>(hch c z).2.2.1 x c e rfl
  by_cases hc : c∈X.fs
  ·obtain ⟨sl,q⟩:=slot c o (I.cne x c e) hc nch ho (I.freeC x c e)
   exact ⟨_,q,hd⟩
  ·exact ⟨o,keep c o (I.cne x c e) hc nch ho (I.freeC x c e),hd⟩
 refine ⟨I.ok,I.os,hg,⟨fun b o e n hb hx=>?_,fun b o e n hb hx=>?_,fun b o e n hx=>?_,fun b o e hx=>?_,fun b xs e=>tups b xs (I.base.tups b xs e),fun b o xs e=>frzs b o xs (I.base.frzs b o xs e),fun b ps e=>?_⟩,?_,fun x c e=>?_,?_,fun x c e=>?_,fun p hp=>?_,hok,I.len⟩
 ·exact keep b o (neL b o e) hb (neC b o e hx) (I.base.keep b o e n hb hx) (I.base.free b o e n hx)
 ·obtain ⟨sl,e1⟩:=I.base.slot b o e n hb hx
  obtain ⟨sl',e2⟩:=slot b _ (neL b o e) hb (neC b o e hx) e1 (I.base.free b o e n hx)
  exact ⟨sl',e2⟩
 ·obtain ⟨o',e1⟩:=I.base.there b o e hx
  exact free b o' (neC b o e hx) e1 (I.base.free b o e n hx)
 ·obtain ⟨o',e1⟩:=I.base.there b o e hx
  exact there b o' (neC b o e hx) e1
 ·obtain ⟨m1,e1⟩:=I.base.tbls b ps e
  obtain ⟨m2,e2⟩:=tbls b _ e1
  exact ⟨m1 ++ m2,by rw [e2,Array.append_assoc]⟩
 ·obtain ⟨m,hn,hl⟩:=I.loc
  refine ⟨m,ns m hn,fun i x v e1 e2 e3=>?_⟩
  obtain ⟨u,r,l⟩:=hl i x v e1 e2 e3
  refine ⟨u,r,?_⟩
  rcases l with l | ⟨k,c,e,z⟩
  ·exact .inl l
  ·exact .inr ⟨k,c,e,cellK x c e _ z⟩
 ·obtain ⟨v,z⟩:=I.cell x c e
  exact ⟨v,cellK x c e v z⟩
 ·obtain ⟨m,⟨o,_,_,ho,_⟩,_⟩:=I.loc
  exact free _ o (fun z=>(hch _ z).2.1 rfl) ho I.free
 ·obtain ⟨v,o,ho,hd⟩:=I.cell x c e
  exact free c o (fun z=>(hch c z).2.2.1 x c e rfl) ho (I.freeC x c e)
 ·obtain ⟨e,n,ne,nf,d⟩:=I.pin p hp
  have nch : p.1∉ch:=fun z=>(hch p.1 z).2.2.2 p hp rfl
  exact ⟨keep p.1 p.2 ne nf nch e n,free p.1 p.2 nch e n,ne,nf,d⟩
theorem Inv.un {t' : Nat} (I : Inv X pins σ H s) (u : Un X.fs [] H H' s.heap h') (hok : HOk X.prog X.w H' h') : Inv X pins σ H' { s with heap:=h',toks:=t' }:=by
 obtain ⟨m,⟨o,es,ep,ho,r⟩,_⟩:=id I.loc
 obtain ⟨sl,hL⟩:=u.any ho I.free (by simp)
 exact I.step (g':=s.gens) (d':=s.drawn) (ch:=[]) (fun _ z=>nomatch z) (fun b o _ hb _ e n=>u.keep b o e n hb (by simp)) (fun b o _ hb _ e n=>u.slot b o e n hb (by simp)) (fun b o _ e n=>u.free b o e n (by simp)) (fun b o _ e=>u.there b o e (by simp)) u.tups u.frzs u.tbls (fun m' hm=>by
  obtain ⟨o',es',ep',ho',r'⟩:=hm
  rw [ho] at ho'; cases ho'
  exact ⟨_,es',ep',hL,r'⟩) hok I.bare
theorem Inv.call {g' : Array GenState} {t' : Nat} {d' : Drawn} {ch : List Addr} (I : Inv X pins σ H s) (u : Un (frs X.stack) ch H H' s.heap h') (hok : HOk X.prog X.w H' h') (hg : AllBare g')
 (hch : ∀ b∈ch,(b∈X.ex∨X.s_0.heap.objs.size≤b)∧b≠X.env.locals∧(∀ x c,X.env.cells.lookup x = some c→c≠b)∧∀ p∈X.pn ++ pins,p.1≠b) :
 Inv X pins σ H' { s with heap:=h',gens:=g',drawn:=d',toks:=t' }:=by
 obtain ⟨m,⟨o,es,ep,ho,r⟩,_⟩:=id I.loc
 obtain ⟨sl,hL⟩:=u.any ho I.free fun z=>(hch _ z).2.1 rfl
 exact I.step (ch:=ch) hch (fun b o hL hb hc e n=>u.keep b o e n (fun z=>(List.mem_cons.mp (I.stkSub b z)).elim hL hb) hc) (fun b o _ _ hc e n=>u.any e n hc) (fun b o hc e n=>u.free b o e n hc) (fun b o hc e=>u.there b o e hc) u.tups u.frzs u.tbls (fun m' hm=>by
  obtain ⟨o',es',ep',ho',r'⟩:=hm
  rw [ho] at ho'; cases ho'
  exact ⟨_,es',ep',hL,r'⟩) hok hg
theorem Inv.turned {t' : Nat} {it : Addr} (I : Inv X pins σ H s) (k : ∀ b o,b≠it→s.heap.get? b = some o→h'.get? b = some o) (hn : H it = none) (hL : it≠X.env.locals)
 (h1 : it∈X.ex∨X.s_0.heap.objs.size≤it) (h2 : ∀ x c,X.env.cells.lookup x = some c→c≠it) (h3 : ∀ p∈X.pn ++ pins,p.1≠it) : Inv X pins σ H { s with heap:=h',toks:=t' }:=by
 have nit : ∀ b u,H b = some u→b≠it:=fun b u e z=>by rw [z,hn] at e; cases e
 refine I.step (g':=s.gens) (d':=s.drawn) (ch:=[it]) (fun b hb=>?_) (fun b o _ _ hc e _=>k b o (fun z=>hc (by simp [z])) e) (fun b o _ _ hc e _=>⟨o.slots,k b o (fun z=>hc (by simp [z])) e⟩) (fun _ _ _ _ n=>n)
  (fun b o hc e=>⟨o,k b o (fun z=>hc (by simp [z])) e⟩) (fun _ _ e=>e) (fun _ _ _ e=>e) (fun b ps e=>⟨#[],by rw [e]; simp⟩) (fun m hm=>?_) (fun b u e=>?_) I.bare
 ·have e : b = it:=by simpa using hb
  subst e
  exact ⟨h1,hL,h2,h3⟩
 ·obtain ⟨o,es,ep,ho,r⟩:=hm
  exact ⟨o,es,ep,k _ o (Ne.symm hL) ho,r⟩
 ·refine (I.hok b u e).stay (fun c v hc q=>k c v ?_ q) (fun _ q=>q) fun _ _ q=>q
  rcases hc with z | z
  ·rw [z]; exact nit b u e
  ·exact nit c _ z
theorem Inv.tok (I : Inv X pins σ H s) (t : Nat) : Inv X pins σ H { s with toks:=t }:=I.un (h':=s.heap) (t':=t) Un.refl I.hok
theorem Inv.kept {t' : Nat} (I : Inv X pins σ H s) (k : ∀ b u,s.heap.get? b = some u→h'.get? b = some u) : Inv X pins σ H { s with heap:=h',toks:=t' }:=I.un (Un.kept k) (I.hok.kept k)
theorem Inv.laid {a : Addr} {o : HO} {t' : Nat} (I : Inv X pins σ H s) (k : ∀ b u,s.heap.get? b = some u→h'.get? b = some u) (hp : s.heap.objs.size≤a) (new : ObjOk X.prog X.w (upd H a o) h' a o) :
 Inv X pins σ (upd H a o) { s with heap:=h',toks:=t' }:=I.un (Un.laid k hp (I.hok.fresh hp)) (I.hok.laid k hp new)
theorem Inv.write {x e : Addr} {o : HO} {t' : Nat} (I : Inv X pins σ H s) (mu : Mut (H x)) (he : e = x∨H e = some (.own x)) (k : ∀ b u,b≠e→s.heap.get? b = some u→h'.get? b = some u) (heo : ∃ u,h'.get? e = some u)
 (new : ObjOk X.prog X.w (upd H x o) h' x o) : Inv X pins σ (upd H x o) { s with heap:=h',toks:=t' }:=I.un (Un.write mu he k heo) (I.hok.write mu he k heo new)
theorem Inv.weak {σ' : List (Option V)} (I : Inv X pins σ H s) (hl : σ'.length = σ.length) (w : ∀ (i : Nat) v,σ'[i]? = some (some v)→σ[i]? = some (some v)) : Inv X pins σ' H s :=
 ⟨I.ok,I.os,I.bare,I.base,let ⟨m,hn,hl'⟩:=I.loc; ⟨m,hn,fun i x v e1 e2 e3=>hl' i x v e1 (w i v e2) e3⟩,I.cell,I.free,I.freeC,I.pin,I.hok,hl.trans I.len⟩
theorem Inv.pins_of {pins' : List (Addr × Obj)} (I : Inv X pins σ H s) (h : ∀ p∈pins',s.heap.get? p.1 = some p.2∧H p.1 = none∧p.1≠X.env.locals∧p.1∉X.fs∧∀ v,p.2.data≠.cell v) : Inv X pins' σ H s :=
 ⟨I.ok,I.os,I.bare,I.base,I.loc,I.cell,I.free,I.freeC,fun p hp=>(List.mem_append.mp hp).elim (fun z=>I.pin p (List.mem_append_left _ z)) (h p),I.hok,I.len⟩
theorem nodup_ix {N : List Str} (hN : N.Nodup) {i j : Nat} {x : Str} (a : N[i]? = some x) (b : N[j]? = some x) : i = j:=by
 obtain ⟨h1,e1⟩:=List.getElem?_eq_some_iff.mp a
 obtain ⟨h2,e2⟩:=List.getElem?_eq_some_iff.mp b
 exact (List.getElem_inj hN).mp (e1.trans e2.symm)
theorem store_ok2 {M : Model} {A : Around} {E : Value→Shared→Prop} {i : Nat} {x : Str} {v : V} {u : Value} {Q : Unit→Shared→Prop} (I : Inv X pins σ H s) (hN : X.N.Nodup) (hi : X.N[i]? = some x) (hx : Loc X.env.scope x) (r : RelV v u)
 (h : ∀ s',Inv X pins (σ.set i (some v)) H s'→(∃ a,Heap.SameBut a s.heap s'.heap∧(a = X.env.locals∨X.env.cells.lookup x = some a))→Q () s') (hf : X.fn x = true∨X.env.scope.names.lookup x = some .local:=by first | exact .inl rfl | exact .inr rfl | assumption) : wpAny M A (storeName X.env x u) Q E s:=by
 obtain ⟨m,hn,hl⟩:=id I.loc
 have hcls : (X.env.scope.kind == .class || (X.env.scope.kind == .module && X.env.locals != X.env.globals)) = false:=by rw [I.ok.kind]; rfl
 have hiσ : i < σ.length:=by rw [I.len]; exact (List.getElem?_eq_some_iff.mp hi).1
 have cne:=I.cne
 have tracked : ∀ {a : Addr} {h' : Heap},(∃ o,s.heap.get? a = some o∧H a = none)→Heap.SameBut a s.heap h'→HOk X.prog X.w H h':=fun {a h'} ha hs b ob e=>by
  obtain ⟨_,_,hfree⟩:=ha
  refine (I.hok b ob e).stay (fun c w' hc q=>(hs.2 c ?_).trans q) (fun _ q=>q) fun _ _ q=>q
  rintro rfl
  rcases hc with rfl | hc
  ·rw [hfree] at e; cases e
  ·rw [hfree] at hc; cases hc
 rcases hx with hk | hk
 ·refine wpAny_storeName_local hk hn (fun h' hn' hs=>?_) hcls
  obtain ⟨oL,_,_,hoL,_⟩:=id hn
  refine h _ ⟨I.ok,I.os,I.bare,⟨fun b o e n hb hx=>?_,fun b o e n hb hx=>?_,I.base.free,fun b o e hx=>?_,I.base.tups,I.base.frzs,I.base.tbls⟩,⟨_,hn',fun j y v' e1 e2 e3=>?_⟩,fun y c e=>?_,I.free,I.freeC,fun p hp=>?_,tracked ⟨oL,hoL,I.free⟩ hs,by simpa using I.len⟩ ⟨_,hs,.inl rfl⟩
  ·exact (hs.2 b (Nat.ne_of_lt (Nat.lt_of_lt_of_le (Heap.lt_size e) I.ok.above))).trans (I.base.keep b o e n hb hx)
  ·obtain ⟨sl,e1⟩:=I.base.slot b o e n hb hx
   exact ⟨sl,(hs.2 b (Nat.ne_of_lt (Nat.lt_of_lt_of_le (Heap.lt_size e) I.ok.above))).trans e1⟩
  ·obtain ⟨o',e1⟩:=I.base.there b o e hx
   exact ⟨o',(hs.2 b (Nat.ne_of_lt (Nat.lt_of_lt_of_le (Heap.lt_size e) I.ok.above))).trans e1⟩
  ·by_cases hj : j = i
   ·subst hj
    rw [hi] at e1; cases e1
    rw [List.getElem?_set_self hiσ] at e2
    cases e2
    exact ⟨u,r,.inl ⟨hk,by simp⟩⟩
   ·rw [List.getElem?_set_ne (Ne.symm hj)] at e2
    obtain ⟨u',r',q⟩:=hl j y v' e1 e2 e3
    refine ⟨u',r',?_⟩
    rcases q with ⟨k,e⟩ | ⟨k,c,e,z⟩
    ·refine .inl ⟨k,?_⟩
     have : y≠x:=fun e=>hj (nodup_ix hN e1 (e ▸ hi))
     simp [this,e]
    ·exact .inr ⟨k,c,e,z.sameBut hs (cne y c e)⟩
  ·obtain ⟨w',z⟩:=I.cell y c e
   exact ⟨w',z.sameBut hs (cne y c e)⟩
  ·obtain ⟨e,n,ne,nf,d⟩:=I.pin p hp
   exact ⟨(hs.2 p.1 ne).trans e,n,ne,nf,d⟩
 ·have hfn : X.fn x = true:=by
   rcases hf with z | z
   ·exact z
   ·rw [z] at hk; cases hk
  obtain ⟨c,hc⟩:=I.ok.has x (.inl hk)
  obtain ⟨w',z⟩:=I.cell x c hc
  refine wpAny_storeName_cell I.ok.kind hk hc z (fun h' hc' hs=>?_)
  obtain ⟨oc,hoc,hocd⟩:=id z
  refine h { s with heap:=h' } ⟨I.ok,I.os,I.bare,⟨fun b o e n hb hx=>?_,fun b o e n hb hx=>?_,I.base.free,fun b o e hx=>?_,I.base.tups,I.base.frzs,I.base.tbls⟩,⟨m,hn.sameBut hs (Ne.symm (cne x c hc)),fun j y v' e1 e2 e3=>?_⟩,fun y c' e=>?_,I.free,I.freeC,fun p hp=>?_,tracked ⟨oc,hoc,I.freeC x c hc⟩ hs,by simpa using I.len⟩ ⟨c,hs,.inr hc⟩
  ·exact (hs.2 b (Nat.ne_of_lt (Nat.lt_of_lt_of_le (Heap.lt_size e) (I.ok.cab x c hfn hc)))).trans (I.base.keep b o e n hb hx)
  ·obtain ⟨sl,e1⟩:=I.base.slot b o e n hb hx
   exact ⟨sl,(hs.2 b (Nat.ne_of_lt (Nat.lt_of_lt_of_le (Heap.lt_size e) (I.ok.cab x c hfn hc)))).trans e1⟩
  ·obtain ⟨o',e1⟩:=I.base.there b o e hx
   exact ⟨o',(hs.2 b (Nat.ne_of_lt (Nat.lt_of_lt_of_le (Heap.lt_size e) (I.ok.cab x c hfn hc)))).trans e1⟩
  ·by_cases hj : j = i
   ·subst hj
    rw [hi] at e1; cases e1
    rw [List.getElem?_set_self hiσ] at e2
    cases e2
    exact ⟨u,r,.inr ⟨.inl hk,c,hc,hc'⟩⟩
   ·rw [List.getElem?_set_ne (Ne.symm hj)] at e2
    obtain ⟨u',r',q⟩:=hl j y v' e1 e2 e3
    refine ⟨u',r',?_⟩
    rcases q with q | ⟨k,c',e,z'⟩
    ·exact .inl q
    ·refine .inr ⟨k,c',e,z'.sameBut hs ?_⟩
     rintro rfl
     exact hj (nodup_ix hN e1 (I.ok.inj _ _ _ e hc ▸ hi))
  ·by_cases hcc : c' = c
   ·subst hcc; exact ⟨_,hc'⟩
   ·obtain ⟨w2,z2⟩:=I.cell y c' e
    exact ⟨w2,z2.sameBut hs hcc⟩
  ·obtain ⟨e,n,ne,nf,d⟩:=I.pin p hp
   refine ⟨(hs.2 p.1 ?_).trans e,n,ne,nf,d⟩
   intro q
   rw [q,hoc] at e
   have q' : oc = p.2:=Option.some.inj e
   exact d w' (by rw [← q']; exact hocd)
theorem store_ok {M : Model} {A : Around} {E : Value→Shared→Prop} {i : Nat} {x : Str} {v : V} {u : Value} {Q : Unit→Shared→Prop} (I : Inv X pins σ H s) (hN : X.N.Nodup) (hi : X.N[i]? = some x) (hx : Loc X.env.scope x) (r : RelV v u)
 (h : ∀ s',Inv X pins (σ.set i (some v)) H s'→Q () s') (hf : X.fn x = true∨X.env.scope.names.lookup x = some .local:=by first | exact .inl rfl | exact .inr rfl | assumption) : wpAny M A (storeName X.env x u) Q E s :=
 store_ok2 I hN hi hx r (fun s' I' _=>h s' I') hf
theorem Inv.call' {s' : Shared} {ch : List Addr} (I : Inv X pins σ H s) (ho : s'.os = s.os) (u : Un (frs X.stack) ch H H' s.heap s'.heap) (hok : HOk X.prog X.w H' s'.heap) (hg : AllBare s'.gens)
 (hch : ∀ b∈ch,(b∈X.ex∨X.s_0.heap.objs.size≤b)∧b≠X.env.locals∧(∀ x c,X.env.cells.lookup x = some c→c≠b)∧∀ p∈X.pn ++ pins,p.1≠b) : Inv X pins σ H' s':=by
 obtain ⟨h',g',d',t',o'⟩:=s'
 have e : o' = s.os:=ho
 subst e
 exact I.call (g':=g') (t':=t') (d':=d') u hok hg hch
end
abbrev XK:=Value→Option Addr→Hp→Prop
abbrev St:=List (Option V)
abbrev VK:=V→Hp→Prop
abbrev TE:=St→Hp→VK→Prop
abbrev TT:=St→Hp→(Bool→Hp→Prop)→Prop
abbrev TA:=St→Hp→(List V→Hp→Prop)→Prop
structure Ends where
 nx : St→Hp→Prop
 rt : VK
 bk : St→Hp→Prop:=fun _ _=>False
 ct : St→Hp→Prop:=fun _ _=>False
abbrev TS:=Ends→St→Hp→Prop
def EP (X : Cx) (pins : List (Addr × Obj)) (σ : St) (Q : VK) (u : Value) (s' : Shared) : Prop:=∃ v H',Inv X pins σ H' s'∧RelV v u∧Q v H'
def TP (X : Cx) (pins : List (Addr × Obj)) (σ : St) (Q : Bool→Hp→Prop) (b : Bool) (s' : Shared) : Prop:=∃ H',Inv X pins σ H' s'∧Q b H'
def AP (X : Cx) (pins : List (Addr × Obj)) (σ : St) (Q : List V→Hp→Prop) (us : List Value) (s' : Shared) : Prop:=∃ vs H',Inv X pins σ H' s'∧Vals vs us∧Q vs H'
def SP (X : Cx) (pins : List (Addr × Obj)) (D : Ends) (f : Flow) (s' : Shared) : Prop :=
 match f with
 | .next=>∃ σ' H',Inv X pins σ' H' s'∧D.nx σ' H'
 | .brk=>∃ σ' H',Inv X pins σ' H' s'∧D.bk σ' H'
 | .cont=>∃ σ' H',Inv X pins σ' H' s'∧D.ct σ' H'
 | .ret u=>∃ v σ' H',Inv X pins σ' H' s'∧RelV v u∧D.rt v H'
def PE (X : Cx) (e : Expr) (t : TE) : Prop :=
 ∀ (pins : List (Addr × Obj)) (s : Shared) (σ : St) (H : Hp) (Q : VK),Inv X pins σ H s→t σ H Q→wpAny (model X.prog X.w) X.A (eval e X.env) (EP X pins σ Q) X.xe s
def PT (X : Cx) (e : Expr) (t : TT) : Prop :=
 ∀ (pins : List (Addr × Obj)) (s : Shared) (σ : St) (H : Hp) (Q : Bool→Hp→Prop),Inv X pins σ H s→t σ H Q→wpAny (model X.prog X.w) X.A (isTrue e X.env (eval e X.env)) (TP X pins σ Q) X.xe s
def PW (X : Cx) (e : Expr) (t : TT) : Prop :=
 ∀ (whole : Sem Value) (pins : List (Addr × Obj)) (s : Shared) (σ : St) (H : Hp) (Q : Bool→Hp→Prop),Inv X pins σ H s→t σ H Q→wpAny (model X.prog X.w) X.A (isTrue e X.env whole) (TP X pins σ Q) X.xe s
theorem PW.pt {X : Cx} {e : Expr} {t : TT} (h : PW X e t) : PT X e t:=h _
def PA (X : Cx) (es : List Expr) (t : TA) : Prop :=
 ∀ (pos : Pos) (pins : List (Addr × Obj)) (s : Shared) (σ : St) (H : Hp) (Q : List V→Hp→Prop),Inv X pins σ H s→t σ H Q→wpAny (model X.prog X.w) X.A (spliced (backTo pos (starEach es X.env))) (AP X pins σ Q) X.xe s
def PS (X : Cx) (st : Stmt) (t : TS) : Prop :=
 ∀ (pins : List (Addr × Obj)) (s : Shared) (σ : St) (H : Hp) (D : Ends),Inv X pins σ H s→t D σ H→wpAny (model X.prog X.w) X.A (exec st X.env) (SP X pins D) X.xe s
def PSs (X : Cx) (st : List Stmt) (t : TS) : Prop :=
 ∀ (pins : List (Addr × Obj)) (s : Shared) (σ : St) (H : Hp) (D : Ends),Inv X pins σ H s→t D σ H→wpAny (model X.prog X.w) X.A (execs st X.env) (SP X pins D) X.xe s
theorem thn {α : Type} {t : Sem α} {Q Q' : α→Shared→Prop} {M : Model} {A : Around} {E : Value→Shared→Prop} {s : Shared} (h : wpAny M A t Q E s) (hQ : ∀ a s,Q a s→Q' a s) : wpAny M A t Q' E s:=wpAny_mono h hQ fun _ _ x=>x
end L2
namespace L2
open PySem PySem.Spec PyProof.Rows
section
variable {X : Cx}
def tVar (i : Nat) : TE:=fun σ H Q=>∃ v,σ[i]? = some (some v)∧Q v H
def tC (v : V) : TE:=fun _ H Q=>Q v H
theorem pe_var {i : Nat} {x : Str} {pos : Pos} (hN : X.N[i]? = some x) (hv : Vis X.env.scope x) (hd : (x == ("__debug__" : Str)) = false:=by decide) (hcd : (x == ("__classdict__" : Str)) = false:=by decide) : PE X (.Name x pos) (tVar i):=by
 intro pins s σ H Q I h
 obtain ⟨v,e,h⟩:=h
 obtain ⟨m,hn,hl⟩:=I.loc
 obtain ⟨u,r,l⟩:=hl i x v hN e hv
 have fin : EP X pins σ Q u s:=⟨v,H,I,r,h⟩
 rcases l with ⟨hk,hm⟩ | ⟨hk,c,hc,hcell⟩
 ·exact wpAny_Name (wpAny_loadName_local I.ok.kind hk hn hm fin) hd
 ·rcases hk with hk | hk
  ·exact wpAny_Name (wpAny_loadName_cell I.ok.kind hk hc hcell fin) hd
  ·exact wpAny_Name (wpAny_loadName_free I.ok.kind hk hc hcell fin hcd) hd
theorem pe_int {i j pos} : PE X (.Constant (.int i) j pos) (tC (.int i)):=fun _ _ _ H _ I h=>wpAny_Constant_int ⟨.int i,H,I.tok _,⟨_,rfl⟩,h⟩
theorem pe_bl {b j pos} : PE X (.Constant (.bool b) j pos) (tC (.bl b)):=fun _ _ _ H _ I h=>Constant_bool ⟨.bl b,H,I,rfl,h⟩
theorem pe_non {j pos} : PE X (.Constant .none j pos) (tC .non):=fun _ _ _ H _ I h=>Constant_none ⟨.non,H,I,rfl,h⟩
theorem pe_str {x j pos} : PE X (.Constant (.str x) j pos) (tC (.str x)):=fun _ _ _ H _ I h=>Calls.Constant_str ⟨.str x,H,I.tok _,⟨_,rfl⟩,h⟩
def Gl (X : Cx) (x : Str) : Prop:=X.env.kindOf x = some .globalImplicit
theorem ld_glob {E : Value→Shared→Prop} {pins : List (Addr × Obj)} {s : Shared} {σ : St} {H : Hp} {x : Str} {u : Value} {pos : Pos} {Q : Value→Shared→Prop} (I : Inv X pins σ H s) (hg : Gl X x) (hm : X.mg x = some u) (h : Q u s)
 (hd : (x == ("__debug__" : Str)) = false:=by decide) : wpAny (model X.prog X.w) X.A (eval (.Name x pos) X.env) Q E s :=
 Calls.Name_function_global I.ok.kind hg (Calls.loadGlobal_global (by rw [I.ok.glob]; exact I.mod.glob.keeps I.bk) hm h) hd
theorem ld_blt {E : Value→Shared→Prop} {pins : List (Addr × Obj)} {s : Shared} {σ : St} {H : Hp} {x : Str} {u : Value} {pos : Pos} {Q : Value→Shared→Prop} (I : Inv X pins σ H s) (hg : Gl X x) (hm : X.mg x = none) (hv : bootBuiltins x = some u) (h : Q u s)
 (hn : x≠"__name__":=by decide) (hd : (x == ("__debug__" : Str)) = false:=by decide) : wpAny (model X.prog X.w) X.A (eval (.Name x pos) X.env) Q E s:=by
 obtain ⟨mb,h1,h2⟩:=I.mod.blt
 exact Calls.Name_function_global I.ok.kind hg (Calls.loadGlobal_builtin (by rw [I.ok.glob]; exact I.mod.glob.keeps I.bk) hm (by rw [I.ok.blt]; exact h1.keeps I.bk) ((h2 x hn).trans hv) h) hd
theorem pe_glob {x : Str} {v : V} {u : Value} {pos : Pos} (hg : Gl X x) (hm : X.mg x = some u) (r : RelV v u) (hd : (x == ("__debug__" : Str)) = false:=by decide) : PE X (.Name x pos) (tC v) :=
 fun _ _ _ H _ I h=>ld_glob I hg hm ⟨v,H,I,r,h⟩ hd
variable {a b : Expr} {ta tb : TE} {pos : Pos}
def PC (X : Cx) (op : CmpOp) (a b : Expr) (t : TE) : Prop :=
 ∀ (pins : List (Addr × Obj)) (s : Shared) (σ : St) (H : Hp) (Q : VK),Inv X pins σ H s→t σ H Q →
  wpAny (model X.prog X.w) X.A (eval a X.env) (fun v s₁=>wpAny (model X.prog X.w) X.A (eval b X.env) (fun u s₂=>wpAny (model X.prog X.w) X.A (compareOp op v u) (EP X pins σ Q) X.xe s₂) X.xe s₁) X.xe s
def tB (t : TE) : TT:=fun σ H Q=>t σ H fun x H1=>∃ c,x = .bl c∧Q c H1
theorem pe_cmp {op : CmpOp} {t : TE} (h : PC X op a b t) (h1 : behindInMarks op b = false:=by first | exact nobehind _ (by decide) (by decide) | rfl) : PE X (.Compare a [op] [b] pos) t:=fun pins s σ H Q I hw=>wpAny_Compare1 (h pins s σ H Q I hw) h1
theorem pt_cmp {op : CmpOp} {t : TE} (h : PC X op a b t) (h1 : behindInMarks op b = false:=by first | exact nobehind _ (by decide) (by decide) | rfl) : PT X (.Compare a [op] [b] pos) (tB t):=by
 intro pins s σ H Q I hw
 refine wpAny_isTrue_Compare1 (thn (h pins s σ H _ I hw) fun v s1 h1=>thn h1 fun u s2 h2=>thn h2 fun c s3 ⟨x,H1,I1,r1,q1⟩=>?_) h1
 obtain ⟨d,rfl,q⟩:=q1
 cases r1
 exact wpAny_truthy_bool ⟨H1,I1,q⟩
theorem pt_val {e : Expr} {t : TE} (h : PE X e t) (he : ∀ whole,isTrue e X.env whole = (do let v ← whole; standAt e.pos; holding [v] (truthy v)):=by intro _; rfl) : PT X e (tB t):=by
 intro pins s σ H Q I hw
 refine isTrue_plain (thn (h pins s σ H _ I hw) fun v s1 ⟨x,H1,I1,r1,q1⟩=>?_) (he _)
 obtain ⟨d,rfl,q⟩:=q1
 cases r1
 exact wpAny_truthy_bool ⟨H1,I1,q⟩
variable {tA tB' : TT} {rest : List Expr}
def tAnd (t u : TT) : TT:=fun σ H Q=>t σ H fun c H1=>if c = true then u σ H1 Q else Q false H1
def tOr (t u : TT) : TT:=fun σ H Q=>t σ H fun c H1=>if c = true then Q true H1 else u σ H1 Q
def tNot (t : TT) : TT:=fun σ H Q=>t σ H fun c H1=>Q (!c) H1
theorem pw_and1 (ha : PT X a tA) : PW X (.BoolOp .And [a] pos) tA:=by
 intro wh pins s σ H Q I h
 refine isTrue_and (thn (ha pins s σ H Q I h) fun c s1 e=>?_)
 cases c with
 | true=>exact isTrue_and_nil e
 | false=>exact e
theorem pw_or1 (ha : PT X a tA) : PW X (.BoolOp .Or [a] pos) tA:=by
 intro wh pins s σ H Q I h
 refine isTrue_or (thn (ha pins s σ H Q I h) fun c s1 e=>?_)
 cases c with
 | false=>exact isTrue_or_nil e
 | true=>exact e
theorem pw_and (ha : PT X a tA) (hb : PW X (.BoolOp .And (b :: rest) pos) tB') : PW X (.BoolOp .And (a :: b :: rest) pos) (tAnd tA tB'):=by
 intro wh pins s σ H Q I h
 refine isTrue_and (thn (ha pins s σ H _ I h) fun c s1 ⟨H1,I1,q1⟩=>?_)
 cases c with
 | true=>exact hb wh pins s1 σ H1 Q I1 q1
 | false=>exact ⟨H1,I1,q1⟩
theorem pw_or (ha : PT X a tA) (hb : PW X (.BoolOp .Or (b :: rest) pos) tB') : PW X (.BoolOp .Or (a :: b :: rest) pos) (tOr tA tB'):=by
 intro wh pins s σ H Q I h
 refine isTrue_or (thn (ha pins s σ H _ I h) fun c s1 ⟨H1,I1,q1⟩=>?_)
 cases c with
 | true=>exact ⟨H1,I1,q1⟩
 | false=>exact hb wh pins s1 σ H1 Q I1 q1
theorem pt_not (ha : PT X a tA) : PT X (.UnaryOp .Not a pos) (tNot tA):=by
 intro pins s σ H Q I h
 exact isTrue_not (ha pins s σ H (fun c H1=>Q (!c) H1) I h)
def tAndV (ta tb : TE) : TE:=fun σ H Q=>ta σ H fun x H1=>∃ c,x = .bl c∧if c = true then tb σ H1 Q else Q (.bl false) H1
def tOrV (ta tb : TE) : TE:=fun σ H Q=>ta σ H fun x H1=>∃ c,x = .bl c∧if c = true then Q (.bl true) H1 else tb σ H1 Q
theorem pe_one {op} {t : TE} (h : PE X a t) : PE X (.BoolOp op [a] pos) t:=fun pins s σ H Q I hw=>BoolOp_one (h pins s σ H Q I hw)
theorem pe_and (ha : PE X a ta) (hb : PE X (.BoolOp .And (b :: rest) pos) tb) : PE X (.BoolOp .And (a :: b :: rest) pos) (tAndV ta tb):=by
 intro pins s σ H Q I h
 refine BoolOp_and (thn (ha pins s σ H _ I h) fun v s1 ⟨x,H1,I1,r1,q1⟩=>?_)
 obtain ⟨c,rfl,q1⟩:=q1
 cases r1
 refine wpAny_truthy_bool ?_
 cases c with
 | true=>exact hb pins s1 σ H1 Q I1 q1
 | false=>exact ⟨.bl false,H1,I1,rfl,q1⟩
theorem pe_or (ha : PE X a ta) (hb : PE X (.BoolOp .Or (b :: rest) pos) tb) : PE X (.BoolOp .Or (a :: b :: rest) pos) (tOrV ta tb):=by
 intro pins s σ H Q I h
 refine BoolOp_or (thn (ha pins s σ H _ I h) fun v s1 ⟨x,H1,I1,r1,q1⟩=>?_)
 obtain ⟨c,rfl,q1⟩:=q1
 cases r1
 refine wpAny_truthy_bool ?_
 cases c with
 | false=>exact hb pins s1 σ H1 Q I1 q1
 | true=>exact ⟨.bl true,H1,I1,rfl,q1⟩
end
end L2
namespace L2
open PySem PySem.Spec PyProof.Rows
def SqL (K : PySem.W.Frag) (H : Hp) (a : Addr) (xs : List V) : Prop :=
 Rd H a (.lst xs) ∨
  ∃ (o : Obj) (its : Array Value) (n : Nat),K.lookup a = some o∧o.cls = .type "list"∧o.dict = none∧o.data = .seq its n∧its.size≤sizeLine∧Vals xs its.toList
def SqT (K : PySem.W.Frag) (H : Hp) (a : Addr) (xs : List V) : Prop :=
 Rd H a (.tup xs) ∨
  ∃ (o : Obj) (its : Array Value) (n : Nat),K.lookup a = some o∧o.cls = .type "tuple"∧o.data = .seq its n∧its.size≤sizeLine∧Vals xs its.toList
def absV : Value→Option V
 | .none=>some .non
 | .bool b=>some (.bl b)
 | .int i _=>some (.int i)
 | .str x _=>some (.str x)
 | .bytes b _=>some (.byt b)
 | .float b _=>some (.flt b)
 | .ref a=>some (.ref a)
 | .type n=>some (.ty n)
 | _=>none
theorem RelV.abs {x : V} {u : Value} (r : RelV x u) : absV u = some x:=by
 cases x with
 | non=>cases r; rfl
 | bl _=>cases r; rfl
 | int _=>obtain ⟨t,rfl⟩:=r; rfl
 | str _=>obtain ⟨t,rfl⟩:=r; rfl
 | byt _=>obtain ⟨t,rfl⟩:=r; rfl
 | flt _=>obtain ⟨t,rfl⟩:=r; rfl
 | ref _=>cases r; rfl
 | ty _=>cases r; rfl
theorem RelV.inj {x y : V} {u : Value} (r : RelV x u) (q : RelV y u) : x = y:=Option.some.inj (r.abs.symm.trans q.abs)
theorem Vals.inj : ∀ {xs ys : List V} {us : List Value},Vals xs us→Vals ys us→xs = ys
 | _,_,_,.nil,.nil=>rfl
 | _,_,_,.cons r t,.cons r' t'=>by rw [r.inj r',Vals.inj t t']
section
variable {X : Cx} {pins : List (Addr × Obj)} {σ : St} {H : Hp} {s : Shared} {a : Addr} {xs ys : List V}
theorem SqL.of {K : PySem.W.Frag} (h : H a = some (.lst xs)) : SqL K H a xs:=.inl (.inl h)
theorem SqT.of {K : PySem.W.Frag} (h : H a = some (.tup xs)) : SqT K H a xs:=.inl (.inl h)
theorem Inv.list (I : Inv X pins σ H s) (h : SqL X.K H a xs) : ∃ its : List Value,Vals xs its∧PlainL s.heap a its.toArray∧xs.length≤sizeLine:=by
 rcases h with h | ⟨o,its,n,hk,hc,hd,hs,hz,r⟩
 ·obtain ⟨z,its,n,r,e⟩:=h.ok I.hok
  exact ⟨its,r,⟨_,n,e,rfl,rfl,rfl⟩,z⟩
 ·refine ⟨its.toList,r,⟨o,n,I.kIn a o hk,hc,hd,by simpa using hs⟩,?_⟩
  have e:=r.length
  simp only [Array.length_toList] at e
  omega
theorem Inv.tuple (I : Inv X pins σ H s) (h : SqT X.K H a xs) : ∃ its : List Value,Vals xs its∧IsTup s.heap a its.toArray∧xs.length≤sizeLine:=by
 rcases h with h | ⟨o,its,n,hk,hc,hs,hz,r⟩
 ·obtain ⟨z,its,r,p⟩:=h.ok I.hok
  exact ⟨its,r,p,z⟩
 ·refine ⟨its.toList,r,⟨o,I.kIn a o hk,hc,n,by simpa using hs⟩,?_⟩
  have e:=r.length
  simp only [Array.length_toList] at e
  omega
theorem Inv.list_inj (I : Inv X pins σ H s) (h : SqL X.K H a xs) (h' : SqL X.K H a ys) : xs = ys:=by
 obtain ⟨its,r,⟨o,n,e,_,_,d⟩,_⟩:=I.list h
 obtain ⟨its',r',⟨o',n',e',_,_,d'⟩,_⟩:=I.list h'
 rw [e] at e'; cases e'
 rw [d] at d'
 injection d' with d1 _
 have : its = its':=by simpa using congrArg Array.toList d1
 subst this
 exact r.inj r'
theorem Inv.tuple_inj (I : Inv X pins σ H s) (h : SqT X.K H a xs) (h' : SqT X.K H a ys) : xs = ys:=by
 obtain ⟨its,r,⟨o,e,_,n,d⟩,_⟩:=I.tuple h
 obtain ⟨its',r',⟨o',e',_,n',d'⟩,_⟩:=I.tuple h'
 rw [e] at e'; cases e'
 rw [d] at d'
 injection d' with d1 _
 have : its = its':=by simpa using congrArg Array.toList d1
 subst this
 exact r.inj r'
end
abbrev Cx.wish (X : Cx) (E : Value→Shared→Prop) : Cx:={ X with xe:=E }
abbrev Cx.nox (X : Cx) : Cx:=X.wish fun _ _=>False
theorem Cx.Ok.wish {X : Cx} (ok : X.Ok) (E : Value→Shared→Prop) : (X.wish E).Ok :=
 ⟨ok.mod,ok.kind,ok.glob,ok.blt,ok.above,ok.inj,ok.has,ok.cab,ok.hd,ok.frames,ok.stk,ok.exf,ok.bs,ok.bsz,ok.noex,ok.exfs,ok.funs,ok.frf⟩
theorem Cx.Ok.unwish {X : Cx} {E : Value→Shared→Prop} (ok : (X.wish E).Ok) : X.Ok :=
 ⟨ok.mod,ok.kind,ok.glob,ok.blt,ok.above,ok.inj,ok.has,ok.cab,ok.hd,ok.frames,ok.stk,ok.exf,ok.bs,ok.bsz,ok.noex,ok.exfs,ok.funs,ok.frf⟩
section
variable {X : Cx} {pins : List (Addr × Obj)} {σ : St} {H : Hp} {s : Shared} {E : Value→Shared→Prop}
theorem Inv.wish (I : Inv X pins σ H s) (E : Value→Shared→Prop) : Inv (X.wish E) pins σ H s:=⟨I.ok.wish E,I.os,I.bare,I.base,I.loc,I.cell,I.free,I.freeC,I.pin,I.hok,I.len⟩
theorem Inv.unwish (I : Inv (X.wish E) pins σ H s) : Inv X pins σ H s:=⟨I.ok.unwish,I.os,I.bare,I.base,I.loc,I.cell,I.free,I.freeC,I.pin,I.hok,I.len⟩
theorem SP.unwish {D : Ends} {f : Flow} {s' : Shared} (h : SP (X.wish E) pins D f s') : SP X pins D f s':=by
 cases f with
 | next=>obtain ⟨σ',H',I,q⟩:=h; exact ⟨σ',H',I.unwish,q⟩
 | brk=>obtain ⟨σ',H',I,q⟩:=h; exact ⟨σ',H',I.unwish,q⟩
 | cont=>obtain ⟨σ',H',I,q⟩:=h; exact ⟨σ',H',I.unwish,q⟩
 | ret u=>obtain ⟨v,σ',H',I,r,q⟩:=h; exact ⟨v,σ',H',I.unwish,r,q⟩
theorem PSs.nox {st : List Stmt} {t : TS} (h : PSs X.nox st t) : PSs X st t:=fun pins s σ H D I hw =>
 wpAny_mono (h pins s σ H D (I.wish _) hw) (fun _ _ q=>q.unwish) fun _ _ z=>False.elim z
end
section
variable {X : Cx} {st : Stmt} {rest : List Stmt} {t u : TS} {e : Expr} {te : TE} {pos : Pos}
def tNext : TS:=fun D σ H=>D.nx σ H
def tSeq (t u : TS) : TS:=fun D σ H=>t { D with nx:=u D } σ H
theorem pss_nil : PSs X [] tNext:=fun _ _ σ H _ I h=>wpAny_execs_nil ⟨σ,H,I,h⟩
theorem pss_cons (h1 : PS X st t) (h2 : PSs X rest u) : PSs X (st :: rest) (tSeq t u):=by
 intro pins s σ H D I h
 refine wpAny_execs_cons (thn (h1 pins s σ H { D with nx:=u D } I h) fun f s1 q=>?_)
 cases f with
 | next =>
  obtain ⟨σ',H',I',q⟩:=q
  exact h2 pins s1 σ' H' D I' q
 | ret v=>exact q
 | brk=>exact q
 | cont=>exact q
theorem pss_one (h1 : PS X st t) : PSs X [st] t:=by
 intro pins s σ H D I h
 refine wpAny_execs_cons (thn (h1 pins s σ H D I h) fun f s1 q=>?_)
 cases f with
 | next=>exact wpAny_execs_nil q
 | ret v=>exact q
 | brk=>exact q
 | cont=>exact q
theorem Inv.quiet {pins : List (Addr × Obj)} {σ : St} {H : Hp} {s : Shared} (I : Inv X pins σ H s) : interactive X.env = false:=by simp [interactive,I.ok.kind]
def tDrop (te : TE) : TS:=fun D σ H=>te σ H fun _ H1=>D.nx σ H1
theorem ps_expr (he : PE X e te) (hs : swapsWith e none pos.line X.env = pure false:=by rfl) : PS X (.Expr e pos) (tDrop te):=by
 intro pins s σ H D I h
 exact wpAny_Expr_any (thn (he pins s σ H _ I h) fun v s1 ⟨x,H1,I1,r1,q1⟩=>⟨σ,H1,I1,q1⟩) I.quiet hs
def tRet (te : TE) : TS:=fun D σ H=>te σ H D.rt
theorem ps_ret (he : PE X e te) : PS X (.Return (some e) pos) (tRet te):=by
 intro pins s σ H D I h
 exact wpAny_Return_some (thn (he pins s σ H _ I h) fun v s1 ⟨x,H1,I1,r1,q1⟩=>⟨x,σ,H1,I1,r1,q1⟩)
def tIfS (c : TT) (t u : TS) : TS:=fun D σ H=>c σ H fun b H1=>if b = true then t D σ H1 else u D σ H1
theorem ps_if {c : Expr} {a b : List Stmt} {tc : TT} (hc : PT X c tc) (ha : PSs X a t) (hb : PSs X b u) : PS X (.If c a b pos) (tIfS tc t u):=by
 intro pins s σ H D I h
 refine wpAny_If (thn (hc pins s σ H _ I h) fun d s1 ⟨H1,I1,q1⟩=>?_)
 cases d with
 | true=>exact ha pins s1 σ H1 D I1 q1
 | false=>exact hb pins s1 σ H1 D I1 q1
end
abbrev TG:=V→St→Hp→(St→Hp→Prop)→Prop
abbrev TGs:=List V→St→Hp→(St→Hp→Prop)→Prop
def PG (X : Cx) (target : Expr) (t : TG) : Prop :=
 ∀ (pins : List (Addr × Obj)) (s : Shared) (σ : St) (H : Hp) (v : V) (u : Value) (Q : St→Hp→Prop),Inv X pins σ H s→RelV v u→t v σ H Q →
  wpAny (model X.prog X.w) X.A (assign target X.env u) (fun _ s'=>∃ σ' H',Inv X pins σ' H' s'∧Q σ' H') X.xe s
def PGs (X : Cx) (ts : List Expr) (t : TGs) : Prop :=
 ∀ (pins : List (Addr × Obj)) (s : Shared) (σ : St) (H : Hp) (vs : List V) (us : List Value) (Q : St→Hp→Prop),Inv X pins σ H s→Vals vs us→t vs σ H Q →
  wpAny (model X.prog X.w) X.A (assignInOrder ((assignEach ts X.env).map (·.2)) us) (fun _ s'=>∃ σ' H',Inv X pins σ' H' s'∧Q σ' H') X.xe s
abbrev TSet:=V→V→V→Hp→(Hp→Prop)→Prop
def PSet (X : Cx) (t : TSet) : Prop :=
 ∀ (pins : List (Addr × Obj)) (s : Shared) (σ : St) (H : Hp) (o i v : V) (ov iv u : Value) (Q : Hp→Prop),Inv X pins σ H s→RelV o ov→RelV i iv→RelV v u→t o i v H Q →
  wpAny (model X.prog X.w) X.A (setItem ov iv u) (fun _ s'=>∃ H',Inv X pins σ H' s'∧Q H') X.xe s
abbrev TIp:=V→V→Hp→VK→Prop
def PIp (X : Cx) (op : Operator) (t : TIp) : Prop :=
 ∀ (pins : List (Addr × Obj)) (s : Shared) (σ : St) (H : Hp) (x y : V) (v u : Value) (Q : VK),Inv X pins σ H s→RelV x v→RelV y u→t x y H Q →
  wpAny (model X.prog X.w) X.A (inplaceOp op v u) (EP X pins σ Q) X.xe s
section
variable {X : Cx} {pos : Pos}
def gName (i : Nat) : TG:=fun v σ H Q=>Q (σ.set i (some v)) H
theorem pg_name {i : Nat} {x : Str} (hN : X.N.Nodup) (hi : X.N[i]? = some x) (hx : Loc X.env.scope x) (hf : X.fn x = true∨X.env.scope.names.lookup x = some .local:=by first | exact .inl rfl | exact .inr rfl | assumption) : PG X (.Name x pos) (gName i):=by
 intro pins s σ H v u Q I r h
 exact wpAny_assign_Name (store_ok I hN hi hx r (fun s' I'=>⟨_,H,I',h⟩) hf)
def gNil : TGs:=fun vs σ H Q=>vs = []∧Q σ H
def gCons (t : TG) (u : TGs) : TGs:=fun vs σ H Q=>∃ v r,vs = v :: r∧t v σ H fun σ' H'=>u r σ' H' Q
theorem pgs_nil : PGs X [] gNil:=by
 intro pins s σ H vs us Q I r h
 obtain ⟨e,h⟩:=h
 subst e
 cases r
 exact assignInOrder_nil ⟨σ,H,I,h⟩
theorem pgs_cons {e : Expr} {es : List Expr} {t : TG} {u : TGs} (h1 : PG X e t) (h2 : PGs X es u)
 (hs : (assignEach (e :: es) X.env).map (·.2) = assign e X.env :: (assignEach es X.env).map (·.2):=by rfl) : PGs X (e :: es) (gCons t u):=by
 intro pins s σ H vs us Q I r h
 obtain ⟨v,vr,e1,h⟩:=h
 subst e1
 cases r with
 | cons r rr =>
  rw [hs]
  refine assignInOrder_cons (thn (h1 pins s σ H _ _ _ I r h) fun _ s1 ⟨σ1,H1,I1,q1⟩=>?_)
  exact h2 pins s1 σ1 H1 _ _ Q I1 rr q1
def gTup (K : PySem.W.Frag) (n : Nat) (t : TGs) : TG:=fun v σ H Q=>∃ a xs,v = .ref a∧SqT K H a xs∧xs.length = n∧t xs σ H Q
theorem pg_tup {es : List Expr} {k : Nat} {t : TGs} {n : Nat} (hc : X.calm = true) (h : PGs X es t)
 (hn : (assignEach es X.env).length = n:=by rfl) (hst : (assignEach es X.env).findIdx? (·.1) = none:=by rfl) : PG X (.Tuple es k pos) (gTup X.K n t):=by
 intro pins s σ H v u Q I r hw
 obtain ⟨a,xs,e1,hq,hl,hw⟩:=hw
 subst e1
 cases r
 obtain ⟨its,rv,ht,hz⟩:=I.tuple hq
 refine assign_Tuple_tuple (I.ok.hd hc) ht (by simp [hn,← hl,rv.length]) hst fun h' hx=>?_
 have I1 : Inv X pins σ H { s with heap:=h' }:=I.kept (t':=s.toks) fun b o e=>hx b o (Nat.ne_of_lt (Heap.lt_size e)) e
 exact h pins _ σ H xs _ Q I1 (by simpa using rv) hw
def tAsg (te : TE) (g : TG) : TS:=fun D σ H=>te σ H fun x H1=>g x σ H1 D.nx
theorem ps_set {i : Nat} {x : Str} {e : Expr} {te : TE} {pos' : Pos} (hN : X.N.Nodup) (hi : X.N[i]? = some x) (hx : Loc X.env.scope x) (he : PE X e te) (hs : swapsWith e (some (.Name x pos')) pos.line X.env = pure false:=by rfl) (hf : X.fn x = true∨X.env.scope.names.lookup x = some .local:=by first | exact .inl rfl | exact .inr rfl | assumption) :
 PS X (.Assign [.Name x pos'] e pos) (tAsg te (gName i)):=by
 intro pins s σ H D I h
 refine wpAny_Assign_Name (thn (he pins s σ H _ I h) fun v s1 ⟨y,H1,I1,r1,q1⟩=>?_) hs
 exact store_ok I1 hN hi hx r1 (fun s2 I2=>⟨_,H1,I2,q1⟩) hf
def tAug (i : Nat) (te : TE) (ti : TIp) : TS:=fun D σ H=>∃ x,σ[i]? = some (some x)∧te σ H fun y H1=>ti x y H1 fun z H2=>D.nx (σ.set i (some z)) H2
theorem ps_aug {i : Nat} {x : Str} {e : Expr} {te : TE} {op : Operator} {ti : TIp} {pos' : Pos} (hN : X.N.Nodup) (hi : X.N[i]? = some x) (hx : Loc X.env.scope x) (he : PE X e te) (ho : PIp X op ti) (hf : X.fn x = true∨X.env.scope.names.lookup x = some .local:=by first | exact .inl rfl | exact .inr rfl | assumption) :
 PS X (.AugAssign (.Name x pos') op e pos) (tAug i te ti):=by
 intro pins s σ H D I h
 obtain ⟨v,e1,h⟩:=h
 obtain ⟨m,hn,hl⟩:=I.loc
 have vis : Vis X.env.scope x:=by rcases hx with k | k; exact .inl k; exact .inr (.inl k)
 obtain ⟨u,r,l⟩:=hl i x v hi e1 vis
 refine wpAny_AugAssign_Name ?_
 have go : wpAny (model X.prog X.w) X.A (eval e X.env) (fun w s₂=>wpAny (model X.prog X.w) X.A (inplaceOp op u w) (fun r s₃=>wpAny (model X.prog X.w) X.A (storeName X.env x r) (fun _=>SP X pins D .next) X.xe s₃) X.xe s₂) X.xe s:=by
  refine thn (he pins s σ H _ I h) fun w s1 ⟨y,H1,I1,r1,q1⟩=>?_
  refine thn (ho pins s1 σ H1 v y u w _ I1 r r1 q1) fun z s2 ⟨zv,H2,I2,r2,q2⟩=>?_
  exact store_ok I2 hN hi hx r2 (fun s3 I3=>⟨_,H2,I3,q2⟩) hf
 rcases l with ⟨hk,hm⟩ | ⟨hk,c,hc,hcell⟩
 ·exact wpAny_loadName_local I.ok.kind hk hn hm go
 ·rcases hk with hk | hk
  ·exact wpAny_loadName_cell I.ok.kind hk hc hcell go
  ·rcases hx with k | k
   ·have : X.env.scope.names.lookup x = some .free:=hk
    rw [k] at this; cases this
   ·have : X.env.scope.names.lookup x = some .free:=hk
    rw [k] at this; cases this
def tAugS (to ti te : TE) (tget : V→V→Hp→VK→Prop) (tip : TIp) (tset : TSet) : TS:=fun D σ H=>to σ H fun o H1=>ti σ H1 fun i H2=>tget o i H2 fun x H3=>te σ H3 fun y H4=>tip x y H4 fun z H5=>tset o i z H5 fun H6=>D.nx σ H6
def PGet (X : Cx) (t : V→V→Hp→VK→Prop) : Prop :=
 ∀ (pins : List (Addr × Obj)) (s : Shared) (σ : St) (H : Hp) (o i : V) (ov iv : Value) (Q : VK),Inv X pins σ H s→RelV o ov→RelV i iv→t o i H Q →
  wpAny (model X.prog X.w) X.A (getItem ov iv) (EP X pins σ Q) X.xe s
theorem ps_augS {o i e : Expr} {to ti te : TE} {tget : V→V→Hp→VK→Prop} {tip : TIp} {tset : TSet} {op : Operator} {tpos : Pos} (ho : PE X o to) (hi : PE X i ti) (hg : PGet X tget) (he : PE X e te) (hp : PIp X op tip) (hs : PSet X tset)
 (ha : ∀ ov iv new,augStore i ov iv new = (do holding [new,ov,iv] (setItem ov iv new); release [new,ov,iv] []; pure .next):=by intros; rfl) : PS X (.AugAssign (.Subscript o i tpos) op e pos) (tAugS to ti te tget tip tset):=by
 intro pins s σ H D I h
 refine wpAny_AugAssign_SubscriptAny (thn (ho pins s σ H _ I h) fun ov s1 ⟨x1,H1,I1,r1,q1⟩=>?_) ha
 refine thn (hi pins s1 σ H1 _ I1 q1) fun iv s2 ⟨x2,H2,I2,r2,q2⟩=>?_
 refine thn (hg pins s2 σ H2 x1 x2 ov iv _ I2 r1 r2 q2) fun old s3 ⟨x3,H3,I3,r3,q3⟩=>?_
 refine thn (he pins s3 σ H3 _ I3 q3) fun v s4 ⟨x4,H4,I4,r4,q4⟩=>?_
 refine thn (hp pins s4 σ H4 x3 x4 old v _ I4 r3 r4 q4) fun new s5 ⟨x5,H5,I5,r5,q5⟩=>?_
 exact thn (hs pins s5 σ H5 x1 x2 x5 ov iv new _ I5 r1 r2 r5 q5) fun _ s6 ⟨H6,I6,q6⟩=>⟨σ,H6,I6,q6⟩
def ipI (f : Int→Int→Int) : TIp:=fun x y H Q=>∃ i j,x = .int i∧y = .int j∧Q (.int (f i j)) H
theorem ip_add : PIp X .Add (ipI fun i j=>i + j):=by
 intro pins s σ H x y v u Q I r1 r2 h
 obtain ⟨i,j,e1,e2,q⟩:=h
 subst e1; subst e2
 obtain ⟨t,rfl⟩:=r1
 obtain ⟨t',rfl⟩:=r2
 exact iadd_int ⟨.int _,H,I.tok _,⟨_,rfl⟩,q⟩
theorem ip_sub : PIp X .Sub (ipI fun i j=>i - j):=by
 intro pins s σ H x y v u Q I r1 r2 h
 obtain ⟨i,j,e1,e2,q⟩:=h
 subst e1; subst e2
 obtain ⟨t,rfl⟩:=r1
 obtain ⟨t',rfl⟩:=r2
 exact isub_int ⟨.int _,H,I.tok _,⟨_,rfl⟩,q⟩
end
section
variable {X : Cx} {pos : Pos}
def tWhile (c : TT) (tb : TS) : TS:=fun D σ H=>∃ W : Nat→St→Hp→Prop,(∃ m,W m σ H)∧∀ m σ H,W m σ H →
 c σ H fun b H1=>if b = true then ∃ N : St→Hp→Prop,(∀ σ' H',N σ' H'→∃ m',m' < m∧W m' σ' H')∧tb { D with nx:=N,ct:=N,bk:=D.nx } σ H1 else D.nx σ H1
theorem ps_while {c : Expr} {body : List Stmt} {tc : TT} {tb : TS} (hp : PassesOwn (model X.prog X.w) X.A X.env X.xe) (hc : PT X c tc) (hb : PSs X body tb) : PS X (.While c body [] pos) (tWhile tc tb):=by
 intro pins s σ H D I h
 obtain ⟨W,⟨m0,w0⟩,turn⟩:=h
 refine wpAny_While (codeAny_whileLoop (fun n s'=>∃ σ' H',Inv X pins σ' H' s'∧W n σ' H') ?_ m0 ⟨σ,H,I,w0⟩)
 rintro n s1 ⟨σ1,H1,I1,w1⟩
 refine wpAny_passesOwn hp (thn (hc pins s1 σ1 H1 _ I1 (turn n σ1 H1 w1)) fun b s2 ⟨H2,I2,q2⟩=>?_)
 cases b with
 | true =>
  obtain ⟨N,hN,q2⟩:=q2
  rw [if_pos rfl]
  refine wpAny_passesOwn hp (thn (hb pins s2 σ1 H2 _ I2 q2) fun f s3 q3=>?_)
  cases f with
  | next =>
   obtain ⟨σ3,H3,I3,n3⟩:=q3
   obtain ⟨m',hm,w3⟩:=hN σ3 H3 n3
   exact ⟨m',hm,σ3,H3,I3,w3⟩
  | cont =>
   obtain ⟨σ3,H3,I3,n3⟩:=q3
   obtain ⟨m',hm,w3⟩:=hN σ3 H3 n3
   exact ⟨m',hm,σ3,H3,I3,w3⟩
  | brk=>exact q3
  | ret v=>exact q3
 | false =>
  rw [if_neg Bool.false_ne_true]
  exact wpAny_execs_nil ⟨σ1,H2,I2,q2⟩
end
structure It where
 go : Nat→Hp→Prop
 yld : Nat→Hp→V→Hp→Prop
 stop : Nat→Hp→Prop
def FpOk (X : Cx) (pins : List (Addr × Obj)) (H : Hp) (b : Addr) : Prop :=
 H b = none∧b≠X.env.locals∧b∉X.fs∧(b∈X.ex∨X.s_0.heap.objs.size≤b)∧(∀ x c,X.env.cells.lookup x = some c→c≠b)∧∀ p∈X.pn ++ pins,p.1≠b
theorem Inv.fpOk {X : Cx} {pins : List (Addr × Obj)} {σ : St} {H H' : Hp} {s : Shared} {b : Addr} (I : Inv X pins σ H s) (hb : s.heap.objs.size≤b) (hn : H' b = none) : FpOk X pins H' b:=by
 refine ⟨hn,Nat.ne_of_gt (Nat.lt_of_lt_of_le I.lt hb),I.nofs hb,.inr (Nat.le_trans I.sz hb),fun x c e z=>?_,fun p hp z=>?_⟩
 ·obtain ⟨v,q⟩:=I.cell x c e
  exact absurd (Nat.lt_of_lt_of_le q.lt (by rw [z]; exact hb)) (Nat.lt_irrefl _)
 ·exact absurd (Nat.lt_of_lt_of_le (Heap.lt_size (I.pin p hp).1) (by rw [z]; exact hb)) (Nat.lt_irrefl _)
structure Turn (P : Program) (w : World) (K : PySem.W.Frag) (tg : Expr) (J : It) (fp : List Addr) (it : Addr) (tn : Nat→Heap→Prop) : Prop where
 mem : it∈fp
 obj : ∀ i h,tn i h→∀ b∈fp,∃ o,h.get? b = some o∧∀ v,o.data≠.cell v
 keep : ∀ i h h',tn i h→(∀ b∈fp,∀ o,h.get? b = some o→h'.get? b = some o)→tn i h'
 item : ∀ (X : Cx),X.prog = P→X.w = w→X.K = K→X.calm = true→∀ (i : Nat) (pins : List (Addr × Obj)) (s : Shared) (σ : St) (H : Hp) (E : Value→Shared→Prop),Inv X pins σ H s→(∀ b∈fp,FpOk X pins H b)→tn i s.heap→J.go i H →
  wpAny (model P w) X.A (pyNext (.ref it)) (fun r s1=>∃ u,r = some u ∧
   wpAny (model P w) X.A (letOwnedTupleGo tg (.ref it) u) (fun _ s2=>∃ x H',Inv X pins σ H' s2∧RelV x u∧J.yld i H x H'∧tn (i + 1) s2.heap∧∀ b∈fp,H' b = none) E s1) E s
 done : ∀ (X : Cx),X.prog = P→X.w = w→X.K = K→X.calm = true→∀ (i : Nat) (pins : List (Addr × Obj)) (s : Shared) (σ : St) (H : Hp) (E : Value→Shared→Prop),Inv X pins σ H s→(∀ b∈fp,FpOk X pins H b)→tn i s.heap→J.stop i H →
  wpAny (model P w) X.A (pyNext (.ref it)) (fun r s1=>r = none∧Inv X pins σ H s1) E s
 self : ∀ (A : Around) (i : Nat) (s : Shared) (Q : Value→Shared→Prop) (E : Value→Shared→Prop),tn i s.heap→Q (.ref it) s→wpAny (model P w) A (pyIter (.ref it)) Q E s
abbrev TI:=St→Hp→(It→Hp→Prop)→Prop
def PIE (X : Cx) (pins : List (Addr × Obj)) (σ : St) (tg : Expr) (R : It→Hp→Prop) (itv : Value) (s2 : Shared) : Prop :=
 ∃ (it : Addr) (fp : List Addr) (tn : Nat→Heap→Prop) (J : It) (H' : Hp),itv = .ref it∧Inv X pins σ H' s2∧Turn X.prog X.w X.K tg J fp it tn∧tn 0 s2.heap∧(∀ b∈fp,FpOk X pins H' b)∧R J H'
def PI (X : Cx) (tg iter : Expr) (wi : TI) : Prop :=
 ∀ (pins : List (Addr × Obj)) (s : Shared) (σ : St) (H : Hp) (R : It→Hp→Prop),Inv X pins σ H s→wi σ H R →
  wpAny (model X.prog X.w) X.A (eval iter X.env) (fun v s1=>wpAny (model X.prog X.w) X.A (pyIter v) (PIE X pins σ tg R) X.xe s1) X.xe s
theorem go_of {M : Model} {A : Around} {E : Value→Shared→Prop} {s : Shared} {tg : Expr} {it : Addr} {u : Value} {o : Obj} {n : String} {vs : Array Value} {Q : Unit→Shared→Prop} (ho : s.heap.get? it = some o) (hc : o.cls = .type n) (hd : o.data = .fields vs)
 (hn : ["enumerate","zip","dict_itemiterator","dict_reverseitemiterator","odict_iterator","itertools.zip_longest","itertools.pairwise"].contains n = false) (hQ : Q () s) : wpAny M A (letOwnedTupleGo tg (.ref it) u) Q E s:=by
 unfold letOwnedTupleGo
 cases tg <;> first
  | exact wpAny_pure hQ
  | (cases u <;> first
   | exact wpAny_pure hQ
   | (refine wpAny_bind (wpAny_load ho ?_)
      rw [hc,hd]
      show wpAny M A (if (["enumerate","zip","dict_itemiterator","dict_reverseitemiterator","odict_iterator","itertools.zip_longest","itertools.pairwise"].contains n && vs[0]? == some (rawInt _)) = true then _ else _) Q E s
      rw [if_neg (by intro h; rw [hn,Bool.false_and] at h; cases h)]
      exact wpAny_pure hQ))
def Itl (K : PySem.W.Frag) (a : Addr) : It :=
 ⟨fun i H=>∃ xs x,SqL K H a xs∧xs[i]? = some x,fun i H x H'=>H' = H∧∀ xs,SqL K H a xs→xs[i]? = some x,fun i H=>∃ xs,SqL K H a xs∧xs.length≤i⟩
def Itt (K : PySem.W.Frag) (a : Addr) : It :=
 ⟨fun i H=>∃ xs x,SqT K H a xs∧xs[i]? = some x,fun i H x H'=>H' = H∧∀ xs,SqT K H a xs→xs[i]? = some x,fun i H=>∃ xs,SqT K H a xs∧xs.length≤i⟩
def Itr (lo : Int) (n : Nat) : It:=⟨fun i _=>i < n,fun i H x H'=>H' = H∧x = .int (lo + i),fun i _=>n≤i⟩
theorem turn_list {P : Program} {w : World} {K : PySem.W.Frag} {tg : Expr} (a it : Addr) : Turn P w K tg (Itl K a) [it] it (fun i h=>h.IsListIter it a i) where
 mem:=by simp
 obj:=fun i h st b hb=>by
  have e : b = it:=by simpa using hb
  subst e
  obtain ⟨o,e,c,d⟩:=st
  exact ⟨o,e,fun v z=>by rw [d] at z; cases z⟩
 keep:=fun i h h' st k=>st.at fun o e=>k it (by simp) o e
 item:=by
  intro X hP hw hK hc i pins s σ H E I hf st hg
  subst hP hw hK
  obtain ⟨xs,x,hq,hx⟩:=hg
  obtain ⟨its,rv,p,hz⟩:=I.list hq
  obtain ⟨u,hu,ru⟩:=rv.get hx
  obtain ⟨f0,f1,f2,f3,f4,f5⟩:=hf it (by simp)
  refine wpAny_pyNext_list_item st p.isList (x:=u) (by simpa using hu) fun h' st' sb=>?_
  have I1 : Inv X pins σ H { s with heap:=h' }:=I.turned (t':=s.toks) (fun b o hb e=>(sb.2 b hb).trans e) f0 f1 f3 f4 f5
  obtain ⟨o,e,c,d⟩:=id st'
  exact ⟨u,rfl,go_of (s:={ s with heap:=h' }) e c d (by decide) ⟨x,H,I1,ru,⟨rfl,fun ys hy=>by rw [I.list_inj hy hq]; exact hx⟩,st',fun b hb=>(hf b hb).1⟩⟩
 done:=by
  intro X hP hw hK hc i pins s σ H E I hf st hg
  subst hP hw hK
  obtain ⟨xs,hq,hx⟩:=hg
  obtain ⟨its,rv,p,hz⟩:=I.list hq
  obtain ⟨f0,f1,f2,f3,f4,f5⟩:=hf it (by simp)
  have hl:=rv.length
  exact wpAny_pyNext_list_end (I.ok.hd hc) st p.isList (by simp; omega) fun h' eb=>⟨rfl,I.turned (t':=s.toks) (fun b o hb e=>eb b o hb e) f0 f1 f3 f4 f5⟩
 self:=fun _ _ _ _ _ st h=>wpAny_pyIter_listiter st h
theorem turn_tuple {P : Program} {w : World} {K : PySem.W.Frag} {tg : Expr} (a it : Addr) : Turn P w K tg (Itt K a) [it] it (fun i h=>h.IsTupleIter it a i) where
 mem:=by simp
 obj:=fun i h st b hb=>by
  have e : b = it:=by simpa using hb
  subst e
  obtain ⟨o,e,c,d⟩:=st
  exact ⟨o,e,fun v z=>by rw [d] at z; cases z⟩
 keep:=fun i h h' st k=>st.at fun o e=>k it (by simp) o e
 item:=by
  intro X hP hw hK hc i pins s σ H E I hf st hg
  subst hP hw hK
  obtain ⟨xs,x,hq,hx⟩:=hg
  obtain ⟨its,rv,p,hz⟩:=I.tuple hq
  obtain ⟨u,hu,ru⟩:=rv.get hx
  obtain ⟨f0,f1,f2,f3,f4,f5⟩:=hf it (by simp)
  refine wpAny_pyNext_tuple_item st (show s.heap.IsTuple a its.toArray from p) (x:=u) (by simpa using hu) fun h' st' sb=>?_
  have I1 : Inv X pins σ H { s with heap:=h' }:=I.turned (t':=s.toks) (fun b o hb e=>(sb.2 b hb).trans e) f0 f1 f3 f4 f5
  obtain ⟨o,e,c,d⟩:=id st'
  exact ⟨u,rfl,go_of (s:={ s with heap:=h' }) e c d (by decide) ⟨x,H,I1,ru,⟨rfl,fun ys hy=>by rw [I.tuple_inj hy hq]; exact hx⟩,st',fun b hb=>(hf b hb).1⟩⟩
 done:=by
  intro X hP hw hK hc i pins s σ H E I hf st hg
  subst hP hw hK
  obtain ⟨xs,hq,hx⟩:=hg
  obtain ⟨its,rv,p,hz⟩:=I.tuple hq
  obtain ⟨f0,f1,f2,f3,f4,f5⟩:=hf it (by simp)
  have hl:=rv.length
  exact wpAny_pyNext_tuple_end (I.ok.hd hc) st (show s.heap.IsTuple a its.toArray from p) (by simp; omega) fun h' eb=>⟨rfl,I.turned (t':=s.toks) (fun b o hb e=>eb b o hb e) f0 f1 f3 f4 f5⟩
 self:=fun _ _ _ _ _ st h=>wpAny_pyIter_tupleiter st h
theorem turn_range {P : Program} {w : World} {K : PySem.W.Frag} {tg : Expr} (it : Addr) (lo : Int) (n : Nat) : Turn P w K tg (Itr lo n) [it] it (fun i h=>IsRangeIter h it (lo + (i : Nat) * 1) ((n : Int) - (i : Nat)) 1) where
 mem:=by simp
 obj:=fun i h st b hb=>by
  have e : b = it:=by simpa using hb
  subst e
  exact ⟨_,st,fun v z=>by
   have z' : Data.fields _ = Data.cell v:=z
   cases z'⟩
 keep:=fun i h h' st k=>k it (by simp) _ st
 item:=by
  intro X hP hw hK hc i pins s σ H E I hf st hg
  subst hP hw hK
  obtain ⟨f0,f1,f2,f3,f4,f5⟩:=hf it (by simp)
  have W:=Walks.range (prog:=X.prog) (w:=X.w) (I.ok.hd hc) it lo 1 n
  refine W.item i s _ _ hg st fun v h' tk hv st' kk=>?_
  obtain ⟨t,rfl⟩:=hv
  have I1 : Inv X pins σ H { s with heap:=h',toks:=tk }:=I.turned (fun b o hb e=>kk b o (by simpa using hb) e) f0 f1 f3 f4 f5
  refine ⟨_,rfl,go_of (s:={ s with heap:=h',toks:=tk }) (n:="range_iterator") st' rfl rfl (by decide) ⟨.int (lo + i),H,I1,⟨t,?_⟩,⟨rfl,rfl⟩,st',fun b hb=>(hf b hb).1⟩⟩
  rw [Int.mul_one]
 done:=by
  intro X hP hw hK hc i pins s σ H E I hf st hg
  subst hP hw hK
  obtain ⟨f0,f1,f2,f3,f4,f5⟩:=hf it (by simp)
  exact wpAny_pyNext_range_end (I.ok.hd hc) st (by have : n≤i:=hg; omega) fun h' eb=>⟨rfl,I.turned (t':=s.toks) (fun b o hb e=>eb b o hb e) f0 f1 f3 f4 f5⟩
 self:=fun _ _ _ _ _ st h=>wpAny_pyIter_rangeiter st h
end L2
namespace L2
open PySem PySem.Spec PyProof.Rows
section
variable {X : Cx} {tg : Expr}
theorem range_it {pins : List (Addr × Obj)} {σ : St} {H : Hp} {s : Shared} {R : It→Hp→Prop} {E : Value→Shared→Prop} {lo hi : Int} {t u v : Tok} {tk : Nat} (I : Inv X pins σ H s) (h1 : -(2 ^ 62)≤lo) (h2 : lo < 2 ^ 62) (h3 : -(2 ^ 62)≤hi) (h4 : hi < 2 ^ 62)
 (q : R (Itr lo (hi - lo).toNat) H) : wpAny (model X.prog X.w) X.A (pyIter (.ref s.heap.objs.size)) (PIE X pins σ tg R) E { s with heap:=s.heap.push { cls:=.type "range",data:=.fields #[.int lo t,.int hi u,.int 1 v] },toks:=tk }:=by
 refine wpAny_pyIter_range (IsRange.new ..) (small_one h1 h2 h3 h4) ?_
 have I1 : Inv X pins σ H { s with heap:=s.heap.push { cls:=.type "range",data:=.fields #[.int lo t,.int hi u,.int 1 v] },toks:=tk }:=I.kept fun b o e=>Heap.get?_push_of_some _ e
 refine ⟨(s.heap.push { cls:=.type "range",data:=.fields #[.int lo t,.int hi u,.int 1 v] }).objs.size,[(s.heap.push { cls:=.type "range",data:=.fields #[.int lo t,.int hi u,.int 1 v] }).objs.size],_,_,H,rfl,
  I1.kept (t':=tk) fun b o e=>Heap.get?_push_of_some _ e,turn_range _ lo (hi - lo).toNat,?_,fun b hb=>?_,q⟩
 ·have e1 : lo + ((0 : Nat) : Int) * 1 = lo:=by simp
  have e2 : (((hi - lo).toNat : Nat) : Int) - ((0 : Nat) : Int) = Builtin.Range.rangeSize lo hi 1:=by rw [rangeSize_one]; split <;> omega
  show IsRangeIter _ _ (lo + ((0 : Nat) : Int) * 1) ((((hi - lo).toNat : Nat) : Int) - ((0 : Nat) : Int)) 1
  rw [e1,e2]
  exact Heap.get?_push_size _ rfl
 ·have e : b = (s.heap.push { cls:=.type "range",data:=.fields #[.int lo t,.int hi u,.int 1 v] }).objs.size:=by simpa using hb
  subst e
  exact I1.fpOk (Nat.le_refl _) (I1.hok.fresh (Nat.le_refl _))
def iRng1 (ta : TA) : TI:=fun σ H R=>ta σ H fun vs H1=>∃ j : Int,vs = [.int j]∧-(2 ^ 62)≤j∧j < 2 ^ 62∧R (Itr 0 j.toNat) H1
theorem pi_range1 {a : Expr} {ta : TA} {p pos : Pos} (hg : Gl X "range") (hm : X.mg "range" = none) (ha : PA X [a] ta) (hs : starEach [a] X.env = [(false,eval a X.env)]:=by rfl) : PI X tg (.Call (.Name "range" p) [a] [] pos) (iRng1 ta):=by
 intro pins s σ H R I h
 refine Call_ (ld_blt I hg hm boot_range (PyProof.Rows.callWith_type1 (thn (ha pos pins s σ H _ I h) fun us s1 ⟨vs,H1,I1,r1,q1⟩=>?_) hs rfl))
 obtain ⟨j,e,q1,q2,q⟩:=q1
 subst e
 cases r1 with
 | cons r rr =>
  cases rr
  obtain ⟨t,rfl⟩:=r
  exact call_range_1 (range_it I1 (by omega) (by omega) q1 q2 (by simpa using q))
def tFor (wi : TI) (g : TG) (tb : TS) : TS:=fun D σ H=>wi σ H fun J H1=>∃ W : Nat→Nat→St→Hp→Prop,(∃ m,W 0 m σ H1)∧∀ i m σ H,W i m σ H →
 (J.stop i H∧D.nx σ H)∨(J.go i H∧∃ N : St→Hp→Prop,(∀ σ' H',N σ' H'→∃ m',m' < m∧W (i + 1) m' σ' H')∧∀ x H',J.yld i H x H'→g x σ H' fun σ2 H2=>tb { D with nx:=N,ct:=N,bk:=D.nx } σ2 H2)
def pinsAt (fp : List Addr) (h : Heap) : List (Addr × Obj):=fp.filterMap fun b=>(h.get? b).map fun o=>(b,o)
theorem mem_pinsAt {fp : List Addr} {h : Heap} {b : Addr} {o : Obj} (hb : b∈fp) (e : h.get? b = some o) : (b,o)∈pinsAt fp h:=List.mem_filterMap.mpr ⟨b,hb,by rw [e]; rfl⟩
theorem of_pinsAt {fp : List Addr} {h : Heap} {p : Addr × Obj} (hp : p∈pinsAt fp h) : p.1∈fp∧h.get? p.1 = some p.2:=by
 obtain ⟨b,hb,e⟩:=List.mem_filterMap.mp hp
 cases q : h.get? b with
 | none=>rw [q] at e; cases e
 | some o =>
  rw [q] at e
  have e' : (b,o) = p:=Option.some.inj e
  subst e'
  exact ⟨hb,q⟩
theorem Inv.pinned {pins : List (Addr × Obj)} {σ : St} {H : Hp} {s : Shared} {fp : List Addr} (I : Inv X pins σ H s) (hf : ∀ b∈fp,FpOk X pins H b) (ho : ∀ b∈fp,∃ o,s.heap.get? b = some o∧∀ v,o.data≠.cell v) : Inv X (pins ++ pinsAt fp s.heap) σ H s :=
 I.pins_of fun p hp=>(List.mem_append.mp hp).elim (fun z=>I.pin p (List.mem_append_right _ z)) fun z=>by
  obtain ⟨hb,e⟩:=of_pinsAt z
  obtain ⟨f0,f1,f2,_⟩:=hf p.1 hb
  obtain ⟨o,e',d⟩:=ho p.1 hb
  rw [e] at e'; cases e'
  exact ⟨e,f0,f1,f2,d⟩
theorem Inv.unpinned {pins pl : List (Addr × Obj)} {σ : St} {H : Hp} {s : Shared} (I : Inv X (pins ++ pl) σ H s) : Inv X pins σ H s:=I.pins_of fun p hp=>I.pin p (List.mem_append_right _ (List.mem_append_left _ hp))
theorem ps_for {iter : Expr} {body : List Stmt} {wi : TI} {g : TG} {tb : TS} {pos : Pos} (hp : PassesOwn (model X.prog X.w) X.A X.env X.xe) (hc : X.calm = true) (hi : PI X tg iter wi) (hg : PG X tg g) (hb : PSs X body tb)
 (hs : ∀ x,foldedSetIterable iter X.env x = pure x:=by intro _; rfl) : PS X (.For tg iter body [] pos) (tFor wi g tb):=by
 intro pins s σ H D I h
 refine wpAny_For (thn (hi pins s σ H _ I h) fun v s1 h1=>thn h1 fun itv s2 h2=>?_) hs
 obtain ⟨it,fp,tn,J,H2,e,I2,T,st2,f2,W,⟨m0,w0⟩,turn⟩:=h2
 subst e
 have stat : ∀ {H' : Hp},(∀ b∈fp,H' b = none)→∀ b∈fp,FpOk X pins H' b:=fun hn b hb=>⟨hn b hb,(f2 b hb).2⟩
 refine codeAny_forLoop_any (fun n s'=>∃ i σ' H',Inv X pins σ' H' s'∧tn i s'.heap∧(∀ b∈fp,H' b = none)∧W i n σ' H') ?_ m0 ⟨0,σ,H2,I2,st2,fun b hb=>(f2 b hb).1,w0⟩
 rintro n s3 ⟨i,σ3,H3,I3,st3,fr3,w3⟩
 rcases turn i n σ3 H3 w3 with ⟨stop,qn⟩ | ⟨go,N,hN,step⟩
 ·refine wpAny_passesOwn hp (thn (T.done X rfl rfl rfl hc i pins s3 σ3 H3 X.xe I3 (stat fr3) st3 stop) fun r s4 ⟨hr,I4⟩=>?_)
  subst hr
  exact wpAny_execs_nil ⟨σ3,H3,I4,qn⟩
 ·refine wpAny_passesOwn hp (thn (T.item X rfl rfl rfl hc i pins s3 σ3 H3 X.xe I3 (stat fr3) st3 go) fun r s4 ⟨u,hr,h4⟩=>?_)
  subst hr
  refine wpAny_passesOwn hp (thn h4 fun _ s5 ⟨x,H5,I5,r5,y5,st5,fr5⟩=>?_)
  have I5':=I5.pinned (stat fr5) (T.obj _ _ st5)
  refine wpAny_passesOwn hp (thn (hg _ s5 σ3 H5 x u _ I5' r5 (step x H5 y5)) fun _ s6 ⟨σ6,H6,I6,q6⟩=>?_)
  refine wpAny_passesOwn hp (thn (hb _ s6 σ6 H6 _ I6 q6) fun f s7 q7=>?_)
  have again : ∀ {σ7 : St} {H7 : Hp},Inv X (pins ++ pinsAt fp s5.heap) σ7 H7 s7→N σ7 H7→∃ m,m < n∧∃ i σ' H',Inv X pins σ' H' s7∧tn i s7.heap∧(∀ b∈fp,H' b = none)∧W i m σ' H':=fun {σ7 H7} I7 n7=>by
   obtain ⟨m',hm,w7⟩:=hN σ7 H7 n7
   refine ⟨m',hm,i + 1,σ7,H7,I7.unpinned,T.keep _ _ _ st5 fun b hb o e=>(I7.pin (b,o) (List.mem_append_right _ (List.mem_append_right _ (mem_pinsAt hb e)))).1,fun b hb=>?_,w7⟩
   obtain ⟨o,e,d⟩:=T.obj _ _ st5 b hb
   exact (I7.pin (b,o) (List.mem_append_right _ (List.mem_append_right _ (mem_pinsAt hb e)))).2.1
  cases f with
  | next=>obtain ⟨σ7,H7,I7,n7⟩:=q7; exact again I7 n7
  | cont=>obtain ⟨σ7,H7,I7,n7⟩:=q7; exact again I7 n7
  | brk=>obtain ⟨σ7,H7,I7,q7⟩:=q7; exact ⟨σ7,H7,I7.unpinned,q7⟩
  | ret v=>obtain ⟨x7,σ7,H7,I7,r7,q7⟩:=q7; exact ⟨x7,σ7,H7,I7.unpinned,r7,q7⟩
end
theorem for_range {lo : Int} {n : Nat} {g : TG} {tb : TS} {D : Ends} {σ : St} {H : Hp} (Pv : Nat→St→Hp→Prop) (h0 : Pv 0 σ H)
 (hs : ∀ i σ H,i < n→Pv i σ H→g (.int (lo + i)) σ H fun σ2 H2=>tb { D with nx:=Pv (i + 1),ct:=Pv (i + 1),bk:=D.nx } σ2 H2) (hd : ∀ σ H,Pv n σ H→D.nx σ H) :
 ∃ W : Nat→Nat→St→Hp→Prop,(∃ m,W 0 m σ H)∧∀ i m σ H,W i m σ H →
  ((Itr lo n).stop i H∧D.nx σ H)∨((Itr lo n).go i H∧∃ N : St→Hp→Prop,(∀ σ' H',N σ' H'→∃ m',m' < m∧W (i + 1) m' σ' H')∧∀ x H',(Itr lo n).yld i H x H'→g x σ H' fun σ2 H2=>tb { D with nx:=N,ct:=N,bk:=D.nx } σ2 H2):=by
 refine ⟨fun i m σ H=>m = n - i∧i≤n∧Pv i σ H,⟨n,by simp,Nat.zero_le _,h0⟩,?_⟩
 rintro i m σ H ⟨rfl,hi,p⟩
 by_cases hlt : i < n
 ·refine .inr ⟨hlt,Pv (i + 1),fun σ' H' p'=>⟨n - (i + 1),by omega,rfl,hlt,p'⟩,fun x H' y=>?_⟩
  obtain ⟨e,y⟩:=y
  subst e y
  exact hs i σ _ hlt p
 ·have e : i = n:=by omega
  subst e
  exact .inl ⟨Nat.le_refl _,hd σ H p⟩
end L2
namespace L2
open PySem PySem.Spec PyProof.Rows
abbrev R2:=V→V→Hp→VK→Prop
def OpR (X : Cx) (f : Value→Value→Sem Value) (r : R2) : Prop :=
 ∀ (pins : List (Addr × Obj)) (s : Shared) (σ : St) (H : Hp) (x y : V) (v u : Value) (Q : VK),Inv X pins σ H s→RelV x v→RelV y u→r x y H Q →
  wpAny (model X.prog X.w) X.A (f v u) (EP X pins σ Q) X.xe s
def UnR (X : Cx) (f : Value→Sem Value) (r : V→Hp→VK→Prop) : Prop :=
 ∀ (pins : List (Addr × Obj)) (s : Shared) (σ : St) (H : Hp) (x : V) (v : Value) (Q : VK),Inv X pins σ H s→RelV x v→r x H Q →
  wpAny (model X.prog X.w) X.A (f v) (EP X pins σ Q) X.xe s
def CallR (X : Cx) (f : Value) (r : List V→Hp→VK→Prop) : Prop :=
 ∀ (pins : List (Addr × Obj)) (s : Shared) (σ : St) (H : Hp) (xs : List V) (us : List Value) (Q : VK),Inv X pins σ H s→Vals xs us→r xs H Q →
  wpAny (model X.prog X.w) X.A (call f us) (EP X pins σ Q) X.xe s
def tOp (r : R2) (ta tb : TE) : TE:=fun σ H Q=>ta σ H fun x H1=>tb σ H1 fun y H2=>r x y H2 Q
def tUn (r : V→Hp→VK→Prop) (ta : TE) : TE:=fun σ H Q=>ta σ H fun x H1=>r x H1 Q
def rI (C : Int→Int→Prop) (g : Int→Int→V) : R2:=fun x y H Q=>∃ i j,x = .int i∧y = .int j∧C i j∧Q (g i j) H
def rI0 (g : Int→Int→V) : R2:=fun x y H Q=>∃ i j,x = .int i∧y = .int j∧Q (g i j) H
def rU (g : Int→V) : V→Hp→VK→Prop:=fun x H Q=>∃ i,x = .int i∧Q (g i) H
section
variable {X : Cx} {a b c : Expr} {ta tb tc : TE} {pos : Pos}
theorem binT (ha : PE X a ta) (hb : PE X b tb) {pins : List (Addr × Obj)} {s : Shared} {σ : St} {H : Hp} {R : V→V→Hp→Prop} (I : Inv X pins σ H s)
 (h : ta σ H fun x H1=>tb σ H1 fun y H2=>R x y H2) {Q : Value→Shared→Prop} {f : Value→Value→Sem Value}
 (hf : ∀ v u s2 x y H2,Inv X pins σ H2 s2→RelV x v→RelV y u→R x y H2→wpAny (model X.prog X.w) X.A (f v u) Q X.xe s2) :
 wpAny (model X.prog X.w) X.A (eval a X.env) (fun v s₁=>wpAny (model X.prog X.w) X.A (eval b X.env) (fun u s₂=>wpAny (model X.prog X.w) X.A (f v u) Q X.xe s₂) X.xe s₁) X.xe s:=by
 refine thn (ha pins s σ H _ I h) fun v s1 ⟨x,H1,I1,r1,q1⟩=>?_
 refine thn (hb pins s1 σ H1 _ I1 q1) fun u s2 ⟨y,H2,I2,r2,q2⟩=>?_
 exact hf v u s2 x y H2 I2 r1 r2 q2
theorem pe_op {op : Operator} {r : R2} (ho : OpR X (binaryOp op) r) (ha : PE X a ta) (hb : PE X b tb) : PE X (.BinOp a op b pos) (tOp r ta tb):=by
 intro pins s σ H Q I h
 exact wpAny_BinOp (binT ha hb I h fun v u s2 x y H2 I2 rx ry q=>ho pins s2 σ H2 x y v u Q I2 rx ry q)
theorem pe_un {op : UnaryOp} {r : V→Hp→VK→Prop} (ho : UnR X (unaryOp op) r) (ha : PE X a ta) : PE X (.UnaryOp op a pos) (tUn r ta):=by
 intro pins s σ H Q I h
 exact UnaryOp_ (thn (ha pins s σ H _ I h) fun v s1 ⟨x,H1,I1,r1,q1⟩=>ho pins s1 σ H1 x v Q I1 r1 q1)
theorem opI {f : Value→Value→Sem Value} {C : Int→Int→Prop} {g : Int→Int→Int}
 (rule : ∀ (i j : Int) (t u : Tok) (s : Shared) (Q : Value→Shared→Prop) (E : Value→Shared→Prop),C i j→Q (.int (g i j) s.toks) { s with toks:=s.toks + 1 }→wpAny (model X.prog X.w) X.A (f (.int i t) (.int j u)) Q E s) :
 OpR X f (rI C fun i j=>.int (g i j)):=by
 intro pins s σ H x y v u Q I rx ry h
 obtain ⟨i,j,rfl,rfl,hc,q⟩:=h
 obtain ⟨t,rfl⟩:=rx
 obtain ⟨t',rfl⟩:=ry
 exact rule i j t t' s _ _ hc ⟨.int (g i j),H,I.tok _,⟨_,rfl⟩,q⟩
theorem opI0 {f : Value→Value→Sem Value} {g : Int→Int→Int}
 (rule : ∀ (i j : Int) (t u : Tok) (s : Shared) (Q : Value→Shared→Prop) (E : Value→Shared→Prop),Q (.int (g i j) s.toks) { s with toks:=s.toks + 1 }→wpAny (model X.prog X.w) X.A (f (.int i t) (.int j u)) Q E s) :
 OpR X f (rI0 fun i j=>.int (g i j)):=by
 intro pins s σ H x y v u Q I rx ry h
 obtain ⟨i,j,rfl,rfl,q⟩:=h
 obtain ⟨t,rfl⟩:=rx
 obtain ⟨t',rfl⟩:=ry
 exact rule i j t t' s _ _ ⟨.int (g i j),H,I.tok _,⟨_,rfl⟩,q⟩
theorem opB0 {f : Value→Value→Sem Value} {g : Int→Int→Bool}
 (rule : ∀ (i j : Int) (t u : Tok) (s : Shared) (Q : Value→Shared→Prop) (E : Value→Shared→Prop),Q (.bool (g i j)) s→wpAny (model X.prog X.w) X.A (f (.int i t) (.int j u)) Q E s) :
 OpR X f (rI0 fun i j=>.bl (g i j)):=by
 intro pins s σ H x y v u Q I rx ry h
 obtain ⟨i,j,rfl,rfl,q⟩:=h
 obtain ⟨t,rfl⟩:=rx
 obtain ⟨t',rfl⟩:=ry
 exact rule i j t t' s _ _ ⟨.bl (g i j),H,I,rfl,q⟩
def CPow (i j : Int) : Prop:=0≤j∧j≤1000000∧i.natAbs < 2 ^ 64
theorem two_pow_nn (k : Nat) : (0 : Int)≤2 ^ k:=by
 rw [two_pow_cast]
 exact Int.natCast_nonneg _
theorem op_add : OpR X (binaryOp .Add) (rI0 fun i j=>.int (i + j)):=opI0 fun _ _ _ _ _ _ _ q=>add_int q
theorem op_sub : OpR X (binaryOp .Sub) (rI0 fun i j=>.int (i - j)):=opI0 fun _ _ _ _ _ _ _ q=>sub_int q
theorem op_shl : OpR X (binaryOp .LShift) (rI CPow fun i j=>.int (i * 2 ^ j.toNat)):=opI fun _ _ _ _ _ _ _ hc q=>lshift_int_small hc.1 hc.2.1 hc.2.2 q
theorem op_shr : OpR X (binaryOp .RShift) (rI (fun _ j=>0≤j) fun i j=>.int (i / 2 ^ j.toNat)):=opI fun i j _ _ _ _ _ hc q =>
 rshift_int hc (by rw [Int.fdiv_eq_ediv_of_nonneg i (two_pow_nn _)]; exact q)
theorem op_and : OpR X (binaryOp .BitAnd) (rI0 fun i j=>.int (Builtin.bitAnd i j)):=opI0 fun _ _ _ _ _ _ _ q=>and_int q
theorem unI {f : Value→Sem Value} {g : Int→Int}
 (rule : ∀ (i : Int) (t : Tok) (s : Shared) (Q : Value→Shared→Prop) (E : Value→Shared→Prop),Q (.int (g i) s.toks) { s with toks:=s.toks + 1 }→wpAny (model X.prog X.w) X.A (f (.int i t)) Q E s) :
 UnR X f (rU fun i=>.int (g i)):=by
 intro pins s σ H x v Q I rx h
 obtain ⟨i,rfl,q⟩:=h
 obtain ⟨t,rfl⟩:=rx
 exact rule i t s _ _ ⟨.int (g i),H,I.tok _,⟨_,rfl⟩,q⟩
theorem un_neg : UnR X (unaryOp .USub) (rU fun i=>.int (-i)):=unI fun _ _ _ _ _ q=>neg_int q
end
def scal : V→V→Bool
 | .non,.non=>true | .non,.int _=>true | .int _,.non=>true | .non,.bl _=>true | .bl _,.non=>true | .non,.str _=>true | .str _,.non=>true
 | .int _,.int _=>true | .bl _,.bl _=>true | .str _,.str _=>true | .byt _,.byt _=>true
 | .int _,.str _=>true | .str _,.int _=>true | .bl _,.str _=>true | .str _,.bl _=>true
 | _,_=>false
def rEq : R2:=fun x y H Q=>scal x y = true∧Q (.bl (decide (x = y))) H
def rNe : R2:=fun x y H Q=>scal x y = true∧Q (.bl (!decide (x = y))) H
theorem dec_int {i j : Int} : decide (V.int i = V.int j) = (i == j):=by
 rw [Bool.eq_iff_iff]
 simp
theorem dec_bl {i j : Bool} : decide (V.bl i = V.bl j) = (i == j):=by
 rw [Bool.eq_iff_iff]
 simp
theorem dec_str {i j : Str} : decide (V.str i = V.str j) = (i == j):=by
 rw [Bool.eq_iff_iff]
 simp
theorem dec_byt {i j : Array UInt8} : decide (V.byt i = V.byt j) = (i.toList == j.toList):=by
 rw [Bool.eq_iff_iff]
 cases i
 cases j
 simp
section
variable {X : Cx} {a b c : Expr} {ta tb tc : TE} {pos : Pos}
theorem fin_bl {pins : List (Addr × Obj)} {σ : St} {H : Hp} {s : Shared} {Q : VK} {k k' : Bool} (I : Inv X pins σ H s) (q : Q (.bl k) H) (e : k = k') : EP X pins σ Q (.bool k') s:=by
 subst e
 exact ⟨.bl k,H,I,rfl,q⟩
theorem op_eq : OpR X (compareOp .Eq) rEq:=by
 intro pins s σ H x y v u Q I rx ry h
 obtain ⟨hs,q⟩:=h
 cases x with
 | non =>
  cases rx
  cases y with
  | non=>cases ry; exact PySem.EqNone.eq_none_none (fin_bl I q (by simp))
  | bl j=>cases ry; exact PySem.EqNone.eq_none_bool (fin_bl I q (by simp))
  | int j=>obtain ⟨t',rfl⟩:=ry; exact PySem.EqNone.eq_none_int (fin_bl I q (by simp))
  | str j=>obtain ⟨t',rfl⟩:=ry; exact PySem.EqNone.eq_none_str (fin_bl I q (by simp))
  | _=>exact absurd (show false = true from hs) Bool.false_ne_true
 | bl i =>
  cases rx
  cases y with
  | non=>cases ry; exact PySem.EqNone.eq_bool_none (fin_bl I q (by simp))
  | bl j=>cases ry; exact eq_bool (fin_bl I q dec_bl)
  | str j=>obtain ⟨t',rfl⟩:=ry; exact PySem.EqMixed.eq_bool_str (fin_bl I q (by simp))
  | _=>exact absurd (show false = true from hs) Bool.false_ne_true
 | int i =>
  obtain ⟨t,rfl⟩:=rx
  cases y with
  | non=>cases ry; exact PySem.EqNone.eq_int_none (fin_bl I q (by simp))
  | int j=>obtain ⟨t',rfl⟩:=ry; exact eq_int (fin_bl I q dec_int)
  | str j=>obtain ⟨t',rfl⟩:=ry; exact PySem.EqMixed.eq_int_str (fin_bl I q (by simp))
  | _=>exact absurd (show false = true from hs) Bool.false_ne_true
 | str i =>
  obtain ⟨t,rfl⟩:=rx
  cases y with
  | non=>cases ry; exact PySem.EqNone.eq_str_none (fin_bl I q (by simp))
  | bl j=>cases ry; exact PySem.EqMixed.eq_str_bool (fin_bl I q (by simp))
  | int j=>obtain ⟨t',rfl⟩:=ry; exact PySem.EqMixed.eq_str_int (fin_bl I q (by simp))
  | str j=>obtain ⟨t',rfl⟩:=ry; exact eq_str (fin_bl I q dec_str)
  | _=>exact absurd (show false = true from hs) Bool.false_ne_true
 | byt i =>
  obtain ⟨t,rfl⟩:=rx
  cases y with
  | byt j=>obtain ⟨t',rfl⟩:=ry; exact PySem.W.eq_bytes (fin_bl I q dec_byt)
  | _=>exact absurd (show false = true from hs) Bool.false_ne_true
 | _=>cases y <;> exact absurd (show false = true from hs) Bool.false_ne_true
theorem op_ne : OpR X (compareOp .NotEq) rNe:=by
 intro pins s σ H x y v u Q I rx ry h
 obtain ⟨hs,q⟩:=h
 cases x with
 | non =>
  cases rx
  cases y with
  | non=>cases ry; exact PySem.EqNone.ne_none_none (fin_bl I q (by simp))
  | bl j=>cases ry; exact PySem.EqNone.ne_none_bool (fin_bl I q (by simp))
  | int j=>obtain ⟨t',rfl⟩:=ry; exact PySem.EqNone.ne_none_int (fin_bl I q (by simp))
  | str j=>obtain ⟨t',rfl⟩:=ry; exact PySem.EqNone.ne_none_str (fin_bl I q (by simp))
  | _=>exact absurd (show false = true from hs) Bool.false_ne_true
 | bl i =>
  cases rx
  cases y with
  | non=>cases ry; exact PySem.EqNone.ne_bool_none (fin_bl I q (by simp))
  | bl j=>cases ry; exact ne_bool (fin_bl I q (congrArg not dec_bl))
  | str j=>obtain ⟨t',rfl⟩:=ry; exact PySem.EqMixed.ne_bool_str (fin_bl I q (by simp))
  | _=>exact absurd (show false = true from hs) Bool.false_ne_true
 | int i =>
  obtain ⟨t,rfl⟩:=rx
  cases y with
  | non=>cases ry; exact PySem.EqNone.ne_int_none (fin_bl I q (by simp))
  | int j=>obtain ⟨t',rfl⟩:=ry; exact ne_int (fin_bl I q (congrArg not dec_int))
  | str j=>obtain ⟨t',rfl⟩:=ry; exact PySem.EqMixed.ne_int_str (fin_bl I q (by simp))
  | _=>exact absurd (show false = true from hs) Bool.false_ne_true
 | str i =>
  obtain ⟨t,rfl⟩:=rx
  cases y with
  | non=>cases ry; exact PySem.EqNone.ne_str_none (fin_bl I q (by simp))
  | bl j=>cases ry; exact PySem.EqMixed.ne_str_bool (fin_bl I q (by simp))
  | int j=>obtain ⟨t',rfl⟩:=ry; exact PySem.EqMixed.ne_str_int (fin_bl I q (by simp))
  | str j=>obtain ⟨t',rfl⟩:=ry; exact ne_str (fin_bl I q (congrArg not dec_str))
  | _=>exact absurd (show false = true from hs) Bool.false_ne_true
 | byt i =>
  obtain ⟨t,rfl⟩:=rx
  cases y with
  | byt j=>obtain ⟨t',rfl⟩:=ry; exact PySem.W.ne_bytes (fin_bl I q (congrArg not dec_byt))
  | _=>exact absurd (show false = true from hs) Bool.false_ne_true
 | _=>cases y <;> exact absurd (show false = true from hs) Bool.false_ne_true
theorem op_lt : OpR X (compareOp .Lt) (rI0 fun i j=>.bl (decide (i < j))):=opB0 fun _ _ _ _ _ _ _ q=>lt_int q
theorem op_le : OpR X (compareOp .LtE) (rI0 fun i j=>.bl (decide (i≤j))):=opB0 fun _ _ _ _ _ _ _ q=>le_int q
theorem op_gt : OpR X (compareOp .Gt) (rI0 fun i j=>.bl (decide (j < i))):=opB0 fun _ _ _ _ _ _ _ q=>gt_int q
theorem op_ge : OpR X (compareOp .GtE) (rI0 fun i j=>.bl (decide (j≤i))):=opB0 fun _ _ _ _ _ _ _ q=>ge_int q
theorem op_isN : OpR X (compareOp .Is) (fun x y H Q=>y = .non∧Q (.bl (decide (x = .non))) H):=by
 intro pins s σ H x y v u Q I rx ry h
 obtain ⟨rfl,q⟩:=h
 cases ry
 refine is_none_gen (fin_bl I q ?_)
 cases x <;> first
  | (cases rx; rfl)
  | (obtain ⟨t,rfl⟩:=rx; rfl)
theorem nomark (b : Expr) {op : CmpOp} (h : op≠.In:=by decide) (h2 : op≠.NotIn:=by decide) : behindInMarks op b = false:=by
 have e1 : (op == CmpOp.In) = false:=by cases op <;> first | rfl | exact absurd rfl h
 have e2 : (op == CmpOp.NotIn) = false:=by cases op <;> first | rfl | exact absurd rfl h2
 cases b <;> simp [behindInMarks,e1,e2]
theorem pe_cmpR {op : CmpOp} {r : R2} (ho : OpR X (compareOp op) r) (ha : PE X a ta) (hb : PE X b tb) (hm : behindInMarks op b = false) : PE X (.Compare a [op] [b] pos) (tOp r ta tb):=by
 intro pins s σ H Q I h
 exact wpAny_Compare1 (binT ha hb I h fun v u s2 x y H2 I2 rx ry q=>ho pins s2 σ H2 x y v u Q I2 rx ry q) hm
def tTest (t : TE) : TT:=fun σ H Q=>t σ H fun x H'=>∃ k,x = .bl k∧Q k H'
theorem pt_cmpR {op : CmpOp} {r : R2} (ho : OpR X (compareOp op) r) (ha : PE X a ta) (hb : PE X b tb) (hm : behindInMarks op b = false) : PT X (.Compare a [op] [b] pos) (tTest (tOp r ta tb)):=by
 intro pins s σ H Q I h
 refine wpAny_isTrue_Compare1 (thn (ha pins s σ H _ I h) fun v s1 ⟨x,H1,I1,r1,q1⟩=>thn (hb pins s1 σ H1 _ I1 q1) fun u s2 ⟨y,H2,I2,r2,q2⟩ =>
  thn (ho pins s2 σ H2 x y v u _ I2 r1 r2 q2) fun c s3 ⟨z,H3,I3,r3,k,e,q3⟩=>?_) hm
 subst e
 cases r3
 exact wpAny_truthy_bool ⟨H3,I3,q3⟩
def tChain (r r' : R2) (ta tb tc : TE) : TE:=fun σ H Q=>ta σ H fun x H1=>tb σ H1 fun y H2=>r x y H2 fun z H3=>∃ k,z = .bl k ∧
 (if k = true then tc σ H3 fun w' H4=>r' y w' H4 Q else Q (.bl false) H3)
theorem pe_chain {op op' : CmpOp} {r r' : R2} (ho : OpR X (compareOp op) r) (ho' : OpR X (compareOp op') r') (ha : PE X a ta) (hb : PE X b tb) (hc : PE X c tc)
 (hm : lastMarks [op,op'] [b,c] = false:=by with_unfolding_all rfl) : PE X (.Compare a [op,op'] [b,c] pos) (tChain r r' ta tb tc):=by
 intro pins s σ H Q I h
 refine Compare_chain (thn (ha pins s σ H _ I h) fun v s1 ⟨x,H1,I1,r1,q1⟩=>chain_link (thn (hb pins s1 σ H1 _ I1 q1) fun u s2 ⟨y,H2,I2,r2,q2⟩ =>
  thn (ho pins s2 σ H2 x y v u _ I2 r1 r2 q2) fun d s3 ⟨z,H3,I3,r3,k,e,q3⟩=>?_)) hm
 subst e
 cases r3
 refine wpAny_truthy_bool ?_
 cases k with
 | false=>exact ite_ff ⟨.bl false,H3,I3,rfl,q3⟩
 | true=>exact ite_tt (chain_last (thn (hc pins s3 σ H3 _ I3 q3) fun w' s4 ⟨z',H4,I4,r4,q4⟩=>ho' pins s4 σ H4 y z' u w' Q I4 r2 r4 q4))
theorem line63 : (sizeLine : Nat) < 2 ^ 63:=by rw [sizeLine_eq]; decide
theorem vals1 {x : V} {us : List Value} (r : Vals [x] us) : ∃ u,us = [u]∧RelV x u:=by
 cases r with
 | cons r1 r2=>cases r2; exact ⟨_,rfl,r1⟩
theorem call_ord : CallR X (.builtin "ord") (fun xs H Q=>∃ x,xs = [.str x]∧x.length = 1∧Q (.int (x.cps.getD 0 0 : Nat)) H):=by
 intro pins s σ H xs us Q I r h
 obtain ⟨x,rfl,hz,q⟩:=h
 obtain ⟨u,rfl,t,rfl⟩:=vals1 r
 exact ord_of_one hz ⟨.int _,H,I.tok _,⟨_,rfl⟩,q⟩
end
end L2
namespace L2
open PySem PySem.Spec PyProof.Rows
structure ObjM (h : Heap) (x dx C : Addr) (mA : Str→Option Value) : Prop where
 obj : h.get? x = some (PySem.W.instObj C dx)
 ns : h.Ns1 dx mA
 ne : dx≠x
theorem lookIn_ns {h : Heap} {dx : Addr} {mA : Str→Option Value} (n : h.Ns1 dx mA) : ∃ od,h.get? dx = some od∧∀ name,PySem.W.lookIn name od = some (mA name):=by
 obtain ⟨o,es,ep,ho,hd,hk,_,hm⟩:=n
 refine ⟨o,ho,fun name=>?_⟩
 have e:=hm name
 unfold nsFind findBy at e
 rw [← Array.find?_toList] at e
 unfold PySem.W.lookIn
 rw [hd]
 dsimp only
 split
 ·rename_i y q
  rw [q] at e
  exact congrArg some e
 ·rename_i q
  rw [q] at e
  have a : es.toList.any (·.refKey) = false:=by
   rw [List.any_eq_false]
   intro y hy
   obtain ⟨z,t,hkey⟩:=hk y (Array.mem_toList_iff.mp hy)
   simp [DictEntry.refKey,hkey]
  have a' : ¬ es.toList.any (·.refKey) = true:=by rw [a]; exact Bool.false_ne_true
  rw [if_neg a']
  exact congrArg some e
theorem ObjM.look {h : Heap} {x dx C : Addr} {mA : Str→Option Value} (I : ObjM h x dx C mA) : ∃ od,PySem.W.InstAt h x (PySem.W.instObj C dx) C (some od)∧∀ name,PySem.W.lookIn name od = some (mA name) :=
 let ⟨od,ho,hl⟩:=lookIn_ns I.ns
 ⟨od,⟨I.obj,rfl,rfl,ho⟩,hl⟩
section
variable {prog : Program} {w : World} {A : Around} {E : Value→Shared→Prop} {s : Shared} {K : PySem.W.Frag} {x dx C f : Addr} {mA : Str→Option Value} {name : Str} {v : Value}
theorem get_map {expr : Bool} {Q : Value→Shared→Prop} (X : K.In s.heap) (I : ObjM s.heap x dx C mA) (hg : PySem.W.plainGet K C name = true) (hh : PySem.W.hasDictIn K C = true)
 (ha : PySem.W.findIn K (.ref C) name = some none) (hv : mA name = some v) (hv' : PySem.W.handedIn v = true) (h : Q v { s with toks:=s.toks + 1 }) :
 wpAny (model prog w) A (getAttr (.ref x) name expr) Q E s:=by
 obtain ⟨od,J,hl⟩:=I.look
 exact PySem.W.get_value X J (PySem.W.plainGet_of hg).1 (PySem.W.findObj_own hh ha rfl (by rw [hl,hv])) hv' h
theorem set_map {ns : List Str} {Q : Unit→Shared→Prop} (X : K.In s.heap) (I : ObjM s.heap x dx C mA)
 (hs : PySem.W.findIn K (.ref C) "__setattr__" = some (some (.builtin "object.__setattr__"))) (hp : PySem.W.plainOver K C = true) (ht : PySem.W.takerIn K C name = some none) (hh : PySem.W.hasDictIn K C = true)
 (hw : PySem.Within mA ns) (hsz : ns.length≤sizeLine)
 (h : ∀ h',ObjM h' x dx C (fun y=>if y = name then some v else mA y)→Heap.SameBut dx s.heap h'→Q () { s with heap:=h',toks:=s.toks + 2 }) :
 wpAny (model prog w) A (setAttr (.ref x) name v) Q E s:=by
 obtain ⟨od,J,hl⟩:=I.look
 refine PySem.W.set_plain X J hs (PySem.W.osa_open (s:={ s with toks:=s.toks + 1 }) (r:=none) X J hp ht fun b=>?_)
 obtain ⟨cd,hc,hd'⟩:=PySem.W.any_some hh
 have hx : s.heap.get? x = some ⟨.ref C,some dx,.plain,#[]⟩:=I.obj
 refine wpAny_bind (wpAny_pure (wpAny_bind (wpAny_bind (wpAny_loadPart hx (wpAny_bind (PySem.W.Looks.here (s:={ s with toks:=s.toks + 1 }) (PySem.W.looks_clsIn X hc) ?_))))))
 rw [hd']
 refine wpAny_pure (a:=some dx) (wpAny_bind (wpAny_pure (wpAny_bind ?_)))
 refine wpAny_nsSet1 (s:={ s with toks:=s.toks + 1 }) I.ns fun h' hn2 hs2=>?_
 obtain ⟨oD,esD,epD,hoD,hdD,hcD⟩:=hn2.count (PySem.Within.cons name v hw)
 refine wpAny_bind (wpAny_lookBehind hoD (by rw [hdD]; exact pastItsLine_dict (Nat.le_trans hcD (by rw [List.length_cons]; omega))) ?_)
 exact wpAny_pure (h _ ⟨(hs2.2 _ (Ne.symm I.ne)).trans I.obj,hn2,I.ne⟩ hs2)
theorem make_map {R : Result→Shared→Prop} {vs : List Value} {kw : List (Str × Value)} (X : K.In s.heap) (hm : PySem.W.makesIn K C = true)
 (hi : PySem.W.findIn K (.ref C) "__init__" = some (some (.ref f))) (hf : PySem.W.typeIn K (.ref f) = some (.type "function"))
 (h : codeAny (model prog w) (A.under (.builtin "type.__call__" ⟨.ref C :: vs,kw⟩)) (.call (.ref f) ⟨.ref (s.heap.objs.size + 1) :: vs,kw⟩) (PySem.W.InitBack (s.heap.objs.size + 1) R)
  { s with heap:=(s.heap.push PySem.W.emptyDict).push (PySem.W.instObj C s.heap.objs.size) }) :
 codeAny (model prog w) A (.call (.ref C) ⟨vs,kw⟩) R s:=by
 obtain ⟨hh,g,d,t,os⟩:=s
 exact PySem.W.make_core (PySem.W.makes_of X hm) (PySem.W.looks_findIn X hi) (fun self=>PySem.W.bind_fn X self hf) (.inl rfl) h
end
def putF (f : Str) (v : V) : List (Str × V)→List (Str × V)
 | []=>[(f,v)]
 | (g,x) :: r=>if g = f then (g,v) :: r else (g,x) :: putF f v r
theorem lookup_putF (f g : Str) (v : V) : ∀ fs : List (Str × V),(putF f v fs).lookup g = if g = f then some v else fs.lookup g
 | []=>by
  show List.lookup g [(f,v)] = _
  by_cases h : g = f
  ·have hb : (g == f) = true:=beq_iff_eq.mpr h
   simp only [List.lookup,hb,if_pos h]
  ·have hb : (g == f) = false:=beq_eq_false_iff_ne.mpr h
   simp only [List.lookup,hb,if_neg h]
 | (k,x) :: r=>by
  have ih:=lookup_putF f g v r
  rw [show putF f v ((k,x) :: r) = (if k = f then (k,v) :: r else (k,x) :: putF f v r) from rfl]
  by_cases hk : k = f
  ·rw [if_pos hk]
   by_cases h : g = k
   ·have hb : (g == k) = true:=beq_iff_eq.mpr h
    simp only [List.lookup,hb,if_pos (h.trans hk)]
   ·have hb : (g == k) = false:=beq_eq_false_iff_ne.mpr h
    simp only [List.lookup,hb,if_neg (fun e : g = f=>h (e.trans hk.symm))]
  ·rw [if_neg hk]
   by_cases h : g = k
   ·have hb : (g == k) = true:=beq_iff_eq.mpr h
    simp only [List.lookup,hb,if_neg (fun e : g = f=>hk (h.symm.trans e))]
   ·have hb : (g == k) = false:=beq_eq_false_iff_ne.mpr h
    simp only [List.lookup,hb]
    exact ih
theorem keys_putF (f : Str) (v : V) : ∀ fs : List (Str × V),f∈(putF f v fs).map (·.1)∧∀ g,g∈fs.map (·.1)→g∈(putF f v fs).map (·.1)
 | []=>⟨by simp [putF],fun g h=>by simp at h⟩
 | (k,x) :: r=>by
  obtain ⟨i1,i2⟩:=keys_putF f v r
  rw [show putF f v ((k,x) :: r) = (if k = f then (k,v) :: r else (k,x) :: putF f v r) from rfl]
  by_cases hk : k = f
  ·rw [if_pos hk]
   subst hk
   exact ⟨by simp,fun g h=>by simpa using h⟩
  ·rw [if_neg hk]
   refine ⟨?_,fun g h=>?_⟩
   ·rw [List.map_cons]
    exact List.mem_cons_of_mem _ i1
   ·rw [List.map_cons] at h ⊢
    rcases List.mem_cons.mp h with e | e
    ·exact List.mem_cons.mpr (.inl e)
    ·exact List.mem_cons_of_mem _ (i2 g e)
theorem length_putF (f : Str) (v : V) : ∀ fs : List (Str × V),(putF f v fs).length≤fs.length + 1
 | []=>by simp [putF]
 | (k,x) :: r=>by
  have ih:=length_putF f v r
  rw [show putF f v ((k,x) :: r) = (if k = f then (k,v) :: r else (k,x) :: putF f v r) from rfl]
  by_cases hk : k = f
  ·rw [if_pos hk,List.length_cons,List.length_cons]; omega
  ·rw [if_neg hk,List.length_cons,List.length_cons]; omega
theorem RelO.some_of {v : V} {o : Option Value} (r : RelO (some v) o) : ∃ u,o = some u∧RelV v u:=by
 cases o with
 | none=>exact (show False from r).elim
 | some u=>exact ⟨u,rfl,r⟩
theorem handed_of {v : V} {u : Value} (r : RelV v u) : PySem.W.handedIn u = true:=by
 cases v with
 | non=>cases (show u = Value.none from r); rfl
 | bl b=>cases (show u = Value.bool b from r); rfl
 | int i=>obtain ⟨t,e⟩:=(show ∃ t,u = Value.int i t from r); cases e; rfl
 | str x=>obtain ⟨t,e⟩:=(show ∃ t,u = Value.str x t from r); cases e; rfl
 | byt b=>obtain ⟨t,e⟩:=(show ∃ t,u = Value.bytes b t from r); cases e; rfl
 | flt b=>obtain ⟨t,e⟩:=(show ∃ t,u = Value.float b t from r); cases e; rfl
 | ref a=>cases (show u = Value.ref a from r); rfl
 | ty n=>cases (show u = Value.type n from r); rfl
section
variable {P : Program} {w : World} {H H' : Hp} {h h' : Heap} {a C dx : Addr} {fs fs' : List (Str × V)}
theorem ins_get (hok : HOk P w H h) (e : H a = some (.ins C dx fs)) : ∃ mA,ObjM h a dx C mA∧(∀ f,RelO (fs.lookup f) (mA f))∧PySem.Within mA (fs.map (·.1))∧fs.length≤1000∧H dx = some (.own a):=by
 obtain ⟨d,z,ne,ob,mA,n,r,q⟩:=(show ObjOk P w H h a (.ins C dx fs) from hok a _ e)
 exact ⟨mA,⟨ob,n,ne⟩,r,q,z,d⟩
end
structure Cls (K : PySem.W.Frag) (C : Addr) : Prop where
 pg : PySem.W.plainGet K C Str.empty = true
 hd : PySem.W.hasDictIn K C = true
 po : PySem.W.plainOver K C = true
 sa : PySem.W.findIn K (.ref C) "__setattr__" = some (some (.builtin "object.__setattr__"))
theorem Cls.get {K : PySem.W.Frag} {C : Addr} (c : Cls K C) (f : Str) : PySem.W.plainGet K C f = true:=c.pg
def NoAttr (K : PySem.W.Frag) (C : Addr) (f : Str) : Prop:=PySem.W.findIn K (.ref C) f = some none
theorem NoAttr.taker {K : PySem.W.Frag} {C : Addr} {f : Str} (n : NoAttr K C f) : PySem.W.takerIn K C f = some none:=by
 unfold PySem.W.takerIn
 rw [show PySem.W.findIn K (.ref C) f = some none from n]
 rfl
section
variable {X : Cx} {pins : List (Addr × Obj)} {σ : St} {H : Hp} {s : Shared} {a C dx : Addr} {fs : List (Str × V)} {f : Str} {v : V} {A : Around} {E : Value→Shared→Prop}
theorem getattr_ok {b : Bool} {Q : Value→Shared→Prop} (I : Inv X pins σ H s) (e : H a = some (.ins C dx fs)) (c : Cls X.K C) (n : NoAttr X.K C f) (l : fs.lookup f = some v)
 (h : ∀ u s',Inv X pins σ H s'→RelV v u→Q u s') : wpAny (model X.prog X.w) A (getAttr (.ref a) f b) Q E s:=by
 obtain ⟨mA,O,r,_,_,_⟩:=ins_get I.hok e
 obtain ⟨u,hu,ru⟩:=RelO.some_of (v:=v) (o:=mA f) (by rw [← l]; exact r f)
 exact get_map I.kIn O (c.get f) c.hd n hu (handed_of ru) (h u _ (I.tok _) ru)
theorem setattr_ok {y : V} {u : Value} {Q : Unit→Shared→Prop} (I : Inv X pins σ H s) (e : H a = some (.ins C dx fs)) (c : Cls X.K C) (n : NoAttr X.K C f) (hl : fs.length < 1000) (ry : RelV y u)
 (h : ∀ s',Inv X pins σ (upd H a (.ins C dx (putF f y fs))) s'→Q () s') : wpAny (model X.prog X.w) A (setAttr (.ref a) f u) Q E s:=by
 obtain ⟨mA,O,r,wi,_,ho⟩:=ins_get I.hok e
 have hz : (fs.map (·.1)).length≤sizeLine:=by rw [List.length_map,sizeLine_eq]; omega
 refine set_map I.kIn O c.sa c.po n.taker c.hd wi hz fun h' O' sb=>h _ ?_
 have hd : ∃ o,h'.get? dx = some o:=let ⟨o,_,_,e',_⟩:=O'.ns; ⟨o,e'⟩
 refine I.write (x:=a) (e:=dx) (by rw [e]; exact True.intro) (.inr ho) (fun b q hb z=>(sb.2 b hb).trans z) hd ?_
 refine ⟨by rw [upd_ne O.ne]; exact ho,?_,O.ne,O'.obj,_,O'.ns,fun g=>?_,fun g hg=>?_⟩
 ·have:=length_putF f y fs; omega
 ·show RelO ((putF f y fs).lookup g) (if g = f then some u else mA g)
  rw [lookup_putF]
  by_cases q : g = f
  ·rw [if_pos q,if_pos q]; exact ry
  ·rw [if_neg q,if_neg q]; exact r g
 ·by_cases q : g = f
  ·rw [q]; exact (keys_putF f y fs).1
  ·refine (keys_putF f y fs).2 g (wi g fun z=>hg ?_)
   show (if g = f then some u else mA g) = none
   rw [if_neg q]; exact z
theorem Inv.made (I : Inv X pins σ H s) : Inv X pins σ (upd (upd H s.heap.objs.size (.own (s.heap.objs.size + 1))) (s.heap.objs.size + 1) (.ins C s.heap.objs.size []))
 { s with heap:=(s.heap.push PySem.W.emptyDict).push (PySem.W.instObj C s.heap.objs.size) }:=by
 have e1 : (s.heap.push PySem.W.emptyDict).get? s.heap.objs.size = some PySem.W.emptyDict:=Heap.get?_push_size s.heap rfl
 have e2 : ((s.heap.push PySem.W.emptyDict).push (PySem.W.instObj C s.heap.objs.size)).get? (s.heap.objs.size + 1) = some (PySem.W.instObj C s.heap.objs.size):=by
  have:=Heap.get?_push_size (s.heap.push PySem.W.emptyDict) (o:=PySem.W.instObj C s.heap.objs.size) rfl
  rwa [Heap.size_push] at this
 have e3 : (s.heap.push PySem.W.emptyDict).Ns s.heap.objs.size (fun _=>none):=⟨PySem.W.emptyDict,#[],_,e1,rfl,(fun e he=>absurd he (by simp)),fun _=>rfl⟩
 have I1:=I.laid (a:=s.heap.objs.size) (o:=.own (s.heap.objs.size + 1)) (h':=s.heap.push PySem.W.emptyDict) (t':=s.toks) (fun b u q=>Heap.get?_push_of_some _ q) (Nat.le_refl _) ⟨_,e1⟩
 refine I1.laid (a:=s.heap.objs.size + 1) (o:=.ins C s.heap.objs.size []) (t':=s.toks) (fun b u q=>Heap.get?_push_of_some _ q) (Nat.le_of_eq (Heap.size_push _ _)) ?_
 have ne : s.heap.objs.size≠s.heap.objs.size + 1:=Nat.ne_of_lt (Nat.lt_succ_self _)
 refine ⟨by rw [upd_ne ne,upd_same],Nat.zero_le _,ne,e2,fun _=>none,(Heap.Ns1.of_empty e3).at fun o q=>Heap.get?_push_of_some _ q,fun _=>True.intro,fun y hy=>absurd rfl hy⟩
theorem attr_of {prog : Program} {w : World} {env : Env} {e : Expr} {f : Str} {pos : Pos} {s : Shared} {Q : Value→Shared→Prop} (hb : attributeBase e f env (eval e env) = eval e env)
 (h : wpAny (model prog w) A (eval e env) (fun o s₁=>wpAny (model prog w) A (getAttr o f true) Q E s₁) E s) : wpAny (model prog w) A (eval (.Attribute e f pos) env) Q E s :=
 Attribute_any_ h (by rw [arm_eval_Attribute,hb])
end
def tFld (K : PySem.W.Frag) (ta : TE) (f : Str) : TE:=fun σ H Q=>ta σ H fun x H1=>∃ a C dx fs v,x = .ref a∧H1 a = some (.ins C dx fs)∧Cls K C∧NoAttr K C f∧fs.lookup f = some v∧Q v H1
def sFld (K : PySem.W.Frag) (ta tv : TE) (f : Str) : TS:=fun D σ H=>tv σ H fun y H1=>ta σ H1 fun x H2=>∃ a C dx fs,x = .ref a∧H2 a = some (.ins C dx fs)∧Cls K C∧NoAttr K C f∧fs.length < 1000 ∧
 D.nx σ (upd H2 a (.ins C dx (putF f y fs)))
section
variable {X : Cx} {o e value : Expr} {f : Str} {pos pos' tpos : Pos} {ta tv : TE}
theorem pe_fld (he : PE X e ta) (hb : attributeBase e f X.env (eval e X.env) = eval e X.env) : PE X (.Attribute e f pos) (tFld X.K ta f):=by
 intro pins s σ H Q I h
 refine attr_of hb (thn (he pins s σ H _ I h) fun u s1 ⟨x,H1,I1,rx,a,C,dx,fs,v,ex,ea,c,n,l,q⟩=>?_)
 subst ex
 obtain rfl : u = Value.ref a:=rx
 exact getattr_ok I1 ea c n l fun u' s2 I2 ru=>⟨v,H1,I2,ru,q⟩
theorem ps_fld (ha : PE X o ta) (hv : PE X value tv) (hs : swapsWith value (some (.Attribute o f pos')) pos.line X.env = pure false) : PS X (.Assign [.Attribute o f pos'] value pos) (sFld X.K ta tv f):=by
 intro pins s σ H D I h
 refine plainObj_wpAny_Assign_Attribute (thn (hv pins s σ H _ I h) fun u s1 ⟨y,H1,I1,ry,q⟩=>thn (ha pins s1 σ H1 _ I1 q) fun ov s2 ⟨x,H2,I2,rx,a,C,dx,fs,ex,ea,c,n,l,q2⟩=>?_) hs
 subst ex
 obtain rfl : ov = Value.ref a:=rx
 exact setattr_ok I2 ea c n l ry fun s3 I3=>⟨σ,_,I3,q2⟩
end
section
variable {X : Cx} {pins : List (Addr × Obj)} {σ : St} {H : Hp} {s : Shared} {A : Around} {E : Value→Shared→Prop} {Q : Value→Shared→Prop} {c : Value} {b : Bool}
end
end L2
namespace L2
open PySem PySem.Spec PyProof.Rows
structure Room (k : Nat) (A : Around) : Prop where
 hd : A.handled = none
 dp : A.depth + 3 * k + 5 < recursionLimit
 un : A.units + 16 * k + 200 < cLine
theorem Room.mono {j k : Nat} {A : Around} (r : Room k A) (h : j≤k) : Room j A:=⟨r.hd,by have:=r.dp; omega,by have:=r.un; omega⟩
theorem Room.deeper {k : Nat} {A : Around} (r : Room (k + 1) A) (env : Env) : Room k (A.deeper env) :=
 ⟨r.hd,by have:=r.dp; show A.depth + 1 + 3 * k + 5 < _; omega,by have:=r.un; show A.units + 3 + 16 * k + 200 < _; omega⟩
theorem make_depth {A : Around} {C : Addr} {us : List Value} {kw : List (Str × Value)} : (A.under (.builtin "type.__call__" ⟨.ref C :: us,kw⟩)).depth = A.depth + 1:=by
 first | rfl | simp [Around.under,Code.weight,Code.isCreation,Code.isGuard,Code.isCaller,Code.frames,Code.isFrame,guardIds]
theorem make_units {A : Around} {C : Addr} {us : List Value} {kw : List (Str × Value)} : (A.under (.builtin "type.__call__" ⟨.ref C :: us,kw⟩)).units = A.units + 1:=by
 first | rfl | simp [Around.under,Code.cUnits,Code.frames,Code.isFrame]
theorem Room.make {k : Nat} {A : Around} (r : Room (k + 1) A) (C : Addr) (us : List Value) (kw : List (Str × Value)) : Room k (A.under (.builtin "type.__call__" ⟨.ref C :: us,kw⟩)) :=
 ⟨r.hd,by have:=r.dp; rw [make_depth]; omega,by have:=r.un; rw [make_units]; omega⟩
theorem Room.depth {k : Nat} {A : Around} (r : Room k A) : A.depth < recursionLimit:=by have:=r.dp; omega
theorem Room.units {k : Nat} {A : Around} (r : Room k A) : A.units + 64 < cLine:=by have:=r.un; omega
def tNil : TA:=fun _ H Q=>Q [] H
def tCons (ta : TE) (tr : TA) : TA:=fun σ H Q=>ta σ H fun x H1=>tr σ H1 fun xs H2=>Q (x :: xs) H2
section
variable {X : Cx} {e : Expr} {es : List Expr} {te : TE} {t : TA} {pos : Pos}
theorem pa_nil : PA X [] tNil:=fun _ _ _ _ H Q I h=>Calls.spliced_nil ⟨[],H,I,.nil,h⟩
theorem pa_cons (ha : PE X e te) (hr : PA X es t) (hs : starEach (e :: es) X.env = (false,eval e X.env) :: starEach es X.env:=by rfl) : PA X (e :: es) (tCons te t):=by
 intro pos pins s σ H Q I h
 rw [hs]
 show wpAny _ _ (spliced ((false,eval e X.env) :: backTo pos (starEach es X.env))) _ _ s
 refine Calls.spliced_cons (thn (ha pins s σ H _ I h) fun u s1 ⟨x,H1,I1,r1,q1⟩=>?_)
 exact thn (hr pos pins s1 σ H1 _ I1 q1) fun us s2 ⟨xs,H2,I2,r2,q2⟩=>⟨x :: xs,H2,I2,.cons r1 r2,q2⟩
def tTup (t : TA) : TE:=fun σ H Q=>t σ H fun xs H1=>xs.length≤sizeLine∧∀ p,H1 p = none→Q (.ref p) (upd H1 p (.tup xs))
def tLst (t : TA) : TE:=fun σ H Q=>t σ H fun xs H1=>xs.length≤sizeLine∧∀ p,H1 p = none→Q (.ref p) (upd H1 p (.lst xs))
theorem pe_tup {x1} (h : PA X es t) : PE X (.Tuple es x1 pos) (tTup t):=by
 intro pins s σ H Q I hq
 refine wpAny_Tuple_spliced (thn (h pos pins s σ H _ I hq) fun us s1 ⟨xs,H1,I1,r,z,q⟩=>⟨by rw [← r.length]; exact z,?_⟩)
 have hf : H1 s1.heap.objs.size = none:=I1.hok.fresh (Nat.le_refl _)
 refine ⟨.ref s1.heap.objs.size,upd H1 s1.heap.objs.size (.tup xs),I1.laid (t':=s1.toks) (fun b u e=>Heap.get?_push_of_some _ e) (Nat.le_refl _) ?_,rfl,q _ hf⟩
 exact ⟨z,us,r,⟨_,Heap.get?_push_size _ rfl,rfl,_,rfl⟩⟩
theorem pe_lst (h : PA X es t) : PE X (.List es pos) (tLst t):=by
 intro pins s σ H Q I hq
 refine wpAny_List_spliced (thn (h pos pins s σ H _ I hq) fun us s1 ⟨xs,H1,I1,r,z,q⟩=>⟨by rw [← r.length]; exact z,?_⟩)
 have hf : H1 s1.heap.objs.size = none:=I1.hok.fresh (Nat.le_refl _)
 refine ⟨.ref s1.heap.objs.size,upd H1 s1.heap.objs.size (.lst xs),I1.laid (t':=s1.toks) (fun b u e=>Heap.get?_push_of_some _ e) (Nat.le_refl _) ?_,rfl,q _ hf⟩
 exact ⟨z,us,0,r,Heap.get?_push_size _ rfl⟩
end
abbrev Sp:=List V→Hp→VK→XK→Prop
abbrev CXT:=List Env→Hp→Shared→XK→Value→Shared→Prop
structure Env0 (P : Program) (w : World) (K : PySem.W.Frag) (mg : Str→Option Value) (base : Heap) (A : Around) (outer : List Env) (s : Shared) (H : Hp) : Prop where
 frames : A.frames = some outer
 mod : Mod K mg base
 bs : ∀ b o,base.get? b = some o→s.heap.get? b = some o∧H b = none
 bsz : base.objs.size≤s.heap.objs.size
 funs : s.heap.FunFrames base outer
 frf : ∀ b∈frs outer,H b = none
 hok : HOk P w H s.heap
 bare : AllBare s.gens
def CE (outer : List Env) (P : Program) (w : World) (H : Hp) (s : Shared) (Q : VK) (u : Value) (s' : Shared) : Prop :=
 ∃ v H',s'.os = s.os∧AllBare s'.gens∧Un (frs outer) [] H H' s.heap s'.heap∧HOk P w H' s'.heap∧RelV v u∧Q v H'
def CR (CX : CXT) (outer : List Env) (P : Program) (w : World) (H : Hp) (s : Shared) (Q : VK) (E : XK) (r : Result) (s' : Shared) : Prop :=
 match r with
 | .ok (.ret u)=>CE outer P w H s Q u s'
 | .ok _=>False
 | .error e=>CX outer H s E e s'
structure FnOk (P : Program) (w : World) (K : PySem.W.Frag) (mg : Str→Option Value) (base : Heap) (CX : CXT) (k : Nat) (f : Addr) (fd : FuncData) (ps : List Str) (sp : Sp) : Prop where
 len : ∀ vs H Q E,sp vs H Q E→vs.length = ps.length
 run : ∀ (A : Around) (outer : List Env) (s : Shared) (H : Hp) (args : Args) (us : List Value) (vs : List V) (Q : VK) (E : XK),Room k A→Env0 P w K mg base A outer s H→BindsTo s fd args (ps.zip us)→Vals vs us→sp vs H Q E →
  codeAny (model P w) A (.call (.ref f) args) (CR CX outer P w H s Q E) s
theorem Env0.make {P : Program} {w : World} {K : PySem.W.Frag} {mg : Str→Option Value} {base : Heap} {A : Around} {outer : List Env} {s : Shared} {H : Hp} (e : Env0 P w K mg base A outer s H) (C : Addr) (us : List Value) (kw : List (Str × Value)) :
 Env0 P w K mg base (A.under (.builtin "type.__call__" ⟨.ref C :: us,kw⟩)) outer s H:=⟨by first | exact e.frames | (simpa [Around.under,Code.envs,Code.isFrame,pushEnvs] using e.frames),e.mod,e.bs,e.bsz,e.funs,e.frf,e.hok,e.bare⟩
section
variable {X : Cx} {pins : List (Addr × Obj)} {σ : St} {H : Hp} {s s' : Shared}
theorem Inv.env0 (I : Inv X pins σ H s) : Env0 X.prog X.w X.K X.mg X.base X.A X.stack s H :=
 ⟨I.ok.frames,I.ok.mod,I.bs,Nat.le_trans I.ok.bsz I.sz,I.stack,I.stkFree,I.hok,I.bare⟩
theorem Inv.after {Q : VK} {u : Value} (I : Inv X pins σ H s) (h : CE X.stack X.prog X.w H s Q u s') : EP X pins σ Q u s':=by
 obtain ⟨v,H',os,bare,un,hok,r,q⟩:=h
 obtain ⟨hh,g,d,t,os'⟩:=s'
 obtain rfl : os' = s.os:=os
 exact ⟨v,H',I.call (h':=hh) (g':=g) (d':=d) (t':=t) (ch:=[]) un hok bare (fun b z=>absurd z (by simp)),r,q⟩
end
def tCall (sp : Sp) (dvs : List V) (E : XK) (t : TA) : TE:=fun σ H Q=>t σ H fun vs H1=>sp (vs ++ dvs) H1 Q E
def tMake (C : Addr) (sp : Sp) (dvs : List V) (E : XK) (t : TA) : TE:=fun σ H Q=>t σ H fun vs H1=>∀ x dx,H1 x = none→H1 dx = none→dx≠x →
 sp (.ref x :: (vs ++ dvs)) (upd (upd H1 dx (.own x)) x (.ins C dx [])) (fun v H2=>v = .non∧Q (.ref x) H2) E
def Binds (K : PySem.W.Frag) (fd : FuncData) (ps : List Str) (ds : List Value) : Prop :=
 ∀ (s : Shared) (us : List Value),K.In s.heap→(us ++ ds).length = ps.length→BindsTo s fd ⟨us,[]⟩ (ps.zip (us ++ ds))
theorem Binds.all {K : PySem.W.Frag} {fd : FuncData} {ps : List Str} (h : ∀ us : List Value,us.length = ps.length→bindArgs fd ⟨us,[]⟩ = pure (ps.zip us)) : Binds K fd ps []:=fun s us _ hl=>by
 rw [List.append_nil] at hl ⊢
 exact .of_eq (h us hl)
def Passes (CX : CXT) (X : Cx) (E : XK) : Prop:=∀ (pins : List (Addr × Obj)) (σ : St) (H : Hp) (s : Shared) (e : Value) (s' : Shared),Inv X pins σ H s→CX X.stack H s E e s'→X.xe e s'
section
variable {X : Cx} {CX : CXT} {k : Nat} {f C : Addr} {fd : FuncData} {ps : List Str} {sp : Sp} {dvs : List V} {ds : List Value} {E : XK} {x m : Str} {p pos apos : Pos} {e o : Expr} {es : List Expr} {ta : TE} {t : TA}
theorem run_fn {pins : List (Addr × Obj)} {σ : St} {H : Hp} {s : Shared} {Q : VK} {us : List Value} {vs : List V} (F : FnOk X.prog X.w X.K X.mg X.base CX k f fd ps sp) (hr : Room k X.A) (hb : Binds X.K fd ps ds) (hd : Vals dvs ds) (hx : Passes CX X E)
 (I : Inv X pins σ H s) (r : Vals vs us) (h : sp (vs ++ dvs) H Q E) : wpAny (model X.prog X.w) X.A (call (.ref f) us) (EP X pins σ Q) X.xe s:=by
 have r2 : Vals (vs ++ dvs) (us ++ ds):=r.append hd
 have hl : (us ++ ds).length = ps.length:=by rw [← r2.length]; exact F.len _ _ _ _ h
 refine wpAny_call (codeAny_mono (F.run X.A X.stack s H ⟨us,[]⟩ (us ++ ds) (vs ++ dvs) Q E hr I.env0 (hb s us I.kIn hl) r2 h) fun r s' hq=>?_)
 cases r with
 | error e=>exact hx pins σ H s e s' I hq
 | ok fl =>
  cases fl with
  | ret u=>exact I.after hq
  | next=>exact False.elim hq
  | brk=>exact False.elim hq
  | cont=>exact False.elim hq
theorem pe_call (F : FnOk X.prog X.w X.K X.mg X.base CX k f fd ps sp) (hr : Room k X.A) (hg : Gl X x) (hm : X.mg x = some (.ref f)) (hk : PySem.W.keepIn X.K (.ref f) = true) (hb : Binds X.K fd ps ds) (hd : Vals dvs ds) (hx : Passes CX X E)
 (ha : PA X (e :: es) t) (hdb : (x == ("__debug__" : Str)) = false:=by decide) (he : starEach (e :: es) X.env = (false,eval e X.env) :: starEach es X.env:=by rfl) (hpl : (backTo pos (starEach es X.env)).any (·.1) = false:=by rfl) :
 PE X (.Call (.Name x p) (e :: es) [] pos) (tCall sp dvs E t):=by
 intro pins s σ H Q I h
 refine wpAny_Call_Name_kw (ld_glob I hg hm ?_ hdb)
 refine PySem.W.callWith_K (h₀:=X.base) I.ok.mod.kin hk (thn (ha pos pins s σ H _ I h) fun us s1 ⟨vs,H1,I1,r,q⟩=>⟨I1.kIn,?_⟩) he hpl
 exact run_fn F hr hb hd hx I1 r q
structure Mk (K : PySem.W.Frag) (C f : Addr) : Prop where
 makes : PySem.W.makesIn K C = true
 init : PySem.W.findIn K (.ref C) "__init__" = some (some (.ref f))
 fn : PySem.W.isFn K (.ref f) = true
 kp : PySem.W.keepIn K (.ref C) = true
theorem run_make {pins : List (Addr × Obj)} {σ : St} {H : Hp} {s : Shared} {Q : VK} {us : List Value} {vs : List V} (M : Mk X.K C f) (F : FnOk X.prog X.w X.K X.mg X.base CX k f fd ps sp) (hr : Room (k + 1) X.A) (hb : Binds X.K fd ps ds) (hd : Vals dvs ds)
 (hx : Passes CX X E) (I : Inv X pins σ H s) (r : Vals vs us)
 (h : ∀ x dx,H x = none→H dx = none→dx≠x→sp (.ref x :: (vs ++ dvs)) (upd (upd H dx (.own x)) x (.ins C dx [])) (fun v H2=>v = .non∧Q (.ref x) H2) E) :
 wpAny (model X.prog X.w) X.A (call (.ref C) us) (EP X pins σ Q) X.xe s:=by
 have hq:=h (s.heap.objs.size + 1) s.heap.objs.size (I.hok.fresh (Nat.le_succ _)) (I.hok.fresh (Nat.le_refl _)) (Nat.ne_of_lt (Nat.lt_succ_self _))
 have I2:=Inv.made (C:=C) I
 have r2 : Vals (V.ref (s.heap.objs.size + 1) :: (vs ++ dvs)) (Value.ref (s.heap.objs.size + 1) :: (us ++ ds)):=.cons rfl (r.append hd)
 have hl : (Value.ref (s.heap.objs.size + 1) :: us ++ ds).length = ps.length:=by
  have e:=r2.length
  rw [F.len _ _ _ _ hq] at e
  exact e.symm
 refine wpAny_call (make_map (f:=f) I.kIn M.makes M.init (beq_iff_eq.mp M.fn) (codeAny_mono (F.run _ X.stack _ _ ⟨Value.ref (s.heap.objs.size + 1) :: us,[]⟩ (Value.ref (s.heap.objs.size + 1) :: (us ++ ds)) _ _ E (hr.make C us [])
  (I2.env0.make C us []) (hb _ (Value.ref (s.heap.objs.size + 1) :: us) I2.kIn hl) r2 hq) fun r s' hq'=>?_))
 cases r with
 | error e=>exact hx pins σ _ _ e s' I2 hq'
 | ok fl =>
  cases fl with
  | ret u =>
   obtain ⟨v,H',I3,rv,ev,q3⟩:=I2.after hq'
   subst ev
   exact ⟨rv,⟨V.ref (s.heap.objs.size + 1),H',I3,rfl,q3⟩⟩
  | next=>exact False.elim hq'
  | brk=>exact False.elim hq'
  | cont=>exact False.elim hq'
theorem pe_make (M : Mk X.K C f) (F : FnOk X.prog X.w X.K X.mg X.base CX k f fd ps sp) (hr : Room (k + 1) X.A) (hg : Gl X x) (hm : X.mg x = some (.ref C)) (hb : Binds X.K fd ps ds) (hd : Vals dvs ds) (hx : Passes CX X E)
 (ha : PA X (e :: es) t) (hdb : (x == ("__debug__" : Str)) = false:=by decide) (he : starEach (e :: es) X.env = (false,eval e X.env) :: starEach es X.env:=by rfl) (hpl : (backTo pos (starEach es X.env)).any (·.1) = false:=by rfl) :
 PE X (.Call (.Name x p) (e :: es) [] pos) (tMake C sp dvs E t):=by
 intro pins s σ H Q I h
 refine wpAny_Call_Name_kw (ld_glob I hg hm ?_ hdb)
 refine PySem.W.callWith_K (h₀:=X.base) I.ok.mod.kin M.kp (thn (ha pos pins s σ H _ I h) fun us s1 ⟨vs,H1,I1,r,q⟩=>⟨I1.kIn,?_⟩) he hpl
 exact run_make M F hr hb hd hx I1 r q
theorem pe_make0 (M : Mk X.K C f) (F : FnOk X.prog X.w X.K X.mg X.base CX k f fd ps sp) (hr : Room (k + 1) X.A) (hg : Gl X x) (hm : X.mg x = some (.ref C)) (hb : Binds X.K fd ps ds) (hd : Vals dvs ds) (hx : Passes CX X E)
 (hdb : (x == ("__debug__" : Str)) = false:=by decide) : PE X (.Call (.Name x p) [] [] pos) (tMake C sp dvs E tNil):=by
 intro pins s σ H Q I h
 refine wpAny_Call_Name_kw (ld_glob I hg hm ?_ hdb)
 exact PySem.W.callWith_K0 I.kIn M.kp (run_make (us:=[]) M F hr hb hd hx I .nil h)
end
section
variable {X : Cx} {CX : CXT} {k : Nat} {f C : Addr} {fd : FuncData} {ps ks : List Str} {sp : Sp} {E : XK} {x m : Str} {p pos apos kpos : Pos} {e o : Expr} {es : List Expr} {kws : List Keyword} {te ta : TE} {t tk : TA} {nm : Option Str}
variable {g : List Value→List Value→List Value} {gV : List V→List V→List V}
end
structure FnScope (N P : List Str) (sc : Scope) : Prop where
 kind : sc.kind = .function
 co : sc.isCoroutine = false
 gen : sc.isGenerator = false
 nd : N.Nodup
 pre : N.take P.length = P
 par : ∀ x∈P,sc.names.lookup x = some .local∨sc.names.lookup x = some .cell
 nofree : ∀ y∈sc.names,y.2≠.free
theorem bindL_out {kindOf : Str→Option NameKind} {x : Str} : ∀ {binds : List (Str × Value)} {m : Str→Option Value},(∀ v,(x,v)∉binds)→bindL kindOf binds m x = m x
 | [],_,_=>rfl
 | (n,v) :: r,m,h=>by
  unfold bindL
  rw [bindL_out fun w hw=>h w (List.mem_cons_of_mem _ hw)]
  split
  ·have : x≠n:=by rintro rfl; exact h v List.mem_cons_self
   simp [this]
  ·rfl
theorem bindC_out {kindOf : Str→Option NameKind} {x : Str} : ∀ {binds : List (Str × Value)} {m : Str→Option Value},(∀ v,(x,v)∉binds)→bindC kindOf binds m x = m x
 | [],_,_=>rfl
 | (n,v) :: r,m,h=>by
  unfold bindC
  rw [bindC_out fun w hw=>h w (List.mem_cons_of_mem _ hw)]
  split
  ·rfl
  ·have : x≠n:=by rintro rfl; exact h v List.mem_cons_self
   simp [this]
theorem bindL_get {kindOf : Str→Option NameKind} {x : Str} {v : Value} : ∀ {P : List Str} {vs : List Value} {i : Nat} {m : Str→Option Value},P.Nodup→P[i]? = some x→vs[i]? = some v→kindOf x = some .local →
 bindL kindOf (P.zip vs) m x = some v
 | [],_,_,_,_,h,_,_=>by simp at h
 | _ :: _,[],_,_,_,_,h,_=>by simp at h
 | p :: P,w :: vs,0,m,nd,h1,h2,hk=>by
  simp at h1 h2; subst h1; subst h2
  show bindL kindOf ((p,w) :: P.zip vs) m p = _
  unfold bindL
  rw [bindL_out fun v hv=>(List.nodup_cons.mp nd).1 (List.of_mem_zip hv).1,if_pos hk]
  simp
 | p :: P,w :: vs,i + 1,m,nd,h1,h2,hk=>by
  show bindL kindOf ((p,w) :: P.zip vs) m x = _
  unfold bindL
  exact bindL_get (i:=i) (List.nodup_cons.mp nd).2 (by simpa using h1) (by simpa using h2) hk
theorem bindC_get {kindOf : Str→Option NameKind} {x : Str} {v : Value} : ∀ {P : List Str} {vs : List Value} {i : Nat} {m : Str→Option Value},P.Nodup→P[i]? = some x→vs[i]? = some v→kindOf x≠some .local →
 bindC kindOf (P.zip vs) m x = some v
 | [],_,_,_,_,h,_,_=>by simp at h
 | _ :: _,[],_,_,_,_,h,_=>by simp at h
 | p :: P,w :: vs,0,m,nd,h1,h2,hk=>by
  simp at h1 h2; subst h1; subst h2
  show bindC kindOf ((p,w) :: P.zip vs) m p = _
  unfold bindC
  rw [bindC_out fun v hv=>(List.nodup_cons.mp nd).1 (List.of_mem_zip hv).1,if_neg hk]
  simp
 | p :: P,w :: vs,i + 1,m,nd,h1,h2,hk=>by
  show bindC kindOf ((p,w) :: P.zip vs) m x = _
  unfold bindC
  exact bindC_get (i:=i) (List.nodup_cons.mp nd).2 (by simpa using h1) (by simpa using h2) hk
def start (N : List Str) (vs : List V) : St:=vs.map some ++ List.replicate (N.length - vs.length) none
def cxOf (CX : CXT) (P : Program) (w : World) (K : PySem.W.Frag) (mg : Str→Option Value) (base : Heap) (N : List Str) (qual : Str) (scope : Scope) (f : Addr) (cd : Value) (A : Around) (outer : List Env) (s : Shared) (H : Hp) (E : XK) : Cx where
 prog:=P
 w:=w
 K:=K
 mg:=mg
 base:=base
 A:=A.deeper (envOfC qual scope s.heap.objs.size f cd)
 N:=N
 s_0:=s
 H_0:=H
 env:=envOfC qual scope s.heap.objs.size f cd
 outer:=outer
 stack:=envOfC qual scope s.heap.objs.size f cd :: outer
 ex:=[]
 calm:=true
 fn:=fun _=>true
 pn:=[]
 xe:=fun e s'=>wpAny (model P w) (A.deeper (envOfC qual scope s.heap.objs.size f cd)) (leaving (envOfC qual scope s.heap.objs.size f cd) e) (fun _ s''=>CX outer H s E e s'') (fun e' s''=>CX outer H s E e' s'') s'
theorem cell_has {sc : Scope} {n : Nat} {x : Str} (h : sc.names.lookup x = some .cell) : ∃ c,(cellsFrom n sc.names []).lookup x = some c:=by
 have q:=PySem.W.cellsFrom_some sc.names n [] (.inl h)
 exact Option.isSome_iff_exists.mp q
theorem inv_start {CX : CXT} {P : Program} {w : World} {K : PySem.W.Frag} {mg : Str→Option Value} {base : Heap} {N ps : List Str} {qual : Str} {scope : Scope} {f : Addr} {cd : Value} {A : Around} {outer : List Env} {s s1 : Shared} {H : Hp} {E : XK} {us : List Value} {vs : List V}
 (S : FnScope N ps scope) (hd : A.handled = none) (e0 : Env0 P w K mg base A outer s H) (hl : vs.length = ps.length) (r : Vals vs us)
 (x : InCallC s s.heap.objs.size (bindL (envOfC qual scope s.heap.objs.size f cd).kindOf (ps.zip us) fun _=>none) (cellsFrom (s.heap.objs.size + 1) scope.names []) (bindC (envOfC qual scope s.heap.objs.size f cd).kindOf (ps.zip us) fun _=>none) s1) :
 Inv (cxOf CX P w K mg base N qual scope f cd A outer s H E) [] (start N vs) H s1:=by
 have hpl : ps.length≤N.length:=by have:=congrArg List.length S.pre; rw [List.length_take] at this; omega
 obtain ⟨h1,tk,rfl,hk⟩:=x.done
 have noA : ∀ b : Addr,b∉(cxOf CX P w K mg base N qual scope f cd A outer s H E).ex:=fun b z=>absurd (show b∈([] : List Addr) from z) (by simp)
 refine ⟨⟨e0.mod,S.kind,rfl,rfl,Nat.le_refl _,fun y z c h1 h2=>?_,fun y hy=>?_,fun y c _ h=>?_,fun _=>hd,Around.frames_deeper e0.frames,.inr ⟨rfl,rfl⟩,fun b z=>absurd z (noA b),e0.bs,e0.bsz,fun b _ _=>noA b,fun b z=>absurd z (noA b),e0.funs,e0.frf⟩,
  rfl,e0.bare,Un.kept hk,⟨_,x.toInCall.ns,fun i y v h1 h2 h3=>?_⟩,fun y c h=>⟨_,x.cell y c h⟩,e0.hok.fresh (Nat.le_refl _),fun y c h=>?_,fun p hp=>absurd (show p∈([] : List (Addr × Obj)) from hp) (by simp),e0.hok.kept hk,?_⟩
 ·exact name_of_addr x.apart (PySem.mem_of_lookup h1) (PySem.mem_of_lookup h2)
 ·have hy : scope.names.lookup y = some .cell∨scope.names.lookup y = some .free:=hy
  rcases hy with hy | hy
  ·exact cell_has hy
  ·exact absurd rfl (S.nofree _ (PySem.mem_of_lookup hy))
 ·exact Nat.le_of_lt (x.above y c (PySem.mem_of_lookup h))
 ·have hi : i < vs.length:=by
   unfold start at h2
   by_cases hi : i < vs.length
   ·exact hi
   ·rw [List.getElem?_append_right (by simpa using hi)] at h2
    rw [List.getElem?_replicate] at h2
    split at h2 <;> cases h2
  have ha : vs[i]? = some v:=by
   unfold start at h2
   rw [List.getElem?_append_left (by simpa using hi),List.getElem?_map] at h2
   cases e : vs[i]? with
   | none=>rw [e] at h2; cases h2
   | some a=>rw [e] at h2; cases h2; rfl
  obtain ⟨u,hu,rv⟩:=r.get ha
  have hp : ps[i]? = some y:=by
   rw [← S.pre,List.getElem?_take_of_lt (by omega)]; exact h1
  have ndP : ps.Nodup:=by rw [← S.pre]; exact S.nd.sublist (List.take_sublist _ _)
  refine ⟨u,rv,?_⟩
  rcases S.par y (List.mem_of_getElem? hp) with k | k
  ·exact .inl ⟨k,bindL_get ndP hp hu k⟩
  ·obtain ⟨c,e⟩:=cell_has (n:=s.heap.objs.size + 1) k
   refine .inr ⟨.inl k,c,e,?_⟩
   have q:=x.cell y c e
   rw [bindC_get ndP hp hu (by show scope.names.lookup y≠_; rw [k]; decide)] at q
   exact q
 ·exact e0.hok.fresh (Nat.le_of_lt (x.above y c (PySem.mem_of_lookup h)))
 ·unfold start
  show _ = N.length
  rw [List.length_append,List.length_map,List.length_replicate]
  omega
theorem fn_of {CX : CXT} {P : Program} {w : World} {K : PySem.W.Frag} {mg : Str→Option Value} {base : Heap} {k : Nat} {f : Addr} {name qual : Str} {params : Arguments} {body : List Stmt} {scope : Scope} {dV kV doc pm cdv ct oc : Value} {an od : Option Addr}
 {osl : Array (Option Value)} {N ps : List Str} {sp : Sp} (lk : K.lookup f = some ⟨oc,od,.func (PySem.W.fnOf name qual params body scope dV kV doc pm an cdv ct),osl⟩) (hcd : PySem.W.codeIn K cdv qual = true) (S : FnScope N ps scope)
 (len : ∀ vs H Q E,sp vs H Q E→vs.length = ps.length)
 (hbody : ∀ (A : Around) (outer : List Env) (s : Shared) (H : Hp) (vs : List V) (Q : VK) (E : XK),Room k (A.deeper (envOfC qual scope s.heap.objs.size f cdv))→sp vs H Q E →
  ∃ t,PSs (cxOf CX P w K mg base N qual scope f cdv A outer s H E) body t∧t { nx:=fun _ H'=>Q .non H',rt:=Q } (start N vs) H) :
 FnOk P w K mg base CX (k + 1) f (PySem.W.fnOf name qual params body scope dV kV doc pm an cdv ct) ps sp:=by
 refine ⟨len,fun A outer s H args us vs Q E hr e0 hb r hsp=>?_⟩
 have hl:=len _ _ _ _ hsp
 have KX : K.In s.heap:=e0.mod.kin.keeps fun b o e=>(e0.bs b o e).1
 have lim : s.heap.NoLimit:=e0.mod.nolimit.keeps fun b o e=>(e0.bs b o e).1
 have hkind : ∀ y∈ps.zip us,scope.names.lookup y.1 = some .local∨(scope.names.lookup y.1 = some .cell∧((cellsFrom (s.heap.objs.size + 1) scope.names []).lookup y.1).isSome = true):=fun ⟨n,v⟩ hy=>by
  rcases S.par n (List.of_mem_zip hy).1 with q | q
  ·exact .inl q
  ·exact .inr ⟨q,PySem.W.cellsFrom_some _ _ _ (.inl q)⟩
 refine codeAny_call_function hr.depth (KX _ _ lk) rfl S.co S.gen rfl (PySem.W.codeRec_of KX hcd) (hb _ _ _ _ ?_)
 refine wpAny_newFunctionEnv_cells S.kind hkind fun env he s1 x=>?_
 subst he
 refine ⟨lim.keeps x.toInCall.keep,codeAny_func ?_⟩
 obtain ⟨t,ht,hq⟩:=hbody A outer s H vs Q E (hr.deeper _) hsp
 have I : Inv (cxOf CX P w K mg base N qual scope f cdv A outer s H E) [] (start N vs) H s1:=inv_start S hr.hd e0 hl r x
 refine wpAny_mono (ht [] s1 (start N vs) H _ I hq) (fun fl s' hs=>?_) fun e s' hs=>hs
 have fin : ∀ {σ' : St} {H' : Hp} {v : V} {u : Value},Inv (cxOf CX P w K mg base N qual scope f cdv A outer s H E) [] σ' H' s'→RelV v u→Q v H'→CE outer P w H s Q u s' :=
  fun {σ' H' v u} J rv q=>⟨v,H',J.os,J.bare,J.base,J.hok,rv,q⟩
 cases fl with
 | ret u =>
  obtain ⟨v,σ',H',J,rv,q⟩:=hs
  exact fin J rv q
 | next =>
  obtain ⟨σ',H',J,q⟩:=hs
  exact fin (v:=V.non) (u:=Value.none) J rfl q
 | brk =>
  obtain ⟨_,_,_,q⟩:=hs
  exact False.elim q
 | cont =>
  obtain ⟨_,_,_,q⟩:=hs
  exact False.elim q
end L2
namespace L2
open PySem PySem.Spec PyProof.Rows
section
variable {X : Cx} {x : Str} {p pos : Pos} {e : Expr} {es : List Expr} {t : TA} {id T : String} {r : List V→Hp→VK→Prop}
def tCB (r : List V→Hp→VK→Prop) (t : TA) : TE:=fun σ H Q=>t σ H fun vs H1=>r vs H1 Q
theorem pe_callB (hc : CallR X (.builtin id) r) (hg : Gl X x) (hm : X.mg x = none) (hv : bootBuiltins x = some (.builtin id)) (ha : PA X (e :: es) t) (hn : x≠"__name__":=by decide) (hdb : (x == ("__debug__" : Str)) = false:=by decide)
 (he : starEach (e :: es) X.env = (false,eval e X.env) :: starEach es X.env:=by rfl) (hpl : (backTo pos (starEach es X.env)).any (·.1) = false:=by rfl) : PE X (.Call (.Name x p) (e :: es) [] pos) (tCB r t):=by
 intro pins s σ H Q I h
 refine wpAny_Call_Name_kw (ld_blt I hg hm hv ?_ hn hdb)
 exact PyProof.Rows.callWith_builtin1 (thn (ha pos pins s σ H _ I h) fun us s1 ⟨vs,H1,I1,r1,q1⟩=>hc pins s1 σ H1 vs us Q I1 r1 q1) he hpl
theorem pe_callTy (hc : CallR X (.type T) r) (hg : Gl X x) (hm : X.mg x = none) (hv : bootBuiltins x = some (.type T)) (ha : PA X (e :: es) t) (hn : x≠"__name__":=by decide) (hdb : (x == ("__debug__" : Str)) = false:=by decide)
 (he : starEach (e :: es) X.env = (false,eval e X.env) :: starEach es X.env:=by rfl) (hpl : (backTo pos (starEach es X.env)).any (·.1) = false:=by rfl) : PE X (.Call (.Name x p) (e :: es) [] pos) (tCB r t):=by
 intro pins s σ H Q I h
 refine wpAny_Call_Name_kw (ld_blt I hg hm hv ?_ hn hdb)
 exact PyProof.Rows.callWith_type1 (thn (ha pos pins s σ H _ I h) fun us s1 ⟨vs,H1,I1,r1,q1⟩=>hc pins s1 σ H1 vs us Q I1 r1 q1) he hpl
end
end L2
namespace HT
open PySem PyProof.Rows
section
open PySem.SeqAt
open PySem.AutoSeq1 (wpAny_loadPart')
open PySem.MeetsSeq PySem.MeetsSeq2 PySem.MeetsSeq3
end
section
variable {prog : Program} {w : World} {A : Around} {E : Value→Shared→Prop} {s : Shared}
def sIx (n d : Nat) : Option Int→Nat
 | none=>d
 | some v=>if v < 0 then (v + (n : Int)).toNat else min v.toNat n
theorem sIx_none (n d : Nat) : sIx n d none = d:=rfl
theorem sIx_nat (n d k : Nat) : sIx n d (some (k : Int)) = min k n:=by
 show (if (k : Int) < 0 then ((k : Int) + (n : Int)).toNat else min (k : Int).toNat n) = min k n
 rw [if_neg (by omega),Int.toNat_natCast]
theorem sIx_le (n d : Nat) (hd : d≤n) (o : Option Int) : sIx n d o≤n:=by
 cases o with
 | none=>exact hd
 | some v =>
  show (if v < 0 then (v + (n : Int)).toNat else min v.toNat n)≤n
  by_cases hv : v < 0
  ·rw [if_pos hv]; omega
  ·rw [if_neg hv]; exact Nat.min_le_right _ _
theorem clip_eq (v : Int) (n d : Nat) : (if v < 0 then max (v + (n : Int)) 0 else min v (n : Int)) = ((sIx n d (some v) : Nat) : Int):=by
 show (if v < 0 then max (v + (n : Int)) 0 else min v (n : Int)) = (((if v < 0 then (v + (n : Int)).toNat else min v.toNat n) : Nat) : Int)
 by_cases hv : v < 0
 ·simp only [if_pos hv]; omega
 ·simp only [if_neg hv]; omega
theorem adjust_gen (lo hi : Option Int) (n : Nat) : Builtin.Slice.sliceAdjust lo hi 1 (n : Int) = (((sIx n 0 lo : Nat) : Int),((sIx n n hi : Nat) : Int)):=by
 have h1 : ¬ ((1 : Int) < 0):=by omega
 unfold Builtin.Slice.sliceAdjust
 simp only [h1,if_false]
 refine Prod.ext ?_ ?_
 ·cases lo with
  | none=>rfl
  | some v=>exact clip_eq v n 0
 ·cases hi with
  | none=>rfl
  | some v=>exact clip_eq v n n
theorem places_gen (i j : Nat) : Builtin.Slice.slicePlaces (i : Int) (j : Int) 1 = j - i:=by
 unfold Builtin.Slice.slicePlaces
 have h1 : (1 : Int) > 0:=by omega
 simp only [h1,if_true,Int.ediv_one]
 split <;> omega
theorem slicePart_ {v : Value} {o : Option Int} {Q : Option Int→Shared→Prop} (p : IsPart v o) (h : Q o s) : wpAny (model prog w) A (Builtin.Slice.slicePartIndex v) Q E s:=by
 cases p with
 | none=>exact slicePart_none h
 | int i t=>exact slicePart_int h
theorem sliceApplied_gen {sl : Addr} {vl vu : Value} {lo hi : Option Int} {n : Nat} {Q : Int × Int × Nat→Shared→Prop} (hs : s.heap.IsSliceOf sl vl vu .none) (pl : IsPart vl lo) (pu : IsPart vu hi)
 (h : Q (((sIx n 0 lo : Nat) : Int),1,sIx n n hi - sIx n 0 lo) s) : wpAny (model prog w) A (Builtin.Slice.sliceApplied (.ref sl) (pure (n : Int))) Q E s:=by
 obtain ⟨os,hos,hcs,hds⟩:=id hs
 unfold Builtin.Slice.sliceApplied Builtin.Slice.sliceFields
 refine wpAny_bind (wpAny_bind (wpAny_field hos hds (x:=vl) rfl (wpAny_bind (wpAny_field hos hds (x:=vu) rfl (wpAny_bind (wpAny_field hos hds (x:=.none) rfl (wpAny_pure ?_)))))))
 refine wpAny_bind (slicePart_none ?_)
 show wpAny _ _ (if ((1 : Int) == 0) = true then _ else _) _ _ s
 rw [if_neg (by decide)]
 refine wpAny_bind (slicePart_ pl (wpAny_bind (slicePart_ pu (wpAny_bind (wpAny_pure ?_)))))
 show wpAny _ _ (match Builtin.Slice.sliceAdjust lo hi 1 (n : Int) with | (lo,hi)=>pure (lo,(1 : Int),Builtin.Slice.slicePlaces lo hi 1)) _ _ s
 rw [adjust_gen lo hi n]
 show wpAny _ _ (pure (((sIx n 0 lo : Nat) : Int),(1 : Int),Builtin.Slice.slicePlaces ((sIx n 0 lo : Nat) : Int) ((sIx n n hi : Nat) : Int) 1)) _ _ s
 rw [places_gen]
 exact wpAny_pure h
theorem pick_gen (xs : Array Value) (i k : Nat) : ((List.range k).filterMap fun (m : Nat)=>xs[((i : Int) + (m : Int) * 1).toNat]?).toArray = ((xs.toList.drop i).take k).toArray:=by
 have e : (fun (m : Nat)=>xs[((i : Int) + (m : Int) * 1).toNat]?) = fun m=>xs[i + m]?:=by
  funext m
  have : ((i : Int) + (m : Int) * 1).toNat = i + m:=by omega
  rw [this]
 rw [e]
 have:=pick_run xs i k
 rw [List.filterMap_map] at this
 have e2 : ((fun x=>xs[x]?) ∘ fun x=>i + x) = fun m=>xs[i + m]?:=rfl
 rw [e2] at this
 rw [this]
theorem getItem_tuple_cut {t sl : Addr} {items : Array Value} {vl vu : Value} {lo hi : Option Int} {Q : Value→Shared→Prop} (ht : IsTup s.heap t items) (hs : s.heap.IsSliceOf sl vl vu .none) (pl : IsPart vl lo) (pu : IsPart vu hi)
 (hw : ¬ (sIx items.size 0 lo = 0∧sIx items.size items.size hi = items.size))
 (h : Q (.ref s.heap.objs.size) { s with heap:=s.heap.push { cls:=.type "tuple",data:=.seq ((items.toList.drop (sIx items.size 0 lo)).take (sIx items.size items.size hi - sIx items.size 0 lo)).toArray } })
 (hsz : items.size≤sizeLine) : wpAny (model prog w) A (getItem (.ref t) (.ref sl)) Q E s:=by
 have htake : sizeOk (.seq ((items.toList.drop (sIx items.size 0 lo)).take (sIx items.size items.size hi - sIx items.size 0 lo)).toArray):=by
  show ((items.toList.drop (sIx items.size 0 lo)).take (sIx items.size items.size hi - sIx items.size 0 lo)).toArray.size≤sizeLine
  rw [List.size_toArray,List.length_take,List.length_drop,Array.length_toList]
  omega
 have hj : sIx items.size items.size hi≤items.size:=sIx_le _ _ (Nat.le_refl _) hi
 obtain ⟨os,hos,hcs,hds⟩:=id hs
 have hTs : s.TypeIs (.ref sl) "slice":=⟨os,hos,hcs⟩
 unfold getItem
 try with_reducible refine wpAny_holding ?_
 first | refine wpAny_bind (wpAny_pure ?_) | skip
 refine wpAny_bind (wpAny_sequenceKey ht.typeIs (by decide) ?_)
 refine wpAny_bind (wpAny_callSpecial?_slot (name:=Str.ofString "__getitem__") ht.typeIs PyProof.Rows.slot_tuple_getitem
  (wpAny_call_entry PyProof.Rows.slot_tuple_getitem ht.typeIs entry_tuple_getitem ?_ (args_tuple_getitem _ _)))
 show wpAny _ _ (Builtin.Tuple.tupleItemsOf (.ref t) >>= _) _ _ s
 refine wpAny_bind (tupleItemsOf_ ht ?_)
 refine wpAny_bind (wpAny_typeOf hTs ?_)
 rw [if_pos (by decide)]
 refine wpAny_bind (sliceApplied_gen hs pl pu ?_)
 have hno : ¬ ((((sIx items.size 0 lo : Nat) : Int) == 0 && (1 : Int) == 1 && (sIx items.size items.size hi - sIx items.size 0 lo) == items.size) = true):=by
  intro q
  rw [Bool.and_eq_true,Bool.and_eq_true] at q
  have q1 : ((sIx items.size 0 lo : Nat) : Int) = 0:=eq_of_beq q.1.1
  have q2 : sIx items.size items.size hi - sIx items.size 0 lo = items.size:=eq_of_beq q.2
  exact hw ⟨by omega,by omega⟩
 show wpAny _ _ (if (((sIx items.size 0 lo : Nat) : Int) == 0 && (1 : Int) == 1 && (sIx items.size items.size hi - sIx items.size 0 lo) == items.size) = true then _ else _) _ _ s
 rw [if_neg hno,pick_gen]
 first
  | exact wpAny_bind (m:=Builtin.Tuple.tupleExact _) (wpAny_newObj_type (wpAny_pure ⟨_,rfl,wpAny_pure h⟩) htake)
  | exact wpAny_bind (m:=Builtin.Tuple.tupleExact _) (wpAny_newObj_type (wpAny_bind (wpAny_pure (wpAny_pure ⟨_,rfl,wpAny_pure h⟩))) htake)
  | exact wpAny_bind (wpAny_bind (m:=Builtin.Tuple.tupleExact _) (wpAny_newObj_type (wpAny_pure (wpAny_pure ⟨_,rfl,wpAny_pure h⟩)) htake))
  | exact wpAny_bind (wpAny_bind (m:=Builtin.Tuple.tupleExact _) (wpAny_newObj_type (wpAny_pure ⟨_,rfl,wpAny_pure h⟩) htake))
end
end HT
namespace L2
open PySem PySem.Spec PyProof.Rows
abbrev TO:=St→Hp→(Option Int→Hp→Prop)→Prop
def PO (X : Cx) (e : Option Expr) (t : TO) : Prop :=
 ∀ (pins : List (Addr × Obj)) (s : Shared) (σ : St) (H : Hp) (Q : Option Int→Hp→Prop),Inv X pins σ H s→t σ H Q →
  wpAny (model X.prog X.w) X.A (evalPart e X.env) (fun u s'=>∃ o H',Inv X pins σ H' s'∧IsPart u o∧Q o H') X.xe s
def tNoPart : TO:=fun _ H Q=>Q none H
def tPart (t : TE) : TO:=fun σ H Q=>t σ H fun x H1=>∃ i,x = .int i∧Q (some i) H1
section
variable {X : Cx} {e : Expr} {te : TE} {lo hi : Option Expr} {tl th : TO} {pos p2 : Pos}
theorem po_none : PO X none tNoPart:=by
 intro pins s σ H Q I h
 rw [evalPart_none]
 exact wpAny_pure ⟨none,H,I,.none,h⟩
theorem po_some (h : PE X e te) : PO X (some e) (tPart te):=by
 intro pins s σ H Q I hw
 rw [evalPart_some]
 refine thn (h pins s σ H _ I hw) fun u s1 ⟨x,H1,I1,r1,q1⟩=>?_
 obtain ⟨i,rfl,q⟩:=q1
 obtain ⟨t,rfl⟩:=r1
 exact ⟨some i,H1,I1,.int i t,q⟩
def SlR (X : Cx) (r : V→Option Int→Option Int→Hp→VK→Prop) : Prop :=
 ∀ (pins : List (Addr × Obj)) (s : Shared) (σ : St) (H : Hp) (x : V) (v vl vu : Value) (lo hi : Option Int) (sl : Addr) (Q : VK),Inv X pins σ H s→RelV x v→s.heap.IsSliceOf sl vl vu .none→IsPart vl lo→IsPart vu hi→r x lo hi H Q →
  ∃ T id,typeLookup (.type T) "__getitem__" = pure (some (.builtin id))∧s.TypeIs v T∧wpAny (model X.prog X.w) X.A (getItem v (.ref sl)) (EP X pins σ Q) X.xe s
def tSl (r : V→Option Int→Option Int→Hp→VK→Prop) (te : TE) (tl th : TO) : TE:=fun σ H Q=>te σ H fun x H1=>tl σ H1 fun l H2=>th σ H2 fun u H3=>r x l u H3 Q
theorem pe_slice {r : V→Option Int→Option Int→Hp→VK→Prop} (hr : SlR X r) (he : PE X e te) (hl : PO X lo tl) (hu : PO X hi th) : PE X (.Subscript e (.Slice lo hi none p2) pos) (tSl r te tl th):=by
 intro pins s σ H Q I h
 refine Subscript_ (thn (he pins s σ H _ I h) fun v s1 ⟨x,H1,I1,r1,q1⟩=>?_)
 refine wpAny_Slice (thn (hl pins s1 σ H1 _ I1 q1) fun vl s2 ⟨l,H2,I2,pl,q2⟩=>thn (hu pins s2 σ H2 _ I2 q2) fun vu s3 ⟨u,H3,I3,pu,q3⟩=>?_)
 rw [evalPart_none]
 refine wpAny_pure ?_
 have I4 : Inv X pins σ H3 { s3 with heap:=s3.heap.push { cls:=.type "slice",data:=.fields #[vl,vu,.none] } }:=I3.kept (t':=s3.toks) fun b ob q=>Heap.get?_push_of_some _ q
 obtain ⟨T,id,hT,ht,hg⟩:=hr pins { s3 with heap:=s3.heap.push { cls:=.type "slice",data:=.fields #[vl,vu,.none] } } σ H3 x v vl vu l u s3.heap.objs.size Q I4 r1 (Heap.IsSliceOf.new ..) pl pu q3
 show wpAny (model X.prog X.w) X.A (subscriptTail e (.Slice lo hi none p2) v (.ref s3.heap.objs.size)) (EP X pins σ Q) X.xe { s3 with heap:=s3.heap.push { cls:=.type "slice",data:=.fields #[vl,vu,.none] } }
 exact tail_any (ops:=[.ref s3.heap.objs.size,v]) ht hT hg (by with_unfolding_all rfl)
def cutV (xs : List V) (lo hi : Option Int) : List V:=(xs.drop (HT.sIx xs.length 0 lo)).take (HT.sIx xs.length xs.length hi - HT.sIx xs.length 0 lo)
theorem cutV_length (xs : List V) (lo hi : Option Int) : (cutV xs lo hi).length≤xs.length:=by
 unfold cutV
 rw [List.length_take,List.length_drop]
 omega
def rSlT (K : PySem.W.Frag) : V→Option Int→Option Int→Hp→VK→Prop:=fun x lo hi H Q=>∃ a xs,x = .ref a∧SqT K H a xs ∧
 ¬ (HT.sIx xs.length 0 lo = 0∧HT.sIx xs.length xs.length hi = xs.length)∧∀ p,H p = none→Q (.ref p) (upd H p (.tup (cutV xs lo hi)))
theorem sl_tup : SlR X (rSlT X.K):=by
 intro pins s σ H x v vl vu lo hi sl Q I rx hs pl pu h
 obtain ⟨a,xs,rfl,hx,hw,q⟩:=h
 cases rx
 obtain ⟨its,r,ht,hz⟩:=I.tuple hx
 have hlen : its.toArray.size = xs.length:=by rw [List.size_toArray]; exact r.length.symm
 refine ⟨"tuple",_,PyProof.Rows.slot_tuple_getitem.lookup,ht.typeIs,?_⟩
 refine HT.getItem_tuple_cut ht hs pl pu (by rw [hlen]; exact hw) ?_ (by rw [hlen]; exact hz)
 rw [hlen]
 refine ⟨.ref s.heap.objs.size,_,I.laid (t':=s.toks) (o:=.tup (cutV xs lo hi)) (fun b ob q=>Heap.get?_push_of_some _ q) (Nat.le_refl _) ?_,rfl,q _ (I.hok.fresh (Nat.le_refl _))⟩
 exact ⟨Nat.le_trans (cutV_length xs lo hi) hz,_,(r.drop (HT.sIx xs.length 0 lo)).take (HT.sIx xs.length xs.length hi - HT.sIx xs.length 0 lo),IsTup.new _ _⟩
end
end L2
namespace L2
open PySem PySem.Spec PyProof.Rows
def ixN (n : Nat) (i : Int) : Option Nat:=if 0≤i then (if i < n then some i.toNat else none) else if -(n : Int)≤i then some (i + n).toNat else none
def atI {α : Type} (xs : List α) (i : Int) : Option α:=(ixN xs.length i).bind fun j=>xs[j]?
theorem ixN_seq {n : Nat} {i : Int} {j : Nat} (h : ixN n i = some j) : seqIndex? i n = some j∧j < n∧-(n : Int)≤i∧i < n:=by
 unfold ixN at h
 by_cases h0 : 0≤i
 ·rw [if_pos h0] at h
  by_cases h1 : i < n
  ·rw [if_pos h1] at h
   have e : i.toNat = j:=Option.some.inj h
   exact ⟨by rw [seqIndex_of h0 h1,e],by omega,by omega,h1⟩
  ·rw [if_neg h1] at h; cases h
 ·rw [if_neg h0] at h
  by_cases h1 : -(n : Int)≤i
  ·rw [if_pos h1] at h
   have e : (i + n).toNat = j:=Option.some.inj h
   exact ⟨by rw [seqIndex_neg (by omega) h1,e],by omega,h1,by omega⟩
  ·rw [if_neg h1] at h; cases h
theorem atI_get {α : Type} {xs : List α} {i : Int} {v : α} (h : atI xs i = some v) : ∃ j,seqIndex? i xs.length = some j∧xs[j]? = some v∧j < xs.length∧-(xs.length : Int)≤i∧i < xs.length:=by
 unfold atI at h
 cases e : ixN xs.length i with
 | none=>rw [e] at h; cases h
 | some j =>
  rw [e] at h
  obtain ⟨h1,h2,h3,h4⟩:=ixN_seq e
  exact ⟨j,h1,h,h2,h3,h4⟩
theorem atI_nat {α : Type} {xs : List α} {j : Nat} {v : α} (h : xs[j]? = some v) : atI xs (j : Int) = some v:=by
 have hj : j < xs.length:=(List.getElem?_eq_some_iff.mp h).1
 have e : ixN xs.length (j : Int) = some j:=by
  unfold ixN
  rw [if_pos (by omega),if_pos (by omega)]; simp
 unfold atI; rw [e]; exact h
def PlainIx (b : Expr) : Prop:=∀ o i,subscripted b false o i = operate [o,i] (getItem o i)
def IxR (X : Cx) (r : R2) : Prop :=
 ∀ (value slice : Expr) (pins : List (Addr × Obj)) (s : Shared) (σ : St) (H : Hp) (x y : V) (v u : Value) (Q : VK),Inv X pins σ H s→RelV x v→RelV y u→r x y H Q →
  subscripted slice false v u = operate [v,u] (getItem v u)→wpAny (model X.prog X.w) X.A (subscriptTail value slice v u) (EP X pins σ Q) X.xe s
def MtR (X : Cx) (id : String) (r : V→List V→Hp→VK→Prop) : Prop :=
 ∀ (pins : List (Addr × Obj)) (s : Shared) (σ : St) (H : Hp) (x : V) (xs : List V) (v : Value) (us : List Value) (Q : VK),Inv X pins σ H s→RelV x v→Vals xs us→r x xs H Q →
  wpAny (model X.prog X.w) X.A (call (.builtin id) (v :: us)) (EP X pins σ Q) X.xe s
section
variable {X : Cx} {a b : Expr} {ta tb : TE} {pos : Pos}
theorem pe_ix {r : R2} (hr : IxR X r) (ha : PE X a ta) (hb : PE X b tb) (hs : PlainIx b) : PE X (.Subscript a b pos) (tOp r ta tb):=by
 intro pins s σ H Q I h
 exact Subscript_ (binT ha hb I h fun v u s2 x y H2 I2 rx ry q=>hr a b pins s2 σ H2 x y v u Q I2 rx ry q (hs _ _))
def rIxL (K : PySem.W.Frag) : R2:=fun x y H Q=>∃ p xs i v,x = .ref p∧y = .int i∧SqL K H p xs∧atI xs i = some v∧Q v H
def rIxT (K : PySem.W.Frag) : R2:=fun x y H Q=>∃ p xs i v,x = .ref p∧y = .int i∧SqT K H p xs∧atI xs i = some v∧Q v H
theorem ix_list : IxR X (rIxL X.K):=by
 intro value slice pins s σ H x y v u Q I rx ry h hs
 obtain ⟨p,xs,i,z,rfl,rfl,hq,he,q⟩:=h
 cases rx
 obtain ⟨t,rfl⟩:=ry
 obtain ⟨its,r,pl,hz⟩:=I.list hq
 obtain ⟨j,h1,h2,h3,h4,h5⟩:=atI_get he
 obtain ⟨w,ew,rw'⟩:=r.get h2
 have hl:=r.length
 have hn:=line63
 have fin : EP X pins σ Q w s:=⟨z,H,I,rw',q⟩
 by_cases h0 : 0≤i
 ·have hj : i.toNat = j:=by
   rw [seqIndex_of h0 h5] at h1
   exact Option.some.inj h1
  exact item_listR pl.isList h0 (by omega) (by rw [hj]; simpa using ew) fin hs
 ·have hj : (i + (its.toArray.size : Int)).toNat = j:=by
   rw [seqIndex_neg (by omega) h4] at h1
   rw [List.size_toArray,← hl]
   exact Option.some.inj h1
  exact subscriptTail_builtinR (x:=w) pl.isList.typeIs slot_list_getitem.lookup
   (wpAny_getItem_list_neg (Q:=fun r s'=>r = w∧EP X pins σ Q r s') pl.isList (by omega) (by rw [List.size_toArray] <;> omega) (by omega) (by rw [hj]; simpa using ew) ⟨rfl,fin⟩) hs
theorem ix_tup : IxR X (rIxT X.K):=by
 intro value slice pins s σ H x y v u Q I rx ry h hs
 obtain ⟨p,xs,i,z,rfl,rfl,hq,he,q⟩:=h
 cases rx
 obtain ⟨t,rfl⟩:=ry
 obtain ⟨its,r,pl,hz⟩:=I.tuple hq
 obtain ⟨j,h1,h2,h3,h4,h5⟩:=atI_get he
 obtain ⟨w,ew,rw'⟩:=r.get h2
 have hl:=r.length
 have hn:=line63
 have fin : EP X pins σ Q w s:=⟨z,H,I,rw',q⟩
 exact subscriptTail_builtinR (x:=w) pl.typeIs slot_tuple_getitem.lookup
  (getItem_tuple (j:=j) (Q:=fun r s'=>r = w∧EP X pins σ Q r s') pl (by omega) (by omega) (by rw [List.size_toArray,← hl]; exact h1) (by simpa using ew) ⟨rfl,fin⟩) hs
theorem mapSeq_set (its : List Value) (n j : Nat) (u : Value) : Obj.mapSeq (·.setIfInBounds j u) { cls:=.type "list",data:=.seq its.toArray n } = { cls:=.type "list",data:=.seq (its.set j u).toArray n }:=by
 simp [Obj.mapSeq]
theorem Inv.lst {pins : List (Addr × Obj)} {σ : St} {H : Hp} {s : Shared} {p : Addr} {xs : List V} (I : Inv X pins σ H s) (h : H p = some (.lst xs)) :
 ∃ (its : List Value) (n : Nat),Vals xs its∧s.heap.get? p = some { cls:=.type "list",data:=.seq its.toArray n }∧xs.length≤sizeLine:=by
 obtain ⟨z,its,n,r,e⟩:=I.hok p _ h
 exact ⟨its,n,r,e,z⟩
theorem Inv.lstUpd {pins : List (Addr × Obj)} {σ : St} {H : Hp} {s : Shared} {p : Addr} {xs ys : List V} {its its' : List Value} {n n' : Nat} {f : Obj→Obj} (I : Inv X pins σ H s) (h : H p = some (.lst xs))
 (ho : s.heap.get? p = some { cls:=.type "list",data:=.seq its.toArray n }) (hf : f { cls:=.type "list",data:=.seq its.toArray n } = { cls:=.type "list",data:=.seq its'.toArray n' }) (r : Vals ys its') (hz : ys.length≤sizeLine) (t : Nat) :
 Inv X pins σ (upd H p (.lst ys)) { s with heap:=s.heap.update p f,toks:=t }:=by
 have e : (s.heap.update p f).get? p = some { cls:=.type "list",data:=.seq its'.toArray n' }:=by
  rw [Heap.get?_update_self f ho (by rw [hf] <;> rfl),hf]
 refine I.write (x:=p) (e:=p) (by rw [h]; trivial) (.inl rfl) (fun b u hb q=>(Heap.get?_update_other _ _ (Ne.symm hb)).trans q) ⟨_,e⟩ ?_
 exact ⟨hz,its',n',r,e⟩
def rSetL : V→V→V→Hp→(Hp→Prop)→Prop:=fun o i v H Q=>∃ p xs k j,o = .ref p∧i = .int k∧H p = some (.lst xs)∧ixN xs.length k = some j∧Q (upd H p (.lst (xs.set j v)))
theorem set_list : PSet X rSetL:=by
 intro pins s σ H o i v ov iv u Q I ro ri rv h
 obtain ⟨p,xs,k,j,rfl,rfl,hp,hj,q⟩:=h
 cases ro
 obtain ⟨t,rfl⟩:=ri
 obtain ⟨its,n,r,ho,hz⟩:=I.lst hp
 obtain ⟨h1,h2,h3,h4⟩:=ixN_seq hj
 have hl:=r.length
 have hn:=line63
 have I' : Inv X pins σ (upd H p (.lst (xs.set j v))) { s with heap:=s.heap.update p (Obj.mapSeq (·.setIfInBounds j u)) } :=
  I.lstUpd hp ho (mapSeq_set its n j u) (r.set rv j) (by rw [List.length_set]; exact hz) s.toks
 by_cases h0 : 0≤k
 ·have hk : k.toNat = j:=by
   rw [seqIndex_of h0 h4] at h1
   exact Option.some.inj h1
  exact PySem.W.ki_setAt ho h0 (by omega) (by rw [List.size_toArray,← hl]; exact h4) (by rw [hk]; exact ⟨_,I',q⟩)
 ·have hk : (k + (its.toArray.size : Int)).toNat = j:=by
   rw [seqIndex_neg (by omega) h3] at h1
   rw [List.size_toArray,← hl]
   exact Option.some.inj h1
  exact PySem.W.ki_setBack ho (by omega) (by rw [List.size_toArray,← hl]; exact h3) (by omega) (by rw [hk]; exact ⟨_,I',q⟩)
theorem slice_bounds (lo hi : Option Int) (n : Nat) : (sliceBounds lo hi none n).1 = ((HT.sIx n 0 lo : Nat) : Int)∧(sliceBounds lo hi none n).2.1 = ((HT.sIx n n hi : Nat) : Int)∧(sliceBounds lo hi none n).2.2 = 1:=by
 refine ⟨?_,?_,rfl⟩
 ·cases lo with
  | none=>simp [sliceBounds,HT.sIx]
  | some i =>
   simp only [sliceBounds,HT.sIx,Option.getD_none,show (1 : Int) > 0 by decide,if_true]
   by_cases h : i < 0
   ·simp only [h,if_true] <;> omega
   ·simp only [h,if_false] <;> omega
 ·cases hi with
  | none=>simp [sliceBounds,HT.sIx]
  | some i =>
   simp only [sliceBounds,HT.sIx,Option.getD_none,show (1 : Int) > 0 by decide,if_true]
   by_cases h : i < 0
   ·simp only [h,if_true] <;> omega
   ·simp only [h,if_false] <;> omega
theorem slicePick_cut (its : List Value) (lo hi : Option Int) : slicePick its.toArray lo hi none = ((its.drop (HT.sIx its.length 0 lo)).take (HT.sIx its.length its.length hi - HT.sIx its.length 0 lo)).toArray:=by
 obtain ⟨h1,h2,h3⟩:=slice_bounds lo hi its.toArray.size
 unfold slicePick
 rw [h1,h2,h3]
 simp only [sliceRange_one,pick_run,List.size_toArray] <;> rfl
def rSlL (K : PySem.W.Frag) : V→Option Int→Option Int→Hp→VK→Prop:=fun x lo hi H Q=>∃ a xs,x = .ref a∧SqL K H a xs∧∀ p,H p = none→Q (.ref p) (upd H p (.lst (cutV xs lo hi)))
theorem sl_list : SlR X (rSlL X.K):=by
 intro pins s σ H x v vl vu lo hi sl Q I rx hs pl pu h
 obtain ⟨a,xs,rfl,hx,q⟩:=h
 cases rx
 obtain ⟨its,r,ht,hz⟩:=I.list hx
 have hlen:=r.length
 refine ⟨"list",_,slot_list_getitem.lookup,ht.isList.typeIs,?_⟩
 refine wpAny_getItem_list_slice ht.isList hs pl pu .none (by simp) ?_ (by rw [List.size_toArray] <;> omega)
 rw [slicePick_cut,← hlen]
 refine ⟨.ref s.heap.objs.size,_,I.laid (t':=s.toks) (o:=.lst (cutV xs lo hi)) (fun b ob q=>Heap.get?_push_of_some _ q) (Nat.le_refl _) ?_,rfl,q _ (I.hok.fresh (Nat.le_refl _))⟩
 exact ⟨Nat.le_trans (cutV_length xs lo hi) hz,_,0,(r.drop (HT.sIx xs.length 0 lo)).take (HT.sIx xs.length xs.length hi - HT.sIx xs.length 0 lo),Heap.get?_push_size _ rfl⟩
theorem call_len_seq : CallR X (.builtin "len") (fun xs H Q=>∃ p ys,xs = [.ref p]∧(SqL X.K H p ys∨SqT X.K H p ys)∧Q (.int ys.length) H):=by
 intro pins s σ H xs us Q I r h
 obtain ⟨p,ys,rfl,hq,q⟩:=h
 obtain ⟨u,rfl,rx⟩:=vals1 r
 cases rx
 have hn:=line63
 rcases hq with hq | hq
 ·obtain ⟨its,r',pl,hz⟩:=I.list hq
  have hlen:=r'.length
  exact Calls.call_len_list pl.isList (by simp only [List.size_toArray] <;> omega) ⟨.int ys.length,H,I.tok _,⟨s.toks + 1,by rw [List.size_toArray,hlen]⟩,q⟩
 ·obtain ⟨its,r',pl,hz⟩:=I.tuple hq
  have hlen:=r'.length
  exact len_tuple pl (by simp only [List.size_toArray] <;> omega) ⟨.int ys.length,H,I.tok _,⟨s.toks + 1,by rw [List.size_toArray,hlen]⟩,q⟩
theorem call_list_of : CallR X (.type "list") (fun xs H Q=>∃ p ys,xs = [.ref p]∧(SqL X.K H p ys∨SqT X.K H p ys)∧∀ l,H l = none→Q (.ref l) (upd H l (.lst ys))):=by
 intro pins s σ H xs us Q I r h
 obtain ⟨p,ys,rfl,hq,q⟩:=h
 obtain ⟨u,rfl,rx⟩:=vals1 r
 cases rx
 have fin : ∀ (its : List Value),Vals ys its→ys.length≤sizeLine→∀ (h' : Heap) (c' : Nat),(∀ b o',s.heap.get? b = some o'→h'.get? b = some o') →
  h'.get? s.heap.objs.size = some { cls:=.type "list",dict:=none,data:=.seq its.toArray c',slots:=#[] }→EP X pins σ Q (.ref s.heap.objs.size) { s with heap:=h' }:=fun its r' hz h' c' kp e =>
  ⟨.ref s.heap.objs.size,_,I.laid (t':=s.toks) kp (Nat.le_refl _) (show ObjOk X.prog X.w _ h' _ (.lst ys) from ⟨hz,its,c',r',e⟩),rfl,q _ (I.hok.fresh (Nat.le_refl _))⟩
 rcases hq with hq | hq
 ·obtain ⟨its,r',pl,hz⟩:=I.list hq
  have hlen:=r'.length
  obtain ⟨o,ho,hc,n,hd⟩:=pl.isList
  exact call_list_seq p (.inl rfl) ho hc hd (fun h' c' kp e=>fin its r' hz h' c' kp e) (by simp only [List.size_toArray] <;> omega)
 ·obtain ⟨its,r',pl,hz⟩:=I.tuple hq
  have hlen:=r'.length
  obtain ⟨o,ho,hc,n,hd⟩:=pl
  exact call_list_seq p (.inr rfl) ho hc hd (fun h' c' kp e=>fin its r' hz h' c' kp e) (by simp only [List.size_toArray] <;> omega)
theorem call_tuple_of : CallR X (.type "tuple") (fun xs H Q=>∃ p ys,xs = [.ref p]∧((SqL X.K H p ys∧∀ l,H l = none→Q (.ref l) (upd H l (.tup ys)))∨(SqT X.K H p ys∧Q (.ref p) H))):=by
 intro pins s σ H xs us Q I r h
 obtain ⟨p,ys,rfl,h⟩:=h
 obtain ⟨u,rfl,rx⟩:=vals1 r
 cases rx
 rcases h with ⟨hq,q⟩ | ⟨hq,q⟩
 ·obtain ⟨its,r',pl,hz⟩:=I.list hq
  have hlen:=r'.length
  refine call_tuple_list pl.isList (fun h' kp=>?_) (by simp only [List.size_toArray] <;> omega)
  have I1 : Inv X pins σ H { s with heap:=h' }:=I.kept (t':=s.toks) kp
  have I2 : Inv X pins σ (upd H h'.objs.size (.tup ys)) { s with heap:=h'.push { cls:=.type "tuple",data:=.seq its.toArray } } :=
   I1.laid (t':=s.toks) (fun b o e=>Heap.get?_push_of_some _ e) (Nat.le_refl _) (show ObjOk X.prog X.w _ _ _ (.tup ys) from ⟨hz,its,r',IsTup.new _ _⟩)
  exact ⟨.ref h'.objs.size,_,I2,rfl,q _ (I1.hok.fresh (Nat.le_refl _))⟩
 ·obtain ⟨its,r',pl,hz⟩:=I.tuple hq
  exact call_tuple_same pl ⟨.ref p,H,I,rfl,q⟩
def tyV (K : PySem.W.Frag) (T : String) (x : V) (H : Hp) : Prop:=match x with
 | .str _=>T = "str"
 | .int _=>T = "int"
 | .ref p=>(T = "list"∧∃ xs,SqL K H p xs)∨(T = "tuple"∧∃ o,K.lookup p = some o∧o.cls = .type "tuple"∧o.dict = none) ∨
  (T = "dict"∧((∃ kvs,H p = some (.dK kvs))∨∃ kvs,H p = some (.dT kvs)))∨(T = "set"∧∃ S n,H p = some (.set S n))
 | _=>False
theorem tyV_is {pins : List (Addr × Obj)} {σ : St} {H : Hp} {s : Shared} {T : String} {x : V} {v : Value} (I : Inv X pins σ H s) (r : RelV x v) (ty : tyV X.K T x H) :
 s.TypeIs v T∧∀ a,v = .ref a→∃ ob,s.heap.get? a = some ob∧ob.dict = none:=by
 cases x with
 | str z =>
  obtain ⟨t,rfl⟩:=r
  cases (show T = "str" from ty)
  exact ⟨typeIs_str s z t,fun _ e=>nomatch e⟩
 | int i =>
  obtain ⟨t,rfl⟩:=r
  cases (show T = "int" from ty)
  exact ⟨typeIs_int s i t,fun _ e=>nomatch e⟩
 | ref p =>
  cases r
  rcases ty with ⟨rfl,xs,hq⟩ | ⟨rfl,o,hk,hc,hd⟩ | ⟨rfl,hk⟩ | ⟨rfl,S,n,hk⟩
  ·obtain ⟨its,_,pl,_⟩:=I.list hq
   refine ⟨pl.isList.typeIs,fun a e=>?_⟩
   cases e
   obtain ⟨o,n,e,c,hd,_⟩:=pl
   exact ⟨o,e,hd⟩
  ·refine ⟨⟨o,I.kIn p o hk,hc⟩,fun a e=>?_⟩
   cases e
   exact ⟨o,I.kIn _ o hk,hd⟩
  ·have z : ∃ o,s.heap.get? p = some o∧o.ExactDict:=by
    rcases hk with ⟨kvs,hk⟩ | ⟨kvs,hk⟩
    ·obtain ⟨_,_,_,_,o,_,_,e,ex,_⟩:=I.hok p _ hk
     exact ⟨o,e,ex⟩
    ·obtain ⟨_,_,_,_,o,_,_,e,ex,_⟩:=I.hok p _ hk
     exact ⟨o,e,ex⟩
   obtain ⟨o,e,ex⟩:=z
   refine ⟨⟨o,e,ex.1⟩,fun a e2=>?_⟩
   cases e2
   exact ⟨o,e,ex.2.1⟩
  ·obtain ⟨o,_,_,_,e,ex,_⟩:=I.hok p _ hk
   refine ⟨⟨o,e,ex.1⟩,fun a e2=>?_⟩
   cases e2
   exact ⟨o,e,ex.2.1⟩
 | _=>exact False.elim ty
def tBM0 (K : PySem.W.Frag) (T : String) (r : V→List V→Hp→VK→Prop) (to : TE) : TE:=fun σ H Q=>to σ H fun x H1=>tyV K T x H1∧r x [] H1 Q
def tBM (K : PySem.W.Frag) (T : String) (r : V→List V→Hp→VK→Prop) (to : TE) (t : TA) : TE:=fun σ H Q=>to σ H fun x H1=>tyV K T x H1∧t σ H1 fun xs H2=>r x xs H2 Q
variable {o e : Expr} {es : List Expr} {to : TE} {t : TA} {name : Str} {apos cpos : Pos} {T id : String} {r : V→List V→Hp→VK→Prop}
theorem pe_bm0 (pa : PlainAttrs T) (slot : Slot T name id) (hty : typeOf (.builtin id) = pure (.type "method_descriptor")) (hm : MtR X id r) (ho : PE X o to)
 (hbase : attributeBase o name X.env (eval o X.env) = eval o X.env:=by rfl) (hline : (apos.endLine == cpos.line) = true:=by rfl) : PE X (.Call (.Attribute o name apos) [] [] cpos) (tBM0 X.K T r to):=by
 intro pins s σ H Q I h
 refine wpAny_Call_method0_late hbase hline (thn (ho pins s σ H _ I h) fun v s1 ⟨x,H1,I1,r1,ty,q1⟩=>?_)
 obtain ⟨h1,h2⟩:=tyV_is I1 r1 ty
 exact ⟨T,id,pa,slot,hty,h1,h2,Calls.callWith_builtin rfl (PySem.evalArgs_none (hm pins s1 σ H1 x [] v [] Q I1 r1 .nil q1))⟩
theorem pe_bm (pa : PlainAttrs T) (slot : Slot T name id) (hty : typeOf (.builtin id) = pure (.type "method_descriptor")) (hm : MtR X id r) (ho : PE X o to) (ha : PA X (e :: es) t)
 (hbase : attributeBase o name X.env (eval o X.env) = eval o X.env:=by rfl)
 (hfew : ((backTo cpos (starEach (e :: es) X.env)).all (fun x=>!x.1) && (backToKw cpos (keywordEach [] X.env)).all (fun x=>x.1.isSome)
  && decide ((e :: es).length + ([] : List Keyword).length + (if ([] : List Keyword).isEmpty then 0 else 1) < 30)) = true:=by rfl)
 (hline : (apos.endLine == cpos.line) = true:=by rfl) (hs : starEach (e :: es) X.env = (false,eval e X.env) :: starEach es X.env:=by rfl) (hplain : (backTo cpos (starEach es X.env)).any (·.1) = false:=by rfl) :
 PE X (.Call (.Attribute o name apos) (e :: es) [] cpos) (tBM X.K T r to t):=by
 intro pins s σ H Q I h
 refine wpAny_Call_method_late hbase hfew hline rfl (thn (ho pins s σ H _ I h) fun v s1 ⟨x,H1,I1,r1,ty,q1⟩=>?_)
 obtain ⟨h1,h2⟩:=tyV_is I1 r1 ty
 refine ⟨T,id,pa,slot,hty,h1,h2,?_⟩
 have hA:=ha cpos pins s1 σ H1 _ I1 q1
 rw [hs] at hA ⊢
 refine Calls.callWith_builtin (by show (false || (backTo cpos (starEach es X.env)).any (·.1)) = false; rw [hplain] <;> rfl) (Calls.evalArgs_plain ?_)
 exact thn hA fun us s2 ⟨vs,H2,I2,r2,q2⟩=>hm pins s2 σ H2 x vs v us Q I2 r1 r2 q2
end
end L2
namespace L2
open PySem PySem.Spec PyProof.Rows
def MtM (X : Cx) (id : String) (r : V→List V→Hp→VK→Prop) : Prop :=
 ∀ (pins : List (Addr × Obj)) (s : Shared) (σ : St) (H : Hp) (x : V) (xs : List V) (v : Value) (us : List Value) (Q : VK),Inv X pins σ H s→RelV x v→Vals xs us→r x xs H Q →
  wpAny (model X.prog X.w) X.A (call (.builtin id) (v :: us)) (EP X pins σ Q) X.xe s
theorem Vals.one : ∀ {x : V} {us : List Value},Vals [x] us→∃ u,us = [u]∧RelV x u
 | _,_,.cons r .nil=>⟨_,rfl,r⟩
theorem Vals.zero : ∀ {us : List Value},Vals [] us→us = []
 | _,.nil=>rfl
theorem Vals.dropLast {xs : List V} {us : List Value} (h : Vals xs us) : Vals xs.dropLast us.dropLast:=by
 induction h with
 | nil=>exact .nil
 | cons r t ih =>
  cases t with
  | nil=>exact .nil
  | cons q t'=>exact .cons r ih
theorem erase_last {α : Type} (l : List α) : l.eraseIdx (l.length - 1) = l.dropLast:=by
 induction l with
 | nil=>rfl
 | cons a r ih =>
  cases r with
  | nil=>rfl
  | cons b r =>
   have e : (a :: b :: r).length - 1 = ((b :: r).length - 1) + 1:=by
    have h1 : (a :: b :: r).length = r.length + 2:=rfl
    have h2 : (b :: r).length = r.length + 1:=rfl
    omega
   rw [e,List.eraseIdx_cons_succ,ih]
   all_goals rfl
section
variable {X : Cx} {pins : List (Addr × Obj)} {σ : St} {H : Hp} {s : Shared} {l b : Addr} {xs ys zs : List V}
theorem Inv.lset {its its' : List Value} {n : Nat} {f : Array Value→Array Value} {t' : Nat} (I : Inv X pins σ H s) (hH : H l = some (.lst xs))
 (e : s.heap.get? l = some { cls:=.type "list",data:=.seq its.toArray n }) (hf : f its.toArray = its'.toArray) (hv : Vals ys its') (hz : ys.length≤sizeLine) :
 Inv X pins σ (upd H l (.lst ys)) { s with heap:=s.heap.update l (Obj.mapSeq f),toks:=t' }:=by
 have q:=PySem.IsL.update e f
 rw [hf] at q
 refine I.write (x:=l) (e:=l) (by rw [hH]; exact trivial) (.inl rfl) (fun b' u hb hu=>(Heap.get?_update_other s.heap (Obj.mapSeq f) (Ne.symm hb)).trans hu) ⟨_,q⟩ ?_
 exact ⟨hz,its',_,hv,q⟩
theorem Inv.lnew {its : List Value} {t' : Nat} (I : Inv X pins σ H s) (hv : Vals ys its) (hz : ys.length≤sizeLine) :
 Inv X pins σ (upd H s.heap.objs.size (.lst ys)) { s with heap:=s.heap.push { cls:=.type "list",data:=.seq its.toArray },toks:=t' } :=
 I.laid (fun _ _ q=>Heap.get?_push_of_some _ q) (Nat.le_refl _) ⟨hz,its,0,hv,Heap.get?_push_size _ rfl⟩
theorem Inv.fresh (I : Inv X pins σ H s) : H s.heap.objs.size = none:=I.hok.fresh (Nat.le_refl _)
theorem Inv.lstM (I : Inv X pins σ H s) (hH : H l = some (.lst xs)) : xs.length≤sizeLine∧∃ (its : List Value) (n : Nat),Vals xs its∧xs.length = its.length∧s.heap.get? l = some { cls:=.type "list",data:=.seq its.toArray n }:=by
 obtain ⟨z,its,n,r,e⟩:=I.hok l _ hH
 exact ⟨z,its,n,r,r.length,e⟩
end
section
variable {X : Cx}
def rAppend : V→List V→Hp→VK→Prop:=fun x vs H Q=>∃ l xs y,x = .ref l∧vs = [y]∧H l = some (.lst xs)∧xs.length < sizeLine∧Q .non (upd H l (.lst (xs ++ [y])))
theorem mt_append : MtM X "list.append" rAppend:=by
 intro pins s σ H x vs v us Q I rx rv h
 obtain ⟨l,xs,y,rfl,rfl,hH,hz,q⟩:=h
 cases rx
 obtain ⟨u,rfl,ru⟩:=rv.one
 obtain ⟨z,its,n,r,hl,e⟩:=I.lstM hH
 refine call_meets F.slot_list_append ⟨_,e,rfl⟩ F.entry_list_append (F.args_list_append_2 _ _) (PySem.list_append l its.toArray n u (by rw [List.size_toArray]; omega)) ⟨e,?_⟩
 refine ⟨.non,_,I.lset (its':=its ++ [u]) hH e (by simp) (r.append (.cons ru .nil)) ?_,rfl,q⟩
 rw [List.length_append,List.length_singleton]
 omega
def rPop : V→List V→Hp→VK→Prop:=fun x vs H Q=>∃ l xs y,x = .ref l∧vs = []∧H l = some (.lst xs)∧xs[xs.length - 1]? = some y∧Q y (upd H l (.lst xs.dropLast))
theorem mt_pop : MtM X "list.pop" rPop:=by
 intro pins s σ H x vs v us Q I rx rv h
 obtain ⟨l,xs,y,rfl,rfl,hH,hy,q⟩:=h
 cases rx
 have hus:=rv.zero
 subst hus
 obtain ⟨z,its,n,r,hl,e⟩:=I.lstM hH
 obtain ⟨u,hu,ru⟩:=r.get hy
 have hy' : its.toArray[its.toArray.size - 1]? = some u:=by
  show its.toArray[its.length - 1]? = some u
  rw [← Array.getElem?_toList,← hl]
  exact hu
 refine call_meets F.slot_list_pop ⟨_,e,rfl⟩ F.entry_list_pop (F.args_list_pop_1 _) (MeetsSeq.list_pop_last l its.toArray n u hy' (by rw [List.size_toArray]; omega)) ⟨e,?_⟩
 refine ⟨y,_,I.lset (its':=its.dropLast) hH e ?_ r.dropLast ?_,ru,q⟩
 ·show its.toArray.eraseIdxIfInBounds (its.toArray.size - 1) = its.dropLast.toArray
  rw [List.size_toArray,List.eraseIdxIfInBounds_toArray,erase_last]
 ·rw [List.length_dropLast]
  omega
def rCat : R2:=fun x y H Q=>∃ l b xs zs,x = .ref l∧y = .ref b∧H l = some (.lst xs)∧H b = some (.lst zs)∧xs.length + zs.length≤sizeLine∧∀ p,H p = none→Q (.ref p) (upd H p (.lst (xs ++ zs)))
theorem op_cat : OpR X (binaryOp .Add) rCat:=by
 intro pins s σ H x y v u Q I rx ry h
 obtain ⟨l,b,xs,zs,rfl,rfl,hH,hB,hz,q⟩:=h
 cases rx
 cases ry
 obtain ⟨z,its,n,r,hl,e⟩:=I.lstM hH
 obtain ⟨z2,its2,n2,r2,hl2,e2⟩:=I.lstM hB
 refine PySem.P.add_list e e2 ?_ (by rw [List.size_toArray,List.size_toArray]; omega)
 have ea : its.toArray ++ its2.toArray = (its ++ its2).toArray:=by simp
 rw [ea]
 exact ⟨.ref _,_,I.lnew (t':=s.toks) (r.append r2) (by rw [List.length_append]; omega),rfl,q _ I.fresh⟩
end
section
variable {prog : Program} {w : World} {A : Around} {E : Value→Shared→Prop} {s : Shared}
end
section
variable {X : Cx}
end
end L2
namespace L2
open PySem PySem.Spec PyProof.Rows
theorem Vals.ints : ∀ {ns : List Int} {us : List Value},Vals (ns.map V.int) us→IntsAre us ns
 | [],us,h=>by
  rw [List.map_nil] at h
  cases h
  exact IntsAre.nil
 | n :: ns,us,h=>by
  rw [List.map_cons] at h
  cases h with
  | cons r t =>
   obtain ⟨k,rfl⟩:=r
   exact IntsAre.cons n k (Vals.ints t)
theorem Vals.bls : ∀ {bs : List Bool} {us : List Value},Vals (bs.map V.bl) us→us = bs.map Value.bool
 | [],us,h=>by
  rw [List.map_nil] at h
  cases h
  rfl
 | b :: bs,us,h=>by
  rw [List.map_cons] at h
  cases h with
  | cons r t =>
   cases r
   rw [Vals.bls t,List.map_cons]
theorem Vals.ref1 {a : Addr} {us : List Value} (r : Vals [V.ref a] us) : us = [Value.ref a]:=by
 cases r with
 | cons r t =>
  cases t
  cases r
  rfl
section
variable {prog : Program} {w : World} {A : Around} {E : Value→Shared→Prop} {s : Shared} {l : Addr} {its : List Value} {ns : List Int} {Q : Value→Shared→Prop}
theorem sum_raw (hh : A.handled = none) (hl : s.heap.IsList l its.toArray) (hi : IntsAre its ns)
 (h : ∀ h' tk t',(∀ b o,s.heap.get? b = some o→h'.get? b = some o)→Q (.int ns.sum t') { s with heap:=h',toks:=tk }) : wpAny (model prog w) A (call (.builtin "sum") [.ref l]) Q E s:=by
 obtain ⟨xs,e⟩:=hi.allInts.items
 have hn : numsOf (intItems xs).toList = ns:=by rw [← e]; exact hi.numsOf
 rw [nums_intItems] at hn
 rw [e] at hl
 refine PySem.sum_intListG hh hl fun h' tk t' hk=>?_
 have:=h h' tk t' hk
 rw [preSum_eq,List.take_of_length_le (by simp),hn]; exact this
end
section
variable {X : Cx}
def rSum (K : PySem.W.Frag) : List V→Hp→VK→Prop:=fun vs H Q=>∃ (a : Addr) (ns : List Int),vs = [V.ref a]∧SqL K H a (ns.map V.int)∧Q (.int ns.sum) H
theorem cr_sum (hc : X.calm = true) : CallR X (.builtin "sum") (rSum X.K):=by
 intro pins s σ H vs us Q I r h
 obtain ⟨a,ns,rfl,hs,q⟩:=h
 obtain ⟨its,rv,hl,_⟩:=I.list hs
 rw [Vals.ref1 r]
 exact sum_raw (I.ok.hd hc) hl.isList rv.ints fun h' tk t' hk=>⟨.int _,H,I.kept hk,⟨_,rfl⟩,q⟩
end
section
variable {X : Cx}
end
section
variable {X : Cx}
end
theorem iter_any {prog : Program} {w : World} {A : Around} {E : Value→Shared→Prop} {s : Shared} {l : Addr} {items : Array Value} {Q : Value→Shared→Prop} (hl : s.heap.IsList l items)
 (h : ∀ s₂ : Shared,s₂ = { s with heap:=s.heap.push { cls:=.type "list_iterator",data:=.fields #[.ref l,.int 0 0] } } →
  (s₂.heap.IsListIter s.heap.objs.size l 0∧s₂.heap.IsList l items)→l≠s.heap.objs.size→Q (.ref s.heap.objs.size) s₂) : wpAny (model prog w) A (pyIter (.ref l)) Q E s:=by
 have hlt : l < s.heap.objs.size:=by obtain ⟨_,e,_⟩:=hl; exact Heap.lt_size e
 exact wpAny_pyIter_list hl (h _ rfl ⟨⟨_,Heap.get?_push_size _ rfl,rfl,rfl⟩,hl.push _⟩ (Nat.ne_of_lt hlt))
theorem truth_bools {prog : Program} {w : World} {A : Around} {bs : List Bool} {its : List Value} (e : its = bs.map Value.bool) :
 TruthOf prog w A (fun i v=>its.toArray[i]? = some v) (fun i=>bs.getD i false):=fun i v s Q E hv hq=>by
 have hv' : its[i]? = some v:=by simpa using hv
 rw [e,List.getElem?_map] at hv'
 obtain ⟨b,hb,rfl⟩:=Option.map_eq_some_iff.mp hv'
 have hg : bs.getD i false = b:=by rw [List.getD_eq_getElem?_getD,hb] <;> rfl
 have hq' : Q (bs.getD i false) s:=hq
 rw [hg] at hq'
 exact wpAny_truthy_bool hq'
theorem any_range : ∀ bs : List Bool,(List.range bs.length).any (fun i=>bs.getD i false) = bs.any id
 | []=>rfl
 | b :: bs=>by
  rw [List.length_cons,List.range_succ_eq_map,List.any_cons,List.any_map,List.any_cons,← any_range bs]
  all_goals rfl
theorem all_range : ∀ bs : List Bool,(List.range bs.length).all (fun i=>bs.getD i false) = bs.all id
 | []=>rfl
 | b :: bs=>by
  rw [List.length_cons,List.range_succ_eq_map,List.all_cons,List.all_map,List.all_cons,← all_range bs]
  all_goals rfl
section
variable {X : Cx}
def rAny (K : PySem.W.Frag) : List V→Hp→VK→Prop:=fun vs H Q=>∃ (a : Addr) (bs : List Bool),vs = [V.ref a]∧SqL K H a (bs.map V.bl)∧Q (.bl (bs.any id)) H
def rAll (K : PySem.W.Frag) : List V→Hp→VK→Prop:=fun vs H Q=>∃ (a : Addr) (bs : List Bool),vs = [V.ref a]∧SqL K H a (bs.map V.bl)∧Q (.bl (bs.all id)) H
theorem cr_any (hc : X.calm = true) : CallR X (.builtin "any") (rAny X.K):=by
 intro pins s σ H vs us Q I r h
 obtain ⟨a,bs,rfl,hs,q⟩:=h
 obtain ⟨its,rv,hl,_⟩:=I.list hs
 rw [Vals.ref1 r]
 have hb:=rv.bls
 refine call_any_walk (iter_any hl.isList fun s₂ e2 st hne=>?_)
 subst e2
 refine ⟨_,_,_,_,_,_,_,rfl,Walks.list (A:=X.A.in1) (I.ok.hd hc) _ a hne its.toArray,st,truth_bools hb,fun h' tk hk=>?_⟩
 refine ⟨.bl _,H,I.kept fun b o eo=>hk b o (fun hmem=>?_) (Heap.get?_push_of_some _ eo),?_,q⟩
 ·rcases List.mem_cons.mp hmem with e1 | hmem
  ·exact absurd (e1 ▸ Heap.lt_size eo) (Nat.lt_irrefl _)
  ·cases hmem
 ·show Value.bool _ = Value.bool _
  rw [← any_range,hb,List.size_toArray,List.length_map]
theorem cr_all (hc : X.calm = true) : CallR X (.builtin "all") (rAll X.K):=by
 intro pins s σ H vs us Q I r h
 obtain ⟨a,bs,rfl,hs,q⟩:=h
 obtain ⟨its,rv,hl,_⟩:=I.list hs
 rw [Vals.ref1 r]
 have hb:=rv.bls
 refine call_all_walk (iter_any hl.isList fun s₂ e2 st hne=>?_)
 subst e2
 refine ⟨_,_,_,_,_,_,_,rfl,Walks.list (A:=X.A.in1) (I.ok.hd hc) _ a hne its.toArray,st,truth_bools hb,fun h' tk hk=>?_⟩
 refine ⟨.bl _,H,I.kept fun b o eo=>hk b o (fun hmem=>?_) (Heap.get?_push_of_some _ eo),?_,q⟩
 ·rcases List.mem_cons.mp hmem with e1 | hmem
  ·exact absurd (e1 ▸ Heap.lt_size eo) (Nat.lt_irrefl _)
  ·cases hmem
 ·show Value.bool _ = Value.bool _
  rw [← all_range,hb,List.size_toArray,List.length_map]
end
mutual
inductive Dp (K : PySem.W.Frag) (H : Hp) : V→PyData→Prop
 | non : Dp K H .non .none
 | bl (b : Bool) : Dp K H (.bl b) (.bool b)
 | int (i : Int) : Dp K H (.int i) (.int i)
 | str (x : Str) : Dp K H (.str x) (.str x)
 | lst {a : Addr} {xs : List V} {ds : List PyData} : SqL K H a xs→DpAll K H xs ds→Dp K H (.ref a) (.list ds)
 | tup {a : Addr} {xs : List V} {ds : List PyData} : SqT K H a xs→DpAll K H xs ds→Dp K H (.ref a) (.tuple ds)
inductive DpAll (K : PySem.W.Frag) (H : Hp) : List V→List PyData→Prop
 | nil : DpAll K H [] []
 | cons {v : V} {vs : List V} {d : PyData} {ds : List PyData} : Dp K H v d→DpAll K H vs ds→DpAll K H (v :: vs) (d :: ds)
end
section
variable {X : Cx} {pins : List (Addr × Obj)} {σ : St} {H : Hp} {s : Shared}
mutual
theorem Dp.reads (I : Inv X pins σ H s) : ∀ (d : PyData) (v : V) (u : Value),Dp X.K H v d→RelV v u→∃ as,Reads s.heap u d as
 | .none,_,_,h,r=>by
  cases h
  cases r
  exact ⟨_,Reads.none⟩
 | .bool b,_,_,h,r=>by
  cases h
  cases r
  exact ⟨_,Reads.bool b⟩
 | .int i,_,_,h,r=>by
  cases h
  obtain ⟨t,rfl⟩:=r
  exact ⟨_,Reads.int i t⟩
 | .str x,_,_,h,r=>by
  cases h
  obtain ⟨t,rfl⟩:=r
  exact ⟨_,Reads.str x t⟩
 | .list ds,_,_,h,r=>by
  cases h with
  | lst hs ha =>
   cases r
   obtain ⟨its,rv,⟨o,n,ho,hc,_,hd⟩,_⟩:=I.list hs
   obtain ⟨as,hr⟩:=Dp.readsAll I ds _ its ha rv
   exact ⟨_,Reads.list ho hc hd hr⟩
 | .tuple ds,_,_,h,r=>by
  cases h with
  | tup hs ha =>
   cases r
   obtain ⟨its,rv,⟨o,ho,hc,n,hd⟩,_⟩:=I.tuple hs
   obtain ⟨as,hr⟩:=Dp.readsAll I ds _ its ha rv
   exact ⟨_,Reads.tuple ho hc hd hr⟩
 | .dict _,_,_,h,_=>by cases h
theorem Dp.readsAll (I : Inv X pins σ H s) : ∀ (ds : List PyData) (vs : List V) (us : List Value),DpAll X.K H vs ds→Vals vs us→∃ as,ReadsAll s.heap us ds as
 | [],_,_,h,r=>by
  cases h
  cases r
  exact ⟨_,ReadsAll.nil⟩
 | d :: ds,_,_,h,r=>by
  cases h with
  | cons h1 h2 =>
   cases r with
   | cons r1 r2 =>
    obtain ⟨as,q1⟩:=Dp.reads I d _ _ h1 r1
    obtain ⟨bs,q2⟩:=Dp.readsAll I ds _ _ h2 r2
    exact ⟨_,ReadsAll.cons q1 q2⟩
end
end
section
variable {X : Cx}
def rEqD (K : PySem.W.Frag) : R2:=fun x y H Q=>∃ d e,Dp K H x d∧Dp K H y e∧SeqAt.shaped d = true∧SeqAt.shaped e = true∧Q (.bl (PyData.eqv d e)) H
def rNeD (K : PySem.W.Frag) : R2:=fun x y H Q=>∃ d e,Dp K H x d∧Dp K H y e∧SeqAt.shaped d = true∧SeqAt.shaped e = true∧Q (.bl (!PyData.eqv d e)) H
theorem op_eqD (hu : X.A.units + 64 < cLine) : OpR X (compareOp .Eq) (rEqD X.K):=by
 intro pins s σ H x y v u Q I rx ry h
 obtain ⟨d,e,hd,he,sd,se,q⟩:=h
 obtain ⟨as,r1⟩:=Dp.reads I d x v hd rx
 obtain ⟨bs,r2⟩:=Dp.reads I e y u he ry
 exact SeqAt.compareEq_shaped r1 r2 sd se hu ⟨.bl _,H,I,rfl,q⟩
theorem op_neD (hu : X.A.units + 64 < cLine) : OpR X (compareOp .NotEq) (rNeD X.K):=by
 intro pins s σ H x y v u Q I rx ry h
 obtain ⟨d,e,hd,he,sd,se,q⟩:=h
 obtain ⟨as,r1⟩:=Dp.reads I d x v hd rx
 obtain ⟨bs,r2⟩:=Dp.reads I e y u he ry
 exact SeqAt.compareNe_shaped r1 r2 sd se hu ⟨.bl _,H,I,rfl,q⟩
end
end L2
namespace L2
open PySem PySem.Spec PyProof.Rows
abbrev CellAt (h : Heap) (c : Addr) (v : Option Value) : Prop:=h.IsCell c v
def relS (scope sc : Scope) : Scope :=
 { scope with names:=scope.names.map fun (n,k)=>if (k == .free && sc.kind == .function && sc.names.lookup n == some .cell) then (n,.cell) else (n,k) }
def cloFrom (cells : List (Str × Addr)) : List (Str × NameKind)→List (Str × Addr)→List (Str × Addr)
 | [],acc=>acc
 | (n,k) :: r,acc=>if k == .free then cloFrom cells r ((n,(cells.lookup n).getD 0) :: acc) else cloFrom cells r acc
theorem closure_loop (env : Env) (f : Str × NameKind→List (Str × Addr)→Sem (ForInStep (List (Str × Addr))))
 (hf : ∀ n k c,f (n,k) c = if k == .free then (do let a ← cellOf env n; pure (.yield ((n,a) :: c))) else pure (.yield c)) :
 ∀ (names : List (Str × NameKind)) (acc : List (Str × Addr)),(∀ y∈names,y.2 = .free→∃ c,env.cells.lookup y.1 = some c)→forIn names acc f = pure (cloFrom env.cells names acc)
 | [],acc,_=>by rw [List.forIn_nil]; rfl
 | (n,k) :: r,acc,h=>by
  rw [List.forIn_cons,hf]
  have ih:=fun acc=>closure_loop env f hf r acc fun y hy=>h y (List.mem_cons_of_mem _ hy)
  unfold cloFrom
  by_cases hk : (k == NameKind.free) = true
  ·rw [if_pos hk,if_pos hk]
   obtain ⟨c,hc⟩:=h (n,k) List.mem_cons_self (by simpa using hk)
   have e : cellOf env n = pure c:=by unfold cellOf; rw [hc]
   rw [e]
   have e2 : (env.cells.lookup n).getD 0 = c:=by rw [hc]; rfl
   rw [e2]
   exact ih _
  ·rw [if_neg hk,if_neg hk]
   exact ih _
theorem closure_ok {scope : Scope} {env : Env} (h : ∀ y∈scope.names,y.2 = .free→∃ c,env.cells.lookup y.1 = some c) : closureFor scope env = pure (cloFrom env.cells scope.names []):=by
 simp only [closureFor]
 rw [closure_loop env _ (fun n k c=>rfl) scope.names [] h]
 rfl
theorem mem_lookup {α : Type} : ∀ {l : List (Str × α)} {n : Str} {c : α},(n,c)∈l→∃ c',l.lookup n = some c'
 | (k,v) :: r,n,c,h=>by
  rw [List.lookup_cons]
  cases hb : n == k with
  | true=>exact ⟨_,rfl⟩
  | false =>
   rcases List.mem_cons.mp h with e | h
   ·cases e; simp at hb
   ·exact mem_lookup h
theorem cloFrom_mem {cells : List (Str × Addr)} : ∀ {names : List (Str × NameKind)} {acc : List (Str × Addr)} {n : Str} {c : Addr},(n,c)∈cloFrom cells names acc→(n,c)∈acc∨((n,.free)∈names∧c = (cells.lookup n).getD 0)
 | [],_,_,_,h=>.inl h
 | (m,k) :: r,acc,n,c,h=>by
  unfold cloFrom at h
  split at h
  ·rename_i hk
   have hk : k = .free:=by simpa using hk
   rcases cloFrom_mem h with h | ⟨h1,h2⟩
   ·rcases List.mem_cons.mp h with e | h
    ·cases e; exact .inr ⟨hk ▸ List.mem_cons_self,rfl⟩
    ·exact .inl h
   ·exact .inr ⟨List.mem_cons_of_mem _ h1,h2⟩
  ·rcases cloFrom_mem h with h | ⟨h1,h2⟩
   ·exact .inl h
   ·exact .inr ⟨List.mem_cons_of_mem _ h1,h2⟩
theorem cloFrom_acc {cells : List (Str × Addr)} : ∀ {names : List (Str × NameKind)} {acc : List (Str × Addr)} {p : Str × Addr},p∈acc→p∈cloFrom cells names acc
 | [],_,_,h=>h
 | (m,k) :: r,acc,p,h=>by
  unfold cloFrom
  split
  ·exact cloFrom_acc (List.mem_cons_of_mem _ h)
  ·exact cloFrom_acc h
theorem cloFrom_has {cells : List (Str × Addr)} : ∀ {names : List (Str × NameKind)} {acc : List (Str × Addr)} {n : Str},(n,.free)∈names→(n,(cells.lookup n).getD 0)∈cloFrom cells names acc
 | (m,k) :: r,acc,n,h=>by
  unfold cloFrom
  rcases List.mem_cons.mp h with e | h
  ·cases e
   exact cloFrom_acc List.mem_cons_self
  ·split
   ·exact cloFrom_has h
   ·exact cloFrom_has h
theorem cells_mem : ∀ {names : List (Str × NameKind)} {h : Heap} {acc : List (Str × Addr)} {x : Str} {c : Addr},(x,c)∈cellsFrom h.objs.size names acc →
 (x,c)∈acc∨((x,.cell)∈names∧h.objs.size≤c∧CellAt (pushCells h names) c none)
 | [],_,_,_,_,h=>.inl h
 | (n,k) :: r,h,acc,x,c,hm=>by
  unfold cellsFrom at hm
  unfold pushCells
  split at hm
  ·rename_i hk
   rw [if_pos hk]
   have hk : k = .cell:=by simpa using hk
   rw [← Heap.size_push h { cls:=.type "cell",data:=.cell none }] at hm
   rcases cells_mem hm with hm | ⟨h1,h2,h3⟩
   ·rcases List.mem_cons.mp hm with e | hm
    ·cases e
     exact .inr ⟨hk ▸ List.mem_cons_self,Nat.le_refl _,_,pushCells_keeps r _ _ _ (Heap.get?_push_size _ rfl),rfl⟩
    ·exact .inl hm
   ·rw [Heap.size_push] at h2
    exact .inr ⟨List.mem_cons_of_mem _ h1,Nat.le_of_succ_le h2,h3⟩
  ·rename_i hk
   rw [if_neg hk]
   rcases cells_mem hm with hm | ⟨h1,h2,h3⟩
   ·exact .inl hm
   ·exact .inr ⟨List.mem_cons_of_mem _ h1,h2,h3⟩
theorem cells_acc : ∀ {names : List (Str × NameKind)} {n : Nat} {acc : List (Str × Addr)} {p : Str × Addr},p∈acc→p∈cellsFrom n names acc
 | [],_,_,_,h=>h
 | (m,k) :: r,n,acc,p,h=>by
  unfold cellsFrom
  split
  ·exact cells_acc (List.mem_cons_of_mem _ h)
  ·exact cells_acc h
theorem cells_has : ∀ {names : List (Str × NameKind)} {n : Nat} {acc : List (Str × Addr)} {x : Str},(x,.cell)∈names→∃ c,(x,c)∈cellsFrom n names acc
 | (m,k) :: r,n,acc,x,h=>by
  unfold cellsFrom
  rcases List.mem_cons.mp h with e | h
  ·cases e
   exact ⟨n,cells_acc List.mem_cons_self⟩
  ·split
   ·exact cells_has h
   ·exact cells_has h
theorem cells_inj : ∀ {names : List (Str × NameKind)} {h : Heap} {acc : List (Str × Addr)} {x y : Str} {c : Addr},(∀ p∈acc,p.2 < h.objs.size)→(∀ x y c,(x,c)∈acc→(y,c)∈acc→x = y) →
 (x,c)∈cellsFrom h.objs.size names acc→(y,c)∈cellsFrom h.objs.size names acc→x = y
 | [],_,_,_,_,_,_,hi,h1,h2=>hi _ _ _ h1 h2
 | (n,k) :: r,h,acc,x,y,c,hl,hi,h1,h2=>by
  unfold cellsFrom at h1 h2
  split at h1
  ·rename_i hk
   rw [if_pos hk] at h2
   rw [← Heap.size_push h { cls:=.type "cell",data:=.cell none }] at h1 h2
   refine cells_inj (h:=h.push _) (fun p hp=>?_) (fun x y c a b=>?_) h1 h2
   ·rw [Heap.size_push]
    rcases List.mem_cons.mp hp with rfl | hp
    ·exact Nat.lt_succ_self _
    ·exact Nat.lt_succ_of_lt (hl p hp)
   ·rcases List.mem_cons.mp a with e | a <;> rcases List.mem_cons.mp b with e' | b
    ·cases e; cases e'; rfl
    ·cases e; exact absurd (hl _ b) (Nat.lt_irrefl _)
    ·cases e'; exact absurd (hl _ a) (Nat.lt_irrefl _)
    ·exact hi _ _ _ a b
  ·rename_i hk
   rw [if_neg hk] at h2
   exact cells_inj hl hi h1 h2
theorem newEnv_comp {M : Model} {A : Around} {E : Value→Shared→Prop} {s : Shared} {scope : Scope} {globals : Addr} {closure : List (Str × Addr)} {qual : Str} {func : Option Addr} {code : Value} {around : Env} {builtins : Addr} {Q : Env→Shared→Prop}
 (h : Q (newEnv scope s.heap.objs.size globals (cellsFrom (s.heap.objs.size + 1) scope.names closure) qual func code (some around) builtins)
  { s with heap:=pushCells (s.heap.push { cls:=.type "dict",data:=.dict #[] }) scope.names }) :
 wpAny M A (newFunctionEnv scope globals closure [] qual func code (some around) builtins) Q E s:=by
 simp only [newFunctionEnv,Option.isSome_some,if_true]
 refine wpAny_bind (wpAny_alloc ?_)
 refine wpAny_bind (wpAny_layCells _ (fun n k c=>rfl) scope.names closure _ _ ?_)
 rw [show ({ s with heap:=s.heap.push { cls:=.type "dict",data:=.dict #[] } } : Shared).heap.objs.size = s.heap.objs.size + 1 from Heap.size_push ..]
 rw [List.forIn_nil]
 exact wpAny_bind (wpAny_pure (wpAny_pure h))
theorem lookup_relS {sc : Scope} : ∀ {names : List (Str × NameKind)} {x : Str} {k : NameKind},
 (names.map fun (n,k)=>if (k == NameKind.free && sc.kind == .function && sc.names.lookup n == some .cell) then (n,NameKind.cell) else (n,k)).lookup x = some k →
 ∃ k',names.lookup x = some k'∧(k = k'∨(k' = .free∧k = .cell))
 | [],_,_,h=>by simp at h
 | (n,k₀) :: r,x,k,h=>by
  have ih:=@lookup_relS sc r x k
  have h' : List.lookup x ((if (k₀ == NameKind.free && sc.kind == .function && sc.names.lookup n == some .cell) = true then (n,NameKind.cell) else (n,k₀)) :: (r.map _)) = some k:=h
  cases hx : x == n with
  | true =>
   simp only [List.lookup_cons,hx]
   by_cases hc : (k₀ == NameKind.free && sc.kind == .function && sc.names.lookup n == some .cell) = true
   ·rw [if_pos hc] at h'
    simp only [List.lookup_cons,hx] at h'
    cases h'
    simp only [Bool.and_eq_true,beq_iff_eq] at hc
    exact ⟨k₀,rfl,.inr ⟨hc.1.1,rfl⟩⟩
   ·rw [if_neg hc] at h'
    simp only [List.lookup_cons,hx] at h'
    cases h'
    exact ⟨_,rfl,.inl rfl⟩
  | false =>
   simp only [List.lookup_cons,hx]
   by_cases hc : (k₀ == NameKind.free && sc.kind == .function && sc.names.lookup n == some .cell) = true
   ·rw [if_pos hc] at h'
    simp only [List.lookup_cons,hx] at h'
    exact ih h'
   ·rw [if_neg hc] at h'
    simp only [List.lookup_cons,hx] at h'
    exact ih h'
structure BlkOk (N : List Str) (sc scope : Scope) (own : List (Str × Nat)) : Prop where
 kind : scope.kind = .function
 uniq : ∀ y∈scope.names,scope.names.lookup y.1 = some y.2
 ix : ∀ p∈own,N[p.2]? = some p.1
 free : ∀ y∈scope.names,y.2 = .free→sc.names.lookup y.1 = some .cell∨sc.names.lookup y.1 = some .free
 own : ∀ y∈scope.names,y.2 = .local∨y.2 = .cell→y.1∈own.map (·.1)∨y.1∉N
def wipe (σ : St) : List Nat→St
 | []=>σ
 | v :: vs=>(wipe σ vs).set v none
theorem wipe_length (σ : St) : ∀ vs : List Nat,(wipe σ vs).length = σ.length
 | []=>rfl
 | v :: vs=>by unfold wipe; rw [List.length_set,wipe_length σ vs]
theorem wipe_some {σ : St} {i : Nat} {x : V} : ∀ {vs : List Nat},(wipe σ vs)[i]? = some (some x)→σ[i]? = some (some x)∧i∉vs
 | [],h=>⟨h,by simp⟩
 | v :: vs,h=>by
  unfold wipe at h
  by_cases hi : v = i
  ·subst hi
   by_cases hv : v < (wipe σ vs).length
   ·rw [List.getElem?_set_self hv] at h; cases h
   ·rw [List.getElem?_eq_none (by simpa using hv)] at h; cases h
  ·rw [List.getElem?_set_ne hi] at h
   obtain ⟨h1,h2⟩:=wipe_some h
   exact ⟨h1,by simp only [List.mem_cons,not_or]; exact ⟨fun e=>hi e.symm,h2⟩⟩
abbrev Cx.blk (X : Cx) (s : Shared) (H : Hp) (scope : Scope) (cenv : Env) (fp : List Addr) : Cx:={ X with s_0:=s,H_0:=H,env:=cenv,outer:=X.stack,ex:=fp,fn:=fun x=>scope.names.lookup x == some .cell,pn:=[],xe:=fun _ _=>False }
section
variable {X : Cx} {pins : List (Addr × Obj)} {σ : St} {H : Hp} {s : Shared}
theorem block_start {scope : Scope} {own : List (Str × Nat)} {fp : List Addr} (I : Inv X pins σ H s) (ok : BlkOk X.N X.env.scope scope own) (hN : X.N.Nodup) (hfp : ∀ b∈fp,FpOk X pins H b∧b < s.heap.objs.size) :
 Inv (X.blk s H scope (compEnvC scope (cellsFrom (s.heap.objs.size + 1) scope.names (cloFrom X.env.cells scope.names [])) s.heap.objs.size X.env) fp) [] (wipe σ (own.map (·.2))) H { s with heap:=pushCells (s.heap.push { cls:=.type "dict",data:=.dict #[] }) scope.names }:=by
 have hfree : ∀ y∈scope.names,y.2 = .free→∃ c,X.env.cells.lookup y.1 = some c:=fun y hy e=>by
  rcases ok.free y hy e with k | k
  ·exact I.ok.has _ (.inl k)
  ·exact I.ok.has _ (.inr k)
 generalize hcenv : compEnvC scope (cellsFrom (s.heap.objs.size + 1) scope.names (cloFrom X.env.cells scope.names [])) s.heap.objs.size X.env = cenv
 have kp : ∀ b o,s.heap.get? b = some o→(pushCells (s.heap.push { cls:=.type "dict",data:=.dict #[] }) scope.names).get? b = some o:=fun b o e=>pushCells_keeps _ _ _ _ (Heap.get?_push_of_some _ e)
 have hL : cenv.locals = s.heap.objs.size:=by rw [← hcenv]; rfl
 have hcl : cenv.cells = cellsFrom (s.heap.objs.size + 1) scope.names (cloFrom X.env.cells scope.names []):=by rw [← hcenv]; rfl
 have hsc : cenv.scope = relS scope X.env.scope:=by rw [← hcenv]; rfl
 rw [← Heap.size_push s.heap { cls:=.type "dict",data:=.dict #[] }] at hcl
 have cm : ∀ {y c},(y,c)∈cloFrom X.env.cells scope.names []→X.env.cells.lookup y = some c∧c < s.heap.objs.size:=fun {y c} hm=>by
  rcases cloFrom_mem hm with hm | ⟨h1,rfl⟩
  ·cases hm
  ·obtain ⟨c,hc⟩:=hfree _ h1 rfl
   rw [hc]
   obtain ⟨w,z⟩:=I.cell _ _ hc
   exact ⟨rfl,z.lt⟩
 have mem : ∀ {y c},cenv.cells.lookup y = some c→(X.env.cells.lookup y = some c∧c < s.heap.objs.size)∨(s.heap.objs.size + 1≤c∧CellAt (pushCells (s.heap.push { cls:=.type "dict",data:=.dict #[] }) scope.names) c none):=fun {y c} e=>by
  rw [hcl] at e
  rcases cells_mem (PySem.mem_of_lookup e) with hm | ⟨_,h2,h3⟩
  ·exact .inl (cm hm)
  ·rw [Heap.size_push] at h2; exact .inr ⟨h2,h3⟩
 have look : ∀ {y},scope.names.lookup y = some .free→∃ c,cenv.cells.lookup y = some c∧X.env.cells.lookup y = some c:=fun {y} hl=>by
  have hy : (y,NameKind.free)∈scope.names:=PySem.mem_of_lookup hl
  obtain ⟨c',e'⟩:=mem_lookup (cells_acc (names:=scope.names) (n:=(s.heap.push { cls:=.type "dict",data:=.dict #[] }).objs.size) (cloFrom_has (cells:=X.env.cells) (acc:=[]) hy))
  rw [← hcl] at e'
  refine ⟨c',e',?_⟩
  rw [hcl] at e'
  rcases cells_mem (PySem.mem_of_lookup e') with hm | ⟨h1,_,_⟩
  ·exact (cm hm).1
  ·have:=ok.uniq _ h1
   rw [hl] at this; cases this
 have okB : (X.blk s H scope cenv fp).Ok:=by
  refine ⟨I.ok.mod,by show cenv.scope.kind = _; rw [hsc]; exact ok.kind,by show cenv.globals = _; rw [← hcenv]; exact I.ok.glob,by show cenv.builtins = _; rw [← hcenv]; exact I.ok.blt,by show s.heap.objs.size≤cenv.locals; rw [hL]; exact Nat.le_refl _,
   fun y z c e1 e2=>?_,fun y hy=>?_,fun y c z e=>?_,I.ok.hd,I.ok.frames,.inl rfl,fun b hb=>⟨?_,fun y c e z=>?_⟩,I.bs,Nat.le_trans I.ok.bsz I.sz,fun b o e hb=>?_,fun b hb z=>?_,I.stack,I.stkFree⟩
  ·have e1 : cenv.cells.lookup y = some c:=e1
   have e2 : cenv.cells.lookup z = some c:=e2
   rw [hcl] at e1 e2
   refine cells_inj (fun p hp=>?_) (fun y z c a b=>I.ok.inj y z c (cm a).1 (cm b).1) (PySem.mem_of_lookup e1) (PySem.mem_of_lookup e2)
   rw [Heap.size_push]
   exact Nat.lt_succ_of_lt (cm (y:=p.1) (c:=p.2) hp).2
  ·show ∃ c,cenv.cells.lookup y = some c
   have key : ∀ k,cenv.kindOf y = some k→(k = .cell∨k = .free)→∃ c,cenv.cells.lookup y = some c:=fun k hk hk'=>by
    unfold Env.kindOf at hk
    rw [hsc] at hk
    obtain ⟨k',e,r⟩:=lookup_relS hk
    have : k' = .cell∨k' = .free:=by
     rcases r with rfl | ⟨rfl,_⟩
     ·exact hk'
     ·exact .inr rfl
    rcases this with rfl | rfl
    ·obtain ⟨c,hm⟩:=cells_has (n:=(s.heap.push { cls:=.type "dict",data:=.dict #[] }).objs.size) (acc:=cloFrom X.env.cells scope.names []) (PySem.mem_of_lookup e)
     obtain ⟨c',e'⟩:=mem_lookup hm
     exact ⟨c',by rw [hcl]; exact e'⟩
    ·obtain ⟨c,h1,_⟩:=look e
     exact ⟨c,h1⟩
   rcases hy with hy | hy
   ·exact key _ hy (.inl rfl)
   ·exact key _ hy (.inr rfl)
  ·have z : (scope.names.lookup y == some NameKind.cell) = true:=z
   have z : scope.names.lookup y = some .cell:=by simpa using z
   have e : cenv.cells.lookup y = some c:=e
   rw [hcl] at e
   rcases cells_mem (PySem.mem_of_lookup e) with hm | ⟨_,h2,_⟩
   ·rcases cloFrom_mem hm with hm | ⟨h1,_⟩
    ·cases hm
    ·have q:=ok.uniq _ h1
     rw [z] at q; cases q
   ·rw [Heap.size_push] at h2
    exact Nat.le_of_succ_le h2
  ·show b≠cenv.locals
   rw [hL]; exact Nat.ne_of_lt (hfp b hb).2
  ·have e : cenv.cells.lookup y = some c:=e
   rcases mem e with ⟨h1,_⟩ | ⟨h1,_⟩
   ·exact (hfp b hb).1.2.2.2.2.1 y c h1 z
   ·have h2 : s.heap.objs.size + 1≤b:=by rw [← z]; exact h1
    exact absurd (Nat.lt_of_lt_of_le (hfp b hb).2 (Nat.le_of_succ_le h2)) (Nat.lt_irrefl _)
  ·rcases (hfp b hb).1.2.2.2.1 with z | z
   ·exact I.ok.noex b o e z
   ·exact absurd (Nat.lt_of_lt_of_le (Heap.lt_size e) (Nat.le_trans I.ok.bsz z)) (Nat.lt_irrefl _)
  ·rcases List.mem_cons.mp (I.stkSub b z) with z | z
   ·exact (hfp b hb).1.2.1 z
   ·exact (hfp b hb).1.2.2.1 z
 refine ⟨okB,rfl,I.bare,Un.kept kp,⟨fun _=>none,?_,fun i y av e1 e2 e3=>?_⟩,fun y c e=>?_,?_,fun y c e=>?_,fun p hp=>?_,I.hok.kept kp,by rw [wipe_length]; exact I.len⟩
 ·show Heap.Ns _ cenv.locals _
  rw [hL]
  exact Heap.Ns.keeps (Heap.Ns.new ..) fun b o e=>pushCells_keeps _ _ _ _ e
 ·obtain ⟨e2,hne⟩:=wipe_some e2
  have hfr : scope.names.lookup y = some .free∧(cenv.kindOf y = some .cell∨cenv.kindOf y = some .free):=by
   have key : ∀ k,cenv.scope.names.lookup y = some k→k = .local∨k = .cell∨k = .free→scope.names.lookup y = some .free∧(cenv.kindOf y = some .cell∨cenv.kindOf y = some .free):=fun k hk hk'=>by
    have hk0:=hk
    rw [hsc] at hk
    obtain ⟨k',e,r⟩:=lookup_relS hk
    have no : ¬ (k' = .local∨k' = .cell):=fun hh=>by
     rcases ok.own _ (PySem.mem_of_lookup e) hh with e' | e'
     ·obtain ⟨p,hp,hpy⟩:=List.mem_map.mp e'
      have e3:=ok.ix p hp
      have : p.1 = y:=hpy
      rw [this] at e3
      exact hne (List.mem_map.mpr ⟨p,hp,nodup_ix hN e3 e1⟩)
     ·exact e' (List.mem_of_getElem? e1)
    rcases r with rfl | ⟨rfl,rfl⟩
    ·rcases hk' with rfl | rfl | rfl
     ·exact absurd (.inl rfl) no
     ·exact absurd (.inr rfl) no
     ·exact ⟨e,.inr hk0⟩
    ·exact ⟨e,.inl hk0⟩
   have e3 : Vis cenv.scope y:=e3
   rcases e3 with e3 | e3 | e3
   ·exact key _ e3 (.inl rfl)
   ·exact key _ e3 (.inr (.inl rfl))
   ·exact key _ e3 (.inr (.inr rfl))
  obtain ⟨m,hn,hl⟩:=I.loc
  have hvis : Vis X.env.scope y:=(ok.free _ (PySem.mem_of_lookup hfr.1) rfl).elim (fun k=>.inr (.inl k)) (fun k=>.inr (.inr k))
  obtain ⟨w,r,q⟩:=hl i y av e1 e2 hvis
  refine ⟨w,r,.inr ⟨hfr.2,?_⟩⟩
  obtain ⟨c,h1,h2⟩:=look hfr.1
  rcases q with ⟨k,_⟩ | ⟨_,c',e',z⟩
  ·have k : X.env.scope.names.lookup y = some .local:=k
   rcases ok.free _ (PySem.mem_of_lookup hfr.1) rfl with k' | k' <;> rw [show X.env.scope.names.lookup y = _ from k'] at k <;> cases k
  ·rw [h2] at e'; cases e'
   exact ⟨c,h1,z.keeps kp⟩
 ·have e : cenv.cells.lookup y = some c:=e
  rcases mem e with ⟨h1,_⟩ | ⟨_,z⟩
  ·obtain ⟨w,z⟩:=I.cell y c h1
   exact ⟨w,z.keeps kp⟩
  ·exact ⟨_,z⟩
 ·show H cenv.locals = none
  rw [hL]; exact I.hok.fresh (Nat.le_refl _)
 ·have e : cenv.cells.lookup y = some c:=e
  rcases mem e with ⟨h1,_⟩ | ⟨h1,_⟩
  ·exact I.freeC y c h1
  ·exact I.hok.fresh (Nat.le_of_succ_le h1)
 ·exact absurd (show p∈([] : List (Addr × Obj)) ++ [] from hp) (by simp)
theorem app_ok {E : Value→Shared→Prop} {D : Addr} {xs : List V} {y : V} {v : Value} {Q : Value→Shared→Prop} (I : Inv X pins σ H s) (hD : H D = some (.lst xs)) (hz : xs.length < sizeLine) (r : RelV y v)
 (h : ∀ s',Inv X pins σ (upd H D (.lst (xs ++ [y]))) s'→Q .none s') : wpAny (model X.prog X.w) X.A (call (.builtin "list.append") [.ref D,v]) Q E s:=by
 obtain ⟨hz',its,n,ri,e⟩:=I.hok D _ hD
 have hl:=ri.length
 refine append_at (hsz:=by rw [List.size_toArray]; omega) e fun h' sb ho'=>?_
 refine h { s with heap:=h' } (I.write (t':=s.toks) (by rw [hD]; trivial) (.inl rfl) (fun b u hb q=>(sb.2 b hb).trans q) ⟨_,ho'⟩ ⟨by rw [List.length_append]; exact hz,its ++ [v],n + 1,ri.append (.cons r .nil),?_⟩)
 rw [ho']
 simp
def PTs (X : Cx) (ifs : List Expr) (t : TT) : Prop :=
 ∀ (pins : List (Addr × Obj)) (s : Shared) (σ : St) (H : Hp) (Q : Bool→Hp→Prop),Inv X pins σ H s→t σ H Q →
  wpAny (model X.prog X.w) X.A (forIn ifs true fun c r=>if r = true then do let ok ← isTrue c X.env (eval c X.env); pure (ForInStep.yield ok) else pure (ForInStep.yield r)) (TP X pins σ Q) X.xe s
def tYes : TT:=fun _ H Q=>Q true H
theorem pts_nil : PTs X [] tYes:=fun _ _ _ H _ I h=>wpAny_tests_nil ⟨H,I,h⟩
theorem pts_one {c : Expr} {t : TT} (h : PT X c t) : PTs X [c] t:=fun pins s σ H Q I hw=>wpAny_tests_one (h pins s σ H Q I hw)
end
theorem thnF {α : Type} {t : Sem α} {Q Q' : α→Shared→Prop} {M : Model} {A : Around} {E : Value→Shared→Prop} {s : Shared} (h : wpAny M A t Q (fun _ _=>False) s) (hQ : ∀ a s,Q a s→Q' a s) : wpAny M A t Q' E s:=wpAny_mono h hQ fun _ _ z=>False.elim z
theorem compLoop_any {prog : Program} {w : World} {A : Around} {R : Result→Shared→Prop} {s : Shared} {elt target iter : Expr} {ifs : List Expr} {scope : Scope} {pos : Pos} {it acc : Value} {env : Env} (I : Nat→Shared→Prop)
 (turn : ∀ n s,I n s→wpAny (model prog w) A (pyNext it) (fun r s₁=>match r with
  | none=>R (.ok .next) s₁
  | some v=>wpAny (model prog w) A (letOwnedTupleGo target it v) (fun _ s₁'=>wpAny (model prog w) A (assign target env v) (fun _ s₂ =>
   wpAny (model prog w) A (forIn ifs true fun c r=>if r = true then do let ok ← isTrue c env (eval c env); pure (ForInStep.yield ok) else pure (ForInStep.yield r)) (fun ok s₃ =>
    if ok = true then wpAny (model prog w) A (eval elt env) (fun x s₄ =>
     wpAny (model prog w) A (call (.builtin "list.append") [acc,x]) (fun _ s₅=>∃ m,m < n∧I m s₅) (notedBy (model prog w) A env fun e s'=>R (.error e) s') s₄) (notedBy (model prog w) A env fun e s'=>R (.error e) s') s₃
    else ∃ m,m < n∧I m s₃) (notedBy (model prog w) A env fun e s'=>R (.error e) s') s₂) (notedBy (model prog w) A env fun e s'=>R (.error e) s') s₁') (notedBy (model prog w) A env fun e s'=>R (.error e) s') s₁) (notedBy (model prog w) A env fun e s'=>R (.error e) s') s)
 (n : Nat) (h : I n s) :
 codeAny (model prog w) A (.compLoop (.ListComp elt [⟨target,iter,ifs,0⟩] scope pos) 0 it acc env) R s:=by
 refine codeAny_loop rfl I (fun n s hI=>?_) n h
 show wpAny _ A ((compTurn (.ListComp elt [⟨target,iter,ifs,0⟩] scope pos) 0 it acc env).onRaise (fun x=>do noteFrame x env; theTreesLotGoes x)) _ _ s
 refine wpAny_noted ?_
 rw [compTurn_list]
 refine wpAny_bind (wpAny_standAt (wpAny_bind (wpAny_mono (turn n s hI) (fun r s₁ h₁=>?_) fun _ _ h'=>h')))
 cases r with
 | none=>exact wpAny_pure h₁
 | some v =>
  refine wpAny_bind (wpAny_mono h₁ (fun _ s₁' h₁'=>?_) fun _ _ h'=>h')
  refine wpAny_bind (wpAny_mono h₁' (fun _ s₂ h₂=>wpAny_bind (wpAny_mono h₂ (fun ok s₃ h₃=>?_) fun _ _ h'=>h')) fun _ _ h'=>h')
  cases ok with
  | false=>exact wpAny_pure ⟨rfl,h₃⟩
  | true =>
   exact wpAny_bind (wpAny_bind (wpAny_mono h₃ (fun x s₄ h₄=>wpAny_bind (wpAny_mono h₄ (fun _ s₅ h₅=>wpAny_pure (wpAny_pure ⟨rfl,h₅⟩)) fun _ _ h'=>h')) fun _ _ h'=>h'))
section
variable {X : Cx}
def tLc (wi : TI) (g : TG) (tt : TT) (te : TE) (vs : List Nat) : TE:=fun σ H Q=>wi σ H fun J H1=>∀ D,H1 D = none→∃ W : Nat→Nat→Hp→Prop,(∃ m,W 0 m (upd H1 D (.lst [])))∧∀ i m H,W i m H →
 (J.stop i H∧Q (.ref D) H)∨(J.go i H∧∃ Nx : Hp→Prop,(∀ H',Nx H'→∃ m',m' < m∧W (i + 1) m' H')∧∀ x H',J.yld i H x H'→g x (wipe σ vs) H' fun σ2 H2=>wipe σ2 vs = wipe σ vs∧tt σ2 H2 fun b H3 =>
  if b = true then te σ2 H3 fun y H4=>∃ acc,H4 D = some (.lst acc)∧acc.length < sizeLine∧Nx (upd H4 D (.lst (acc ++ [y]))) else Nx H3)
theorem lc_core {pins : List (Addr × Obj)} {s : Shared} {σ : St} {H : Hp} {Q : VK} {elt tg iter : Expr} {ifs : List Expr} {scope : Scope} {own : List (Str × Nat)} {pos pos' : Pos} {wi : TI} {g : TG} {tt : TT} {te : TE} {use : Option (Value→Sem Unit)} {Qf : Value→Shared→Prop}
 (hc : X.calm = true) (hN : X.N.Nodup) (I : Inv X pins σ H s) (hi : PI X tg iter wi) (ok : BlkOk X.N X.env.scope scope own)
 (hg : ∀ (s : Shared) (H : Hp) (C : Addr) (cl : List (Str × Addr)) (fp : List Addr),PG (X.blk s H scope (compEnvC scope cl C X.env) fp) tg g) (ht : ∀ (s : Shared) (H : Hp) (C : Addr) (cl : List (Str × Addr)) (fp : List Addr),PTs (X.blk s H scope (compEnvC scope cl C X.env) fp) ifs tt)
 (he : ∀ (s : Shared) (H : Hp) (C : Addr) (cl : List (Str × Addr)) (fp : List Addr),PE (X.blk s H scope (compEnvC scope cl C X.env) fp) elt te) (hs : ∀ x,foldedSetIterable iter X.env x = pure x)
 (h : tLc wi g tt te (own.map (·.2)) σ H Q)
 (hRR : ∀ D C s' m H',Inv X pins σ H' s'→Q (.ref D) H'→s'.heap.Ns C m→FpOk X pins H' C→compPost (model X.prog X.w) X.A X.xe use Qf (.ref D) C (.ok .next) s') :
 wpAny (model X.prog X.w) X.A (comprehension (.ListComp elt [⟨tg,iter,ifs,0⟩] scope pos) scope X.env pos' (newList []) false (eval iter X.env) use) Qf X.xe s:=by
 have hfree : ∀ y∈scope.names,y.2 = .free→∃ c,X.env.cells.lookup y.1 = some c:=fun y hy e=>by
  rcases ok.free y hy e with k | k
  ·exact I.ok.has _ (.inl k)
  ·exact I.ok.has _ (.inr k)
 refine wpAny_comprehension_free (use:=use) rfl hs (closure_ok hfree) ok.kind (fun y hy e=>by rw [ok.uniq y hy,e])
  (thn (hi pins s σ H _ I h) fun xv s1 hx=>thn hx fun itv s2 h2=>?_)
 obtain ⟨it,fp,tn,J,H2,e,I2,T,st2,f2,q⟩:=h2
 subst e
 refine wpAny_newObj_type (newEnv_comp ?_) (by show 0≤sizeLine; decide)
 generalize hD : s2.heap.objs.size = D
 have hDn : H2 D = none:=I2.hok.fresh (Nat.le_of_eq hD)
 obtain ⟨W,⟨m0,w0⟩,turn⟩:=q D hDn
 generalize hs3 : ({ s2 with heap:=s2.heap.push { cls:=.type "list",data:=.seq ([] : List Value).toArray } } : Shared) = s3
 have I3 : Inv X pins σ (upd H2 D (.lst [])) s3:=by
  rw [← hs3]
  refine I2.laid (t':=s2.toks) (fun b o e=>Heap.get?_push_of_some _ e) (Nat.le_of_eq hD) ⟨Nat.zero_le _,[],0,.nil,?_⟩
  rw [← hD]
  exact Heap.get?_push_size _ rfl
 have h3 : s3.heap = s2.heap.push { cls:=.type "list",data:=.seq ([] : List Value).toArray }:=by rw [← hs3]
 have sz : ∀ b∈fp,b < s2.heap.objs.size:=fun b hb=>by
  obtain ⟨o,e,_⟩:=T.obj _ _ st2 b hb
  exact Heap.lt_size e
 have f3 : ∀ b∈fp,FpOk X pins (upd H2 D (.lst [])) b∧b < s3.heap.objs.size:=fun b hb=>by
  have hlt:=sz b hb
  refine ⟨⟨?_,(f2 b hb).2⟩,by rw [h3,Heap.size_push]; exact Nat.lt_succ_of_lt hlt⟩
  rw [upd_ne (by rw [← hD]; exact Nat.ne_of_lt hlt)]
  exact (f2 b hb).1
 have st3 : tn 0 s3.heap:=T.keep _ _ _ st2 fun b _ o e=>by rw [h3]; exact Heap.get?_push_of_some _ e
 have I4:=block_start I3 ok hN f3
 have pg:=hg s3 (upd H2 D (.lst [])) s3.heap.objs.size (cellsFrom (s3.heap.objs.size + 1) scope.names (cloFrom X.env.cells scope.names [])) fp
 have pt:=ht s3 (upd H2 D (.lst [])) s3.heap.objs.size (cellsFrom (s3.heap.objs.size + 1) scope.names (cloFrom X.env.cells scope.names [])) fp
 have pe:=he s3 (upd H2 D (.lst [])) s3.heap.objs.size (cellsFrom (s3.heap.objs.size + 1) scope.names (cloFrom X.env.cells scope.names [])) fp
 show codeAny _ _ (.compStart (.ListComp elt [⟨tg,iter,ifs,0⟩] scope pos) 0 (.ref it) (.ref D) (compEnvC scope (cellsFrom (s3.heap.objs.size + 1) scope.names (cloFrom X.env.cells scope.names [])) s3.heap.objs.size X.env)) (compPost (model X.prog X.w) X.A X.xe use Qf (.ref D) s3.heap.objs.size) { s3 with heap:=pushCells (s3.heap.push { cls:=.type "dict",data:=.dict #[] }) scope.names }
 have nfp : ∀ b∈fp,(upd H2 D (.lst [])) b = none:=fun b hb=>(f3 b hb).1.1
 generalize hce : compEnvC scope (cellsFrom (s3.heap.objs.size + 1) scope.names (cloFrom X.env.cells scope.names [])) s3.heap.objs.size X.env = ce at I4 pg pt pe ⊢
 have cL : ce.locals = s3.heap.objs.size:=by subst hce; rfl
 generalize hH3 : upd H2 D (.lst []) = H3 at I3 I4 pg pt pe w0 nfp f3
 generalize hs4 : ({ s3 with heap:=pushCells (s3.heap.push { cls:=.type "dict",data:=.dict #[] }) scope.names } : Shared) = s4 at I4 ⊢
 have st4 : tn 0 s4.heap:=T.keep _ _ _ st3 fun b _ o e=>by rw [← hs4]; exact pushCells_keeps _ _ _ _ (Heap.get?_push_of_some _ e)
 have stat : ∀ {σ' : St} {H' : Hp} {s' : Shared},Inv (X.blk s3 H3 scope ce fp) [] σ' H' s'→(∀ b∈fp,H' b = none)→∀ b∈fp,FpOk (X.blk s3 H3 scope ce fp) [] H' b:=fun {σ' H' s'} I' hn b hb =>
  ⟨hn b hb,(I'.ok.exf b hb).1,I'.ok.exfs b hb,.inl hb,fun x c e=>(I'.ok.exf b hb).2 x c e,fun p hp=>absurd (show p∈([] : List (Addr × Obj)) ++ [] from hp) (by simp)⟩
 have loop : codeAny (model X.prog X.w) X.A (.compLoop (.ListComp elt [⟨tg,iter,ifs,0⟩] scope pos) 0 (.ref it) (.ref D) ce) (compPost (model X.prog X.w) X.A X.xe use Qf (.ref D) s3.heap.objs.size) s4:=by
  refine compLoop_any (fun n s'=>∃ i H',Inv (X.blk s3 H3 scope ce fp) [] (wipe σ (own.map (·.2))) H' s'∧tn i s'.heap∧(∀ b∈fp,H' b = none)∧W i n H') ?_ m0 ⟨0,H3,I4,st4,nfp,w0⟩
  rintro n s5 ⟨i,H5,I5,st5,n5,w5⟩
  rcases turn i n H5 w5 with ⟨stop,qq⟩ | ⟨go,Nx,hNx,step⟩
  ·have td:=T.done (X.blk s3 H3 scope ce fp) rfl rfl rfl hc i [] s5 _ H5 (fun _ _=>False) I5 (stat I5 n5) st5 stop
   refine thnF td fun r s6 ⟨hr,I6⟩=>?_
   subst hr
   have I7 : Inv X pins σ H5 s6:=I3.call' (ch:=fp) I6.os I6.base I6.hok I6.bare fun b hb=>⟨(f3 b hb).1.2.2.2.1,(f3 b hb).1.2.1,(f3 b hb).1.2.2.2.2.1,(f3 b hb).1.2.2.2.2.2⟩
   have nC : H5 s3.heap.objs.size = none:=by
    have z : H5 ce.locals = none:=I6.free
    rw [cL] at z
    exact z
   obtain ⟨m,hn,_⟩:=I6.loc
   have hn : s6.heap.Ns ce.locals m:=hn
   rw [cL] at hn
   exact hRR D s3.heap.objs.size s6 m H5 I7 qq hn (I3.fpOk (Nat.le_refl _) nC)
  ·have ti:=T.item (X.blk s3 H3 scope ce fp) rfl rfl rfl hc i [] s5 _ H5 (fun _ _=>False) I5 (stat I5 n5) st5 go
   refine thnF ti fun r s6 ⟨u,hr,h6⟩=>?_
   subst hr
   refine thnF h6 fun _ s7 ⟨x,H7,I7,r7,y7,st7,n7⟩=>?_
   have I7':=I7.pinned (stat I7 n7) (T.obj _ _ st7)
   refine thnF (pg _ s7 _ H7 x u _ I7' r7 (step x H7 y7)) fun _ s8 ⟨σ8,H8,I8,hw8,q8⟩=>?_
   refine thnF (pt _ s8 σ8 H8 _ I8 q8) fun b s9 ⟨H9,I9,q9⟩=>?_
   have fin : ∀ {s' : Shared} {H' : Hp},Inv (X.blk s3 H3 scope ce fp) ([] ++ pinsAt fp s7.heap) σ8 H' s'→Nx H'→∃ m,m < n∧∃ i H',Inv (X.blk s3 H3 scope ce fp) [] (wipe σ (own.map (·.2))) H' s'∧tn i s'.heap∧(∀ b∈fp,H' b = none)∧W i m H':=fun {s' H'} I' nx=>by
    obtain ⟨m',hm,w'⟩:=hNx H' nx
    have pin' : ∀ b∈fp,∀ o,s7.heap.get? b = some o→s'.heap.get? b = some o∧H' b = none:=fun b hb o e =>
     let z:=I'.pin (b,o) (List.mem_append_right _ (List.mem_append_right _ (mem_pinsAt hb e)))
     ⟨z.1,z.2.1⟩
    have hl : (wipe σ (own.map (·.2))).length = σ8.length:=by rw [← hw8,wipe_length]
    refine ⟨m',hm,i + 1,H',(I'.unpinned (pins:=[])).weak hl (fun j v e=>?_),T.keep _ _ _ st7 fun b hb o e=>(pin' b hb o e).1,fun b hb=>?_,w'⟩
    ·rw [← hw8] at e
     exact (wipe_some e).1
    ·obtain ⟨o,e,_⟩:=T.obj _ _ st7 b hb
     exact (pin' b hb o e).2
   cases b with
   | false =>
    simp only [Bool.false_eq_true,if_false] at q9 ⊢
    exact fin I9 q9
   | true =>
    simp only [if_true] at q9 ⊢
    refine thnF (pe _ s9 σ8 H9 _ I9 q9) fun z s10 ⟨yv,H10,I10,r10,acc,hD10,hz10,nx⟩=>?_
    exact app_ok (X:=X.blk s3 H3 scope ce fp) I10 hD10 hz10 r10 fun s11 I11=>fin I11 nx
 exact codeAny_compStart_list loop (T.self X.A 0 _ _ _ st4 loop)
theorem pe_lc {elt tg iter : Expr} {ifs : List Expr} {scope : Scope} {own : List (Str × Nat)} {pos : Pos} {wi : TI} {g : TG} {tt : TT} {te : TE} (hc : X.calm = true) (hN : X.N.Nodup) (hi : PI X tg iter wi) (ok : BlkOk X.N X.env.scope scope own)
 (hg : ∀ (s : Shared) (H : Hp) (C : Addr) (cl : List (Str × Addr)) (fp : List Addr),PG (X.blk s H scope (compEnvC scope cl C X.env) fp) tg g) (ht : ∀ (s : Shared) (H : Hp) (C : Addr) (cl : List (Str × Addr)) (fp : List Addr),PTs (X.blk s H scope (compEnvC scope cl C X.env) fp) ifs tt)
 (he : ∀ (s : Shared) (H : Hp) (C : Addr) (cl : List (Str × Addr)) (fp : List Addr),PE (X.blk s H scope (compEnvC scope cl C X.env) fp) elt te) (hs : ∀ x,foldedSetIterable iter X.env x = pure x:=by intro _; rfl) :
 PE X (.ListComp elt [⟨tg,iter,ifs,0⟩] scope pos) (tLc wi g tt te (own.map (·.2))):=by
 intro pins s σ H Q I h
 rw [eval_ListComp]
 refine lc_core hc hN I hi ok hg ht he hs h fun D C s' m H' I' q hn f=>⟨m,hn,fun h'' sb=>?_⟩
 obtain ⟨f0,f1,f2,f3,f4,f5⟩:=f
 exact ⟨.ref D,H',I'.turned (t':=s'.toks) (fun b o hb e=>(sb.2 b hb).trans e) f0 f1 f3 f4 f5,rfl,q⟩
theorem ps_setLc {i : Nat} {y : Str} {py : Pos} {elt tg iter : Expr} {ifs : List Expr} {scope : Scope} {own : List (Str × Nat)} {pos spos : Pos} {wi : TI} {g : TG} {tt : TT} {te : TE} (hc : X.calm = true) (hN : X.N.Nodup) (hy : X.N[i]? = some y) (hyl : X.env.scope.names.lookup y = some .local)
 (hsw : swapsWith (.ListComp elt [⟨tg,iter,ifs,0⟩] scope pos) (some (.Name y py)) spos.line X.env = pure true) (hi : PI X tg iter wi) (ok : BlkOk X.N X.env.scope scope own)
 (hg : ∀ (s : Shared) (H : Hp) (C : Addr) (cl : List (Str × Addr)) (fp : List Addr),PG (X.blk s H scope (compEnvC scope cl C X.env) fp) tg g) (ht : ∀ (s : Shared) (H : Hp) (C : Addr) (cl : List (Str × Addr)) (fp : List Addr),PTs (X.blk s H scope (compEnvC scope cl C X.env) fp) ifs tt)
 (he : ∀ (s : Shared) (H : Hp) (C : Addr) (cl : List (Str × Addr)) (fp : List Addr),PE (X.blk s H scope (compEnvC scope cl C X.env) fp) elt te) (hs : ∀ x,foldedSetIterable iter X.env x = pure x:=by intro _; rfl) :
 PS X (.Assign [.Name y py] (.ListComp elt [⟨tg,iter,ifs,0⟩] scope pos) spos) (tAsg (tLc wi g tt te (own.map (·.2))) (gName i)):=by
 intro pins s σ H D I h
 rw [exec_Assign_Name_used _ _ _ _ hsw]
 refine wpAny_bind (wpAny_standAt (wpAny_bind ?_))
 show wpAny _ X.A (do let _ ← comprehension (.ListComp elt [⟨tg,iter,ifs,0⟩] scope pos) scope X.env (firstIterPos [⟨tg,iter,ifs,0⟩] pos) (newList []) false (eval iter X.env) (some (assign (.Name y py) X.env))) _ _ s
 have h : tLc wi g tt te (own.map (·.2)) σ H (fun x H1=>gName i x σ H1 D.nx):=h
 refine wpAny_bind (thn (lc_core (Qf:=fun _ s'=>SP X pins D .next s') hc hN I hi ok hg ht he hs h fun L C s' m H' I' q hn f=>?_) fun _ s' hq=>wpAny_pure (wpAny_pure hq))
 show wpAny _ _ (assign (.Name y py) X.env (.ref L)) _ _ _
 refine wpAny_assign_Name (store_ok2 (v:=V.ref L) I' hN hy (.inl hyl) rfl (fun s2 I2 ⟨a,sb,ha⟩=>?_) (.inr hyl))
 obtain ⟨f0,f1,f2,f3,f4,f5⟩:=f
 have haC : C≠a:=by
  rcases ha with z | z
  ·rw [z]; exact f1
  ·exact fun e=>f4 y a z e.symm
 refine ⟨m,hn.sameBut sb haC,fun h3 sb3=>?_⟩
 exact ⟨_,H',I2.turned (t':=s2.toks) (fun b o hb e=>(sb3.2 b hb).trans e) f0 f1 f3 f4 f5,q⟩
theorem sw_true {elt : Expr} {gs : List Comprehension} {scope : Scope} {pos py : Pos} {y : Str} {l : Nat} {env : Env} (hk : env.scope.kind = .function) (hy : env.scope.names.lookup y = some .local) (hl : (py.line == pos.line) = true)
 (ha : (scope.names.any fun (n,k)=>n == y && (k == .local || k == .cell)) = false) : swapsWith (.ListComp elt gs scope pos) (some (.Name y py)) l env = pure true:=by
 have ky : env.kindOf y = some .local:=hy
 have hb : env.blockKind = .function:=by unfold Env.blockKind; rw [hk]; rfl
 unfold swapsWith
 simp only [hb,ky,ha,Expr.pos,hl]
 rfl
end
def blkC (N : List Str) (sc scope : Scope) (own : List (Str × Nat)) : Bool :=
 (match scope.kind with | .function=>true | _=>false) && (scope.names.all fun y=>decide (scope.names.lookup y.1 = some y.2)) && (own.all fun p=>decide (N[p.2]? = some p.1)) &&
  (scope.names.all fun y=>match y.2 with
   | .free=>(match sc.names.lookup y.1 with | some .cell=>true | some .free=>true | _=>false)
   | .local=>decide (y.1∈own.map (·.1)) || decide (y.1∉N)
   | .cell=>decide (y.1∈own.map (·.1)) || decide (y.1∉N)
   | _=>true)
theorem blkOk_by {N : List Str} {sc scope : Scope} {own : List (Str × Nat)} (h : blkC N sc scope own = true) : BlkOk N sc scope own:=by
 unfold blkC at h
 simp only [Bool.and_eq_true,List.all_eq_true,decide_eq_true_eq] at h
 obtain ⟨⟨⟨h1,h2⟩,h3⟩,h4⟩:=h
 refine ⟨?_,h2,h3,fun y hy e=>?_,fun y hy e=>?_⟩
 ·split at h1
  ·assumption
  ·cases h1
 ·have q:=h4 y hy
  simp only [e] at q
  split at q <;> first | exact .inl (by assumption) | exact .inr (by assumption) | cases q
 ·have q:=h4 y hy
  rcases e with e | e <;> (simp only [e,Bool.or_eq_true,decide_eq_true_eq] at q; exact q)
end L2
namespace L2
open PySem PySem.Spec PyProof.Rows
section
variable {prog : Program} {w : World} {A : Around} {R : Result→Shared→Prop} {s : Shared} {elt t0 i0 t1 i1 : Expr} {ifs0 ifs1 : List Expr} {scope : Scope} {pos : Pos} {it acc : Value} {env : Env}
end
section
variable {X : Cx}
end
end L2
namespace L2
open PySem PySem.Spec PyProof.Rows
section
variable {κ : Type} [DecidableEq κ]
theorem RelO.getD {o : Option V} {u : Option Value} {d : V} {d' : Value} (r : RelO o u) (rd : RelV d d') : RelV (o.getD d) (u.getD d'):=by
 cases o with
 | none=>cases u with
  | none=>exact rd
  | some _=>exact (show False from r).elim
 | some _=>cases u with
  | none=>exact (show False from r).elim
  | some _=>exact r
end
section
variable {P : Program} {w : World} {H : Hp} {h : Heap} {a : Addr}
end
section
variable {X : Cx} {pins : List (Addr × Obj)} {σ : St} {H : Hp} {s : Shared} {a : Addr} {y v : V} {u r : Value} {o : Option V} {A : Around} {E : Value→Shared→Prop}
theorem Inv.big (I : Inv X pins σ H s) : sysModules < s.heap.objs.size:=by
 have h : mainGlobals < s.heap.objs.size:=(I.mod.glob.keeps I.bk).lt
 exact Nat.lt_trans (by decide) h
end
section
variable {X : Cx} {pins : List (Addr × Obj)} {σ : St} {H : Hp} {s : Shared} {a : Addr} {kvs : List (Key × V)} {k : Key} {u : Value} {A : Around} {E : Value→Shared→Prop}
end
section
variable {X : Cx} {o i e value : Expr} {pos pos' tpos : Pos} {td ty tv : TE}
end
section
variable {X : Cx} {pos : Pos}
end
structure M2 (X : Cx) (o : Expr) (m : Str) (apos : Pos) (e f : Expr) (cpos : Pos) : Prop where
 base : attributeBase o m X.env (eval o X.env) = eval o X.env
 few : ((backTo cpos (starEach [e,f] X.env)).all (fun x=>!x.1) && (backToKw cpos (keywordEach [] X.env)).all (fun x=>x.1.isSome)
  && decide (([e,f] : List Expr).length + ([] : List Keyword).length + (if ([] : List Keyword).isEmpty then 0 else 1) < 30)) = true
 line : (apos.endLine == cpos.line) = true
 trees : backTo cpos (starEach [e,f] X.env) = [(false,eval e X.env),(false,eval f X.env)]
section
variable {X : Cx} {pins : List (Addr × Obj)} {σ : St} {H : Hp} {s : Shared} {a : Addr} {y d : V} {u r : Value} {o : Option V} {A : Around} {E : Value→Shared→Prop}
end
section
variable {X : Cx} {o e f : Expr} {apos cpos : Pos} {td ty tx : TE}
end
section
variable {X : Cx} {pins : List (Addr × Obj)} {σ : St} {H : Hp} {s : Shared} {a : Addr} {kvs : List (Key × V)} {A : Around} {E : Value→Shared→Prop}
end
section
variable {X : Cx} {pins : List (Addr × Obj)} {σ : St} {H : Hp} {s : Shared} {a : Addr} {y : V} {u : Value} {A : Around} {E : Value→Shared→Prop}
end
end L2
namespace L2
open PySem PySem.Spec PyProof.Rows
section
variable {prog : Program} {w : World} {A : Around} {E : Value→Shared→Prop}
end
section
variable {X : Cx}
end
end L2
namespace L2
open PySem PySem.Spec PyProof.Rows
section
variable {X : Cx} {pins : List (Addr × Obj)} {σ : St} {H : Hp} {s : Shared} {h' : Heap}
theorem Inv.turnedNew {t' : Nat} {ch : List Addr} {T : Addr} {ob : HO} (I : Inv X pins σ H s) (k : ∀ b o,b∉ch→s.heap.get? b = some o→h'.get? b = some o) (hf : ∀ b∈ch,FpOk X pins H b) (hT : s.heap.objs.size≤T)
 (new : ObjOk X.prog X.w (upd H T ob) h' T ob) : Inv X pins σ (upd H T ob) { s with heap:=h',toks:=t' }:=by
 have hn : H T = none:=I.hok.fresh hT
 have nit : ∀ b u,H b = some u→b∉ch:=fun b u e z=>by
  have q:=(hf b z).1
  rw [q] at e; cases e
 refine I.step (g':=s.gens) (d':=s.drawn) (ch:=ch) (fun b hb=>⟨(hf b hb).2.2.2.1,(hf b hb).2.1,(hf b hb).2.2.2.2.1,(hf b hb).2.2.2.2.2⟩) (fun b o _ _ hc e _=>k b o hc e) (fun b o _ _ hc e _=>⟨o.slots,k b o hc e⟩)
  (fun b o _ e n=>?_) (fun b o hc e=>⟨o,k b o hc e⟩) (fun b xs e=>?_) (fun b o u e=>?_) (fun b ps e=>⟨#[],?_⟩) (fun m hm=>?_) (fun b u e=>?_) I.bare
 ·rw [upd_ne (Nat.ne_of_lt (Nat.lt_of_lt_of_le (Heap.lt_size e) hT))]; exact n
 ·rw [upd_ne (ne_of_none e hn)]; exact e
 ·rw [upd_ne (ne_of_none e hn)]; exact e
 ·rw [upd_ne (ne_of_none e hn),e]; simp
 ·obtain ⟨o,es,ep,ho,r⟩:=hm
  exact ⟨o,es,ep,k _ o (fun z=>(hf _ z).2.1 rfl) ho,r⟩
 ·by_cases hb : b = T
  ·subst hb
   rw [upd_same] at e
   cases e
   exact new
  ·rw [upd_ne hb] at e
   refine (I.hok b u e).stay (fun c v hc q=>k c v ?_ q) (fun c q=>by rw [upd_ne (ne_of_none q hn)]; exact q) fun c xs q=>by rw [upd_ne (ne_of_none q hn)]; exact q
   rcases hc with z | z
   ·rw [z]; exact nit b u e
   ·exact nit c _ z
theorem Inv.lock {d : Addr} {u : HO} (I : Inv X pins σ H s) (h : H d = some u) (mu : Mut (some u)) : ∃ od,Inv X pins σ (upd H d (.frz od u)) s:=by
 have x:=I.hok d u h
 have ex : ∃ od,s.heap.get? d = some od:=by
  cases u with
  | lst xs=>obtain ⟨_,_,_,_,e⟩:=x; exact ⟨_,e⟩
  | dK kvs=>obtain ⟨_,_,_,_,o,_,_,e,_⟩:=x; exact ⟨o,e⟩
  | dT kvs=>obtain ⟨_,_,_,_,o,_,_,e,_⟩:=x; exact ⟨o,e⟩
  | set S n=>obtain ⟨o,_,_,_,e,_⟩:=x; exact ⟨o,e⟩
  | ins C dx fs=>obtain ⟨_,_,_,e,_⟩:=x; exact ⟨_,e⟩
  | ext φ=>obtain ⟨_,⟨_,e⟩,_⟩:=x; exact ⟨_,e⟩
  | _=>exact False.elim mu
 obtain ⟨od,e⟩:=ex
 have new : ObjOk X.prog X.w (upd H d (.frz od u)) s.heap d (.frz od u):=by
  refine ⟨e,x.stay (fun b v _ q=>q) (fun b q=>?_) fun b xs q=>?_⟩
  ·rw [upd_ne (fun z=>by rw [z,h] at q; cases q; exact mu)]; exact q
  ·rw [upd_ne (fun z=>by rw [z,h] at q; cases q; exact mu)]; exact q
 exact ⟨od,I.write (x:=d) (e:=d) (t':=s.toks) (h':=s.heap) (by rw [h]; exact mu) (.inl rfl) (fun b v _ q=>q) ⟨od,e⟩ new⟩
theorem Inv.nofrz {d : Addr} {u : HO} (I : Inv X pins σ H s) (h : H d = some u) (mu : Mut (some u)) : ∀ o' u',X.H_0 d≠some (.frz o' u'):=fun o' u' e=>by
 have q:=I.base.frzs d o' u' e
 rw [h] at q
 cases q
 exact mu
theorem Inv.unlock {d : Addr} {od : Obj} {u : HO} (I : Inv X pins σ H s) (h : H d = some (.frz od u)) (hn : ∀ o' u',X.H_0 d≠some (.frz o' u')) : Inv X pins σ (upd H d u) s:=by
 have neH : ∀ b o,H b = some o→(∀ o' u',o≠.frz o' u')→b≠d:=fun b o e hne z=>by
  rw [z,h] at e
  cases e
  exact hne _ _ rfl
 have neN : ∀ b,H b = none→b≠d:=fun b e z=>by rw [z,h] at e; cases e
 refine ⟨I.ok,I.os,I.bare,⟨I.base.keep,I.base.slot,fun b o e n hx=>?_,I.base.there,fun b xs e=>?_,fun b o x e=>?_,fun b ps e=>?_⟩,I.loc,I.cell,?_,fun x c e=>?_,fun p hp=>?_,fun b o e=>?_,I.len⟩
 ·rw [upd_ne (neN b (I.base.free b o e n hx))]; exact I.base.free b o e n hx
 ·have q:=I.base.tups b xs e
  rw [upd_ne (neH b _ q (fun _ _ z=>nomatch z))]; exact q
 ·have q:=I.base.frzs b o x e
  rw [upd_ne (fun z=>by rw [z] at e; exact hn _ _ e)]; exact q
 ·obtain ⟨m,q⟩:=I.base.tbls b ps e
  exact ⟨m,by rw [upd_ne (neH b _ q (fun _ _ z=>nomatch z))]; exact q⟩
 ·rw [upd_ne (neN _ I.free)]; exact I.free
 ·rw [upd_ne (neN c (I.freeC x c e))]; exact I.freeC x c e
 ·obtain ⟨e,n,r⟩:=I.pin p hp
  exact ⟨e,by rw [upd_ne (neN _ n)]; exact n,r⟩
 ·by_cases hb : b = d
  ·rw [hb,upd_same] at e
   cases e
   rw [hb]
   obtain ⟨_,x⟩:=I.hok d _ h
   exact x.stay (fun c v _ q=>q) (fun c q=>by rw [upd_ne (neH c _ q (fun _ _ z=>nomatch z))]; exact q) fun c xs q=>by rw [upd_ne (neH c _ q (fun _ _ z=>nomatch z))]; exact q
  ·rw [upd_ne hb] at e
   exact (I.hok b o e).stay (fun c v _ q=>q) (fun c q=>by rw [upd_ne (neH c _ q (fun _ _ z=>nomatch z))]; exact q) fun c xs q=>by rw [upd_ne (neH c _ q (fun _ _ z=>nomatch z))]; exact q
end
def tLockE (t : TE) : TE:=fun σ H Q=>∃ d u,H d = some u∧Mut (some u)∧∀ od,t σ (upd H d (.frz od u)) fun v H'=>H' d = some (.frz od u)∧Q v (upd H' d u)
section
variable {X : Cx}
theorem pe_lock {e : Expr} {t : TE} (h : PE X e t) : PE X e (tLockE t):=by
 intro pins s σ H Q I hw
 obtain ⟨d,u,hd,mu,hw⟩:=hw
 obtain ⟨od,I1⟩:=I.lock hd mu
 refine thn (h pins s σ _ _ I1 (hw od)) fun v s1 ⟨x,H1,I2,r,e2,q⟩=>?_
 exact ⟨x,_,I2.unlock e2 (I.nofrz hd mu),r,q⟩
theorem pi_one {tg : Expr} {pins : List (Addr × Obj)} {σ : St} {H : Hp} {s : Shared} {R : It→Hp→Prop} {J : It} {tn : Nat→Heap→Prop} {tk : Nat} (I : Inv X pins σ H s) (o : Obj)
 (T : Turn X.prog X.w X.K tg J [s.heap.objs.size] s.heap.objs.size tn) (st : tn 0 (s.heap.push o)) (q : R J H) : PIE X pins σ tg R (.ref s.heap.objs.size) { s with heap:=s.heap.push o,toks:=tk }:=by
 refine ⟨s.heap.objs.size,[s.heap.objs.size],tn,J,H,rfl,I.kept fun b ob e=>Heap.get?_push_of_some _ e,T,st,fun b hb=>?_,q⟩
 have e : b = s.heap.objs.size:=by simpa using hb
 subst e
 exact I.fpOk (Nat.le_refl _) (I.hok.fresh (Nat.le_refl _))
end
section
variable {X : Cx} {tg : Expr}
end
section
variable {X : Cx} {tg : Expr}
end
def Its (x : Str) : It:=⟨fun i _=>i < x.cps.size,fun i H v H'=>H' = H∧∃ c,x.cps[i]? = some c∧v = .str ⟨#[c]⟩,fun i _=>x.cps.size≤i⟩
theorem turn_str {P : Program} {w : World} {K : PySem.W.Frag} {tg : Expr} (it : Addr) (x : Str) (t : Tok) (ty : String) (hty : ty = "str_ascii_iterator"∨ty = "str_iterator") :
 Turn P w K tg (Its x) [it] it (fun i h=>h.IsStrIter it ty x t i) where
 mem:=by simp
 obj:=fun i h st b hb=>by
  have e : b = it:=by simpa using hb
  subst e
  obtain ⟨o,e,c,d⟩:=st
  exact ⟨o,e,fun v z=>by rw [d] at z; cases z⟩
 keep:=fun i h h' st k=>let ⟨o,ho,r⟩:=st; ⟨o,k it (by simp) o ho,r⟩
 item:=by
  intro X hP hw hK hc i pins s σ H E I hf st hg
  subst hP hw hK
  obtain ⟨f0,f1,f2,f3,f4,f5⟩:=hf it (by simp)
  have W : Walks X.prog X.w X.A it [it] [it] x.cps.size (SignAt x) (fun i h=>h.IsStrIter it ty x t i):=by
   rcases hty with e | e
   ·rw [e]; exact Walks.strAscii (I.ok.hd hc) it x t
   ·rw [e]; exact Walks.strWide (I.ok.hd hc) it x t
  have hno : ["enumerate","zip","dict_itemiterator","dict_reverseitemiterator","odict_iterator","itertools.zip_longest","itertools.pairwise"].contains ty = false:=by
   rcases hty with e | e
   ·rw [e]; decide
   ·rw [e]; decide
  refine W.item i s _ _ hg st fun v h' tk hv st' kk=>?_
  obtain ⟨c,u,hcx,rfl⟩:=hv
  have I1 : Inv X pins σ H { s with heap:=h',toks:=tk }:=I.turned (fun b o hb e=>kk b o (by simpa using hb) e) f0 f1 f3 f4 f5
  obtain ⟨oi,e,cc,dd⟩:=id st'
  exact ⟨_,rfl,go_of (s:={ s with heap:=h',toks:=tk }) e cc dd hno ⟨.str ⟨#[c]⟩,H,I1,⟨u,rfl⟩,⟨rfl,c,hcx,rfl⟩,st',fun b hb=>(hf b hb).1⟩⟩
 done:=by
  intro X hP hw hK hc i pins s σ H E I hf st hg
  subst hP hw hK
  obtain ⟨f0,f1,f2,f3,f4,f5⟩:=hf it (by simp)
  have hx : x.cps[i]? = none:=Array.getElem?_eq_none hg
  rcases hty with e | e
  ·rw [e] at st
   exact wpAny_pyNext_ascii_end (I.ok.hd hc) st hx fun h' eb=>⟨rfl,I.turned (t':=s.toks) (fun b o hb e=>eb b o hb e) f0 f1 f3 f4 f5⟩
  ·rw [e] at st
   exact wpAny_pyNext_wide_end (I.ok.hd hc) st hx fun h' eb=>⟨rfl,I.turned (t':=s.toks) (fun b o hb e=>eb b o hb e) f0 f1 f3 f4 f5⟩
 self:=fun A i s Q E st h=>by
  rcases hty with e | e
  ·rw [e] at st; exact wpAny_pyIter_striter_ascii st h
  ·rw [e] at st; exact wpAny_pyIter_striter_wide st h
def iStr (te : TE) : TI:=fun σ H R=>te σ H fun v H1=>∃ x,v = .str x∧R (Its x) H1
theorem pi_str {X : Cx} {tg e : Expr} {te : TE} (he : PE X e te) : PI X tg e (iStr te):=by
 intro pins s σ H R I h
 refine thn (he pins s σ H _ I h) fun v s1 ⟨y,H1,I1,r1,x,ex,q⟩=>?_
 subst ex
 obtain ⟨t,rfl⟩:=r1
 cases ha : x.cps.all (· < 128)
 ·exact wpAny_pyIter_wide ha (pi_one (tk:=s1.toks) I1 _ (turn_str _ x t "str_iterator" (.inr rfl)) ⟨_,Heap.get?_push_size _ rfl,rfl,rfl⟩ q)
 ·exact wpAny_pyIter_ascii ha (pi_one (tk:=s1.toks) I1 _ (turn_str _ x t "str_ascii_iterator" (.inl rfl)) ⟨_,Heap.get?_push_size _ rfl,rfl,rfl⟩ q)
section
variable {prog : Program} {w : World} {A : Around} {E : Value→Shared→Prop} {s : Shared}
theorem iter_keys {d : Addr} {o : Obj} {es : Array DictEntry} {ep : Nat} {Q : Value→Shared→Prop} (hd : (d == sysModules) = false) (ho : s.heap.get? d = some o) (hc : o.ExactDict) (hdat : o.data = .dict es ep)
 (hQ : Q (.ref s.heap.objs.size) { s with heap:=s.heap.push { cls:=.type "dict_keyiterator",data:=.fields #[.ref d,.int 0 0,.int es.size 0,.int ep 0] } }) :
 wpAny (model prog w) A (pyIter (.ref d)) Q E s:=by
 have hT : s.TypeIs (.ref d) "dict":=⟨o,ho,hc.1⟩
 refine wpAny_pyIter_slot hT F.slot_dict_iter (wpAny_call_entry F.slot_dict_iter hT F.entry_dict_iter ?_ (F.args_dict_iter_1 _))
 unfold Builtin.«dict.__iter__»
 refine wpAny_bind ?_
 unfold Builtin.Dict.dictSlotNone
 refine wpAny_bind (wpAny_notOrdered_dict hT ?_)
 show wpAny _ _ (pure (Value.ref d)) _ _ s
 refine wpAny_pure ?_
 show wpAny _ _ (Builtin.Dict.showsAll d >>= _) _ _ s
 unfold Builtin.Dict.showsAll
 rw [if_neg (by rw [hd]; exact Bool.false_ne_true)]
 refine wpAny_bind (wpAny_pure ?_)
 refine wpAny_bind (wpAny_dictEntries ho hdat ?_)
 refine wpAny_bind (wpAny_dictEpoch ho hdat ?_)
 refine wpAny_bind (wpAny_newObj_type (wpAny_pure ⟨_,rfl,"dict_keyiterator",_,⟨_,Heap.get?_push_size _ rfl,rfl⟩,F.slot_dict_keyiterator_next.lookup,?_⟩))
 simpa [rawInt] using hQ
theorem next_key_item {it d : Addr} {i n ep : Nat} {od : Obj} {es : Array DictEntry} {en : DictEntry} {Q : Option Value→Shared→Prop} (hit : s.heap.IsKeyIter it d i n ep) (hod : s.heap.get? d = some od) (hdd : od.data = .dict es ep)
 (hsz : es.size = n) (hx : es[i]? = some en) (hQ : ∀ h',h'.IsKeyIter it d (i + 1) n ep→Heap.SameBut it s.heap h'→Q (some en.key) { s with heap:=h' }) : wpAny (model prog w) A (pyNext (.ref it)) Q E s:=by
 obtain ⟨o,ho,hc,hd⟩:=id hit
 unfold pyNext
 refine wpAny_bind (wpAny_attempt (wpAny_callSpecial?_slot (name:=Str.ofString "__next__") hit.typeIs F.slot_dict_keyiterator_next
  (wpAny_call_entry F.slot_dict_keyiterator_next hit.typeIs F.entry_dict_keyiterator_next ?_ (F.args_dict_keyiterator_next_1 _))))
 refine wpAny_bind (wpAny_pure ?_)
 refine wpAny_bind ?_
 refine wpAny_bind ?_
 first | refine wpAny_bind (wpAny_typeNameOfWhole_keyiter hit.typeIs (wpAny_pure ?_)) | refine wpAny_bind (wpAny_typeNameOf_keyiter hit.typeIs (wpAny_pure ?_))
 refine wpAny_bind (wpAny_fieldsOf ho hd ?_)
 have hown : Builtin.Dict_items.ownsTuple "dict_keyiterator" = false:=by decide
 simp only [hown,Bool.false_eq_true,if_false]
 show wpAny _ _ (if (Value.ref d == Value.none) = true then _ else _) _ _ s
 rw [if_neg (show ¬ ((Value.ref d == Value.none) = true) from Bool.false_ne_true)]
 refine wpAny_bind (wpAny_pure ?_)
 refine wpAny_bind (wpAny_dictEntries hod hdd ?_)
 rw [if_neg (by rw [hsz]; simp)]
 refine wpAny_bind (wpAny_pure ?_)
 refine wpAny_bind (wpAny_dictEpoch hod hdd ?_)
 rw [if_neg (by simp)]
 refine wpAny_pure ?_
 obtain ⟨hlt',hen⟩:=Array.getElem?_eq_some_iff.mp hx
 simp only [show ¬ ((i : Int) < 0) from by omega,if_false,Int.toNat_natCast,Array.getElem?_eq_getElem hlt']
 refine wpAny_bind ?_
 first | refine wpAny_bind (wpAny_typeNameOfWhole_keyiter hit.typeIs (wpAny_pure ?_)) | refine wpAny_bind (wpAny_typeNameOf_keyiter hit.typeIs (wpAny_pure ?_))
 refine wpAny_bind (wpAny_isOneOf_keyiter hit.typeIs ?_)
 show wpAny _ _ (setField (.ref it) 1 (rawInt ((i : Int) + 1)) >>= _) _ _ s
 refine wpAny_bind (wpAny_setField ho hd (by simp) ?_)
 have hit' : (s.heap.update it (Obj.mapFields (·.setIfInBounds 1 (rawInt ((i : Int) + 1))))).IsKeyIter it d (i + 1) n ep :=
  ⟨_,Heap.get?_update_self _ ho (Obj.isFreed_of_fields (Obj.data_mapFields hd _)),(Obj.cls_mapFields ..).trans hc,by rw [Obj.data_mapFields hd]; simp [rawInt]⟩
 refine wpAny_bind (wpAny_holding ?_)
 refine wpAny_bind (wpAny_isOneOf_keyiter (s:={ s with heap:=s.heap.update it (Obj.mapFields (·.setIfInBounds 1 (rawInt ((i : Int) + 1)))) }) hit'.typeIs ?_)
 show wpAny _ _ (pure es[i].key) _ _ _
 rw [hen]
 exact wpAny_pure (wpAny_pure ⟨_,rfl,wpAny_pure (hQ _ hit' (Heap.SameBut.update ..))⟩)
theorem next_key_end {it d : Addr} {i n ep : Nat} {od : Obj} {es : Array DictEntry} {Q : Option Value→Shared→Prop} (hh : A.handled = none) (hit : s.heap.IsKeyIter it d i n ep) (hod : s.heap.get? d = some od) (hdd : od.data = .dict es ep)
 (hsz : es.size = n) (hge : n≤i) (hQ : ∀ h',Heap.ExtBut it s.heap h'→Q none { s with heap:=h' }) : wpAny (model prog w) A (pyNext (.ref it)) Q E s:=by
 obtain ⟨o,ho,hc,hd⟩:=id hit
 unfold pyNext
 refine wpAny_bind (wpAny_attempt (wpAny_callSpecial?_slot (name:=Str.ofString "__next__") hit.typeIs F.slot_dict_keyiterator_next
  (wpAny_call_entry F.slot_dict_keyiterator_next hit.typeIs F.entry_dict_keyiterator_next ?_ (F.args_dict_keyiterator_next_1 _))))
 refine wpAny_bind (wpAny_pure ?_)
 refine wpAny_bind ?_
 refine wpAny_bind ?_
 first | refine wpAny_bind (wpAny_typeNameOfWhole_keyiter hit.typeIs (wpAny_pure ?_)) | refine wpAny_bind (wpAny_typeNameOf_keyiter hit.typeIs (wpAny_pure ?_))
 refine wpAny_bind (wpAny_fieldsOf ho hd ?_)
 have hown : Builtin.Dict_items.ownsTuple "dict_keyiterator" = false:=by decide
 simp only [hown,Bool.false_eq_true,if_false]
 show wpAny _ _ (if (Value.ref d == Value.none) = true then _ else _) _ _ s
 rw [if_neg (show ¬ ((Value.ref d == Value.none) = true) from Bool.false_ne_true)]
 refine wpAny_bind (wpAny_pure ?_)
 refine wpAny_bind (wpAny_dictEntries hod hdd ?_)
 rw [if_neg (by rw [hsz]; simp)]
 refine wpAny_bind (wpAny_pure ?_)
 refine wpAny_bind (wpAny_dictEpoch hod hdd ?_)
 rw [if_neg (by simp)]
 refine wpAny_pure ?_
 have hge' : es.size≤i:=by rw [hsz]; exact hge
 simp only [show ¬ ((i : Int) < 0) from by omega,if_false,Int.toNat_natCast,Array.getElem?_eq_none hge']
 refine wpAny_bind ?_
 first | refine wpAny_bind (wpAny_typeNameOfWhole_keyiter hit.typeIs (wpAny_pure ?_)) | refine wpAny_bind (wpAny_typeNameOf_keyiter hit.typeIs (wpAny_pure ?_))
 show wpAny _ _ (setField (.ref it) 0 .none >>= _) _ _ s
 refine wpAny_bind (wpAny_setField ho hd (by simp) ?_)
 show wpAny _ _ (newExc (.type "StopIteration") [] >>= _) _ _ _
 refine wpAny_bind ?_
 simp only [newExc,newTuple]
 refine wpAny_bind (wpAny_newObj_type ?_ (by size_fits))
 refine wpAny_bind (m:=firstArgMember _ _) (wpAny_of_eq (a:=Value.none) (by first | rfl | (simp only [firstArgMember]; rfl)) ?_)
 refine wpAny_newObj_type ?_ (by size_fits)
 simp only [raiseNew]
 refine wpAny_bind (wpAny_handled ?_)
 rw [show A.in1.handled = none from hh]
 refine wpAny_bind (wpAny_pure (wpAny_throw ?_))
 refine wpAny_bind (wpAny_isInstance (T:="StopIteration") (b:=true) ⟨_,Heap.get?_push_size _ rfl,rfl⟩ isSubtype_stop ?_)
 exact wpAny_pure (hQ _ (((Heap.SameBut.update ..).extBut.push _).push _))
end
section
variable {X : Cx} {pins : List (Addr × Obj)} {σ : St} {H : Hp} {s : Shared} {d : Addr} {o : Obj}
end
theorem dict_ep {o : Obj} {es es' : Array DictEntry} {ep ep' : Nat} (h : o.data = .dict es ep) (h' : o.data = .dict es' ep') : es' = es∧ep' = ep:=by
 rw [h] at h'
 cases h'
 exact ⟨rfl,rfl⟩
section
variable {P : Program} {w : World} {K : PySem.W.Frag} {tg : Expr} {d : Addr} {o : Obj} {es : Array DictEntry} {ep : Nat}
end
section
variable {X : Cx} {tg e : Expr} {td : TE} {apos cpos : Pos}
end
def Ite (K : PySem.W.Frag) (a : Addr) : It :=
 ⟨fun i H=>∃ (xs : List V) (x : V),SqL K H a xs∧xs[i]? = some x,fun i H v H'=>∃ T x,v = .ref T∧H T = none∧H' = upd H T (.tup [.int (i : Nat),x])∧∀ xs,SqL K H a xs→xs[i]? = some x,fun i H=>∃ xs : List V,SqL K H a xs∧xs.length≤i⟩
theorem turn_enum {P : Program} {w : World} {K : PySem.W.Frag} {elts : List Expr} {kk : Nat} {tpos : Pos} (a e it : Addr) :
 Turn P w K (.Tuple elts kk tpos) (Ite K a) [e,it] e (fun i h=>(∃ old,IsEnum h e it ((i : Nat) : Int) old)∧h.IsListIter it a i∧e≠it) where
 mem:=by simp
 obj:=fun i h st b hb=>by
  obtain ⟨⟨old,he⟩,⟨o,ho,hc,hd⟩,_⟩:=st
  have e' : b = e∨b = it:=by simpa using hb
  rcases e' with z | z
  ·rw [z]; exact ⟨_,he,fun v q=>nomatch q⟩
  ·rw [z]; exact ⟨o,ho,fun v q=>by rw [hd] at q; cases q⟩
 keep:=fun i h h' st k=>let ⟨⟨old,he⟩,hi,hne⟩:=st; ⟨⟨old,k e (by simp) _ he⟩,hi.at fun o q=>k it (by simp) o q,hne⟩
 item:=by
  intro X hP hw hK hc i pins s σ H E I hf st hg
  subst hP hw hK
  obtain ⟨⟨old,he⟩,hit,hne⟩:=st
  obtain ⟨xs,x,hq,hx⟩:=hg
  obtain ⟨its,rv,p,hz⟩:=I.list hq
  obtain ⟨u,hu,ru⟩:=rv.get hx
  have hel : e < s.heap.objs.size:=Heap.lt_size he
  have hil : it < s.heap.objs.size:=by obtain ⟨_,q,_⟩:=hit; exact Heap.lt_size q
  refine wpAny_pyNext_enum_item he hit p.isList (x:=u) (by simpa using hu) hne fun h' ho hit' hT hsz hk=>?_
  refine ⟨_,rfl,wpAny_letOwnedTupleGo_enum (s:={ s with heap:=h',toks:=s.toks + 1 }) ho fun h'' he' sb=>?_⟩
  have hT2 : h''.get? s.heap.objs.size = some { cls:=.type "tuple",data:=.seq #[.int i s.toks,u] }:=(sb.2 _ (Nat.ne_of_gt hel)).trans hT
  have new : ObjOk X.prog X.w (upd H s.heap.objs.size (.tup [.int (i : Nat),x])) h'' s.heap.objs.size (.tup [.int (i : Nat),x]) :=
   ⟨by show 2≤sizeLine; decide,[.int i s.toks,u],.cons ⟨_,rfl⟩ (.cons ru .nil),⟨_,hT2,rfl,_,rfl⟩⟩
  have I1 : Inv X pins σ (upd H s.heap.objs.size (.tup [.int (i : Nat),x])) { s with heap:=h'',toks:=s.toks + 1 } :=
   I.turnedNew (ch:=[e,it]) (fun b ob hb q=>(sb.2 b (fun z=>hb (by simp [z]))).trans (hk b ob (fun z=>hb (by simp [z])) (fun z=>hb (by simp [z])) q)) hf (Nat.le_refl _) new
  refine ⟨.ref s.heap.objs.size,_,I1,rfl,⟨_,x,rfl,I.hok.fresh (Nat.le_refl _),rfl,fun ys hy=>by rw [I.list_inj hy hq]; exact hx⟩,⟨⟨u,?_⟩,hit'.at fun o q=>(sb.2 it (Ne.symm hne)).trans q,hne⟩,fun b hb=>?_⟩
  ·have e1 : ((i + 1 : Nat) : Int) = (i : Int) + 1:=by omega
   rw [e1]; exact he'
  ·have hb' : b < s.heap.objs.size:=by
    have e' : b = e∨b = it:=by simpa using hb
    rcases e' with z | z
    ·rw [z]; exact hel
    ·rw [z]; exact hil
   rw [upd_ne (Nat.ne_of_lt hb')]
   exact (hf b hb).1
 done:=by
  intro X hP hw hK hc i pins s σ H E I hf st hg
  subst hP hw hK
  obtain ⟨⟨old,he⟩,hit,hne⟩:=st
  obtain ⟨xs,hq,hx⟩:=hg
  obtain ⟨its,rv,p,hz⟩:=I.list hq
  obtain ⟨f0,f1,f2,f3,f4,f5⟩:=hf it (by simp)
  have hl:=rv.length
  exact wpAny_pyNext_enum_end (I.ok.hd hc) he hit p.isList (by simp; omega) fun h' eb=>⟨rfl,I.turned (t':=s.toks) (fun b o hb q=>eb b o hb q) f0 f1 f3 f4 f5⟩
 self:=fun A i s Q E st h=>let ⟨⟨_,he⟩,_⟩:=st; wpAny_pyIter_enum he h
def iEnum (K : PySem.W.Frag) (ta : TA) : TI:=fun σ H R=>ta σ H fun vs H1=>∃ a xs,vs = [.ref a]∧SqL K H1 a xs∧R (Ite K a) H1
theorem pi_enum {X : Cx} {e : Expr} {ta : TA} {p pos tpos : Pos} {elts : List Expr} {kk : Nat} (hg : Gl X "enumerate") (hm : X.mg "enumerate" = none) (ha : PA X [e] ta) (hs : starEach [e] X.env = [(false,eval e X.env)]:=by rfl) :
 PI X (.Tuple elts kk tpos) (.Call (.Name "enumerate" p) [e] [] pos) (iEnum X.K ta):=by
 intro pins s σ H R I h
 refine Call_ (ld_blt I hg hm boot_enumerate (PyProof.Rows.callWith_type1 (thn (ha pos pins s σ H _ I h) fun us s1 ⟨vs,H1,I1,r1,q1⟩=>?_) hs rfl))
 obtain ⟨a,xs,ex,hq,q⟩:=q1
 subst ex
 cases r1 with
 | cons r rr =>
  cases rr
  cases r
  obtain ⟨its,rv,p',hz⟩:=I1.list hq
  refine call_enumerate_list p'.isList fun h' he hit hsz hk=>wpAny_pyIter_enum he ?_
  have I2 : Inv X pins σ H1 { s1 with heap:=h' }:=I1.kept (t':=s1.toks) hk
  refine ⟨s1.heap.objs.size + 1,[s1.heap.objs.size + 1,s1.heap.objs.size],_,_,H1,rfl,I2,turn_enum a (s1.heap.objs.size + 1) s1.heap.objs.size,⟨⟨.none,he⟩,hit,Nat.succ_ne_self _⟩,fun b hb=>?_,q⟩
  have e' : b = s1.heap.objs.size + 1∨b = s1.heap.objs.size:=by simpa using hb
  have hle : s1.heap.objs.size≤b:=by
   rcases e' with z | z
   ·rw [z]; exact Nat.le_add_right _ _
   ·rw [z]; exact Nat.le_refl _
  exact I1.fpOk hle (I1.hok.fresh hle)
end L2
section
namespace Bits
open PySem PyProof.Rows
end Bits
end
section
namespace TL
open PySem PySem.Builtin PySem.Builtin.Str PySem.StrLaws
end TL
end
namespace L2
open PySem PySem.Spec PyProof.Rows
section
variable {X : Cx} {pins : List (Addr × Obj)} {σ : St} {H : Hp} {s : Shared} {Q : VK}
end
section
variable {X : Cx}
end
section
variable {X : Cx} {o e : Expr} {to te : TE}
end
end L2
namespace L2
open PySem PySem.Spec PyProof.Rows
section
variable {X : Cx}
end
end L2
namespace Att
open PySem PySem.W PySem.Calls PyProof.Rows
theorem ints_of_wellAll {P : Params} {h : Heap} : ∀ (ns : List Int) (vs : List Value),WellAll P h vs (ns.map WData.int)→IntsAre vs ns:=by
 intro ns
 induction ns with
 | nil =>
  intro vs w
  rw [List.map_nil] at w
  cases w
  exact .nil
 | cons n ns ih =>
  intro vs w
  rw [List.map_cons] at w
  cases w with
  | cons a b =>
   cases a
   exact .cons _ _ (ih _ b)
section
variable {prog : Program} {w : World} {A : Around} {E : Value→Shared→Prop} {s : Shared} {K : Frag}
end
end Att
namespace L2
open PySem PySem.Spec PyProof.Rows
theorem vals_ints : ∀ {vs : List Value} {ns : List Int},IntsAre vs ns→Vals (ns.map V.int) vs
 | _,_,.nil=>.nil
 | _,_,.cons n t h=>.cons ⟨t,rfl⟩ (vals_ints h)
end L2
namespace L2
open PySem PySem.Spec PyProof.Rows
abbrev KOf {K : PySem.W.Frag} {h : Heap} (_ : K.In h) : PySem.W.Frag:=K
end L2
namespace L2
open PySem PySem.Spec PyProof.Rows
def inClass (s : Stmt) (j : Nat) : Stmt:=match s with
 | .ClassDef _ _ _ body _ _ _ _ _ _ _=>body.getD j (.Pass ⟨0,0,0,0⟩)
 | _=>.Pass ⟨0,0,0,0⟩
def defArgs (s : Stmt) : Arguments:=match s with
 | .FunctionDef _ a _ _ _ _ _ _ _ _=>a
 | _=>{ posonlyargs:=[],args:=[],vararg:=none,kwonlyargs:=[],kw_defaults:=[],kwarg:=none,defaults:=[] }
def defBody (s : Stmt) : List Stmt:=match s with
 | .FunctionDef _ _ b _ _ _ _ _ _ _=>b
 | _=>[]
def defScope (s : Stmt) : Scope:=match s with
 | .FunctionDef _ _ _ _ _ _ sc _ _ _=>sc
 | _=>{ kind:=.function,names:=[],isGenerator:=false,isCoroutine:=false }
abbrev CX0 : CXT:=fun _ _ _ _ _ _=>False
abbrev E0 : XK:=fun _ _ _=>False
theorem pass0 {X : Cx} : Passes CX0 X E0:=fun _ _ _ _ _ _ _ h=>h.elim
structure Fun (K : PySem.W.Frag) (x qual : Str) (st : Stmt) (f : Addr) (fd : FuncData) : Prop where
 ex : ∃ (oc : Value) (od : Option Addr) (kV doc pm : Value) (an : Option Addr) (cdv ct : Value) (osl : Array (Option Value)),
  fd = PySem.W.fnOf x qual (defArgs st) (defBody st) (defScope st) .none kV doc pm an cdv ct∧K.lookup f = some ⟨oc,od,.func fd,osl⟩∧PySem.W.codeIn K cdv qual = true
 kp : PySem.W.keepIn K (.ref f) = true
section
variable {P : Program} {w : World} {K : PySem.W.Frag} {mg : Str→Option Value} {base : Heap}
theorem Fun.ok {x qual : Str} {st : Stmt} {f : Addr} {fd : FuncData} {N ps : List Str} {k : Nat} {sp : Sp} (F : Fun K x qual st f fd) (S : FnScope N ps (defScope st)) (len : ∀ vs H Q E,sp vs H Q E→vs.length = ps.length)
 (hbody : ∀ (cdv : Value) (A : Around) (outer : List Env) (s : Shared) (H : Hp) (vs : List V) (Q : VK) (E : XK),Room k (A.deeper (envOfC qual (defScope st) s.heap.objs.size f cdv))→sp vs H Q E →
  ∃ t,PSs (cxOf CX0 P w K mg base N qual (defScope st) f cdv A outer s H E).nox (defBody st) t∧t { nx:=fun _ H'=>Q .non H',rt:=Q } (start N vs) H) : FnOk P w K mg base CX0 (k + 1) f fd ps sp:=by
 obtain ⟨oc,od,kV,doc,pm,an,cdv,ct,osl,rfl,lk,hcd⟩:=F.ex
 refine fn_of lk hcd S len fun A outer s H vs Q E hr hsp=>?_
 obtain ⟨t,h,q⟩:=hbody cdv A outer s H vs Q E hr hsp
 exact ⟨t,h.nox,q⟩
theorem Fun.binds {x qual : Str} {st : Stmt} {f : Addr} {fd : FuncData} {ps : List Str} (F : Fun K x qual st f fd)
 (h : ∀ (kV doc pm : Value) (an : Option Addr) (cdv ct : Value) (us : List Value),us.length = ps.length→bindArgs (PySem.W.fnOf x qual (defArgs st) (defBody st) (defScope st) .none kV doc pm an cdv ct) ⟨us,[]⟩ = pure (ps.zip us)) : Binds K fd ps []:=by
 obtain ⟨oc,od,kV,doc,pm,an,cdv,ct,osl,rfl,lk,hcd⟩:=F.ex
 exact .all (h kV doc pm an cdv ct)
theorem fun_mk {x qual : Str} {st : Stmt} {f : Addr} {oc : Value} {od an : Option Addr} {osl : Array (Option Value)} {kV doc pm cdv ct : Value} (l : K.lookup f = some ⟨oc,od,.func (PySem.W.fnOf x qual (defArgs st) (defBody st) (defScope st) .none kV doc pm an cdv ct),osl⟩)
 (c : PySem.W.codeIn K cdv qual = true) (k : PySem.W.keepIn K (.ref f) = true) : Fun K x qual st f (PySem.W.fnOf x qual (defArgs st) (defBody st) (defScope st) .none kV doc pm an cdv ct):=⟨⟨oc,od,kV,doc,pm,an,cdv,ct,osl,rfl,l,c⟩,k⟩
end
section
variable {X : Cx}
theorem pv (i : Nat) {x : Str} {pos : Pos} (hN : X.N[i]? = some x:=by rfl) (hv : Vis X.env.scope x:=by first | exact Or.inl rfl | exact Or.inr (Or.inl rfl) | exact Or.inr (Or.inr rfl)) (hd : (x == ("__debug__" : Str)) = false:=by decide)
 (hcd : (x == ("__classdict__" : Str)) = false:=by decide) : PE X (.Name x pos) (tVar i):=pe_var hN hv hd hcd
end
theorem iteF {A B : Prop} (h : B) : if false = true then A else B:=by
 rw [if_neg Bool.false_ne_true]
 exact h
theorem iteT {A B : Prop} (h : A) : if true = true then A else B:=by
 rw [if_pos rfl]
 exact h
theorem ite2 {c A B : Prop} [Decidable c] (h1 : c→A) (h2 : ¬ c→B) : if c then A else B:=by
 by_cases h : c
 ·rw [if_pos h]
  exact h1 h
 ·rw [if_neg h]
  exact h2 h
def Same (H H' : Hp) : Prop:=∀ b o,H b = some o→H' b = some o
theorem Same.refl (H : Hp) : Same H H:=fun _ _ h=>h
theorem Same.trans {H H1 H2 : Hp} (a : Same H H1) (b : Same H1 H2) : Same H H2:=fun c o h=>b c o (a c o h)
theorem Same.free {H H' : Hp} (e : Same H H') {l : Addr} (h : H' l = Option.none) : H l = Option.none:=by
 cases q : H l with
 | none=>rfl
 | some o =>
  rw [e l o q] at h
  cases h
theorem Same.seq {K : PySem.W.Frag} {H H' : Hp} {a : Addr} {xs : List V} (e : Same H H') (h : SqL K H a xs) : SqL K H' a xs:=by
 rcases h with (h | ⟨o,h⟩) | h
 ·exact .inl (.inl (e _ _ h))
 ·exact .inl (.inr ⟨o,e _ _ h⟩)
 ·exact .inr h
section
variable {κ : Type} [DecidableEq κ]
end
end L2
end
section
set_option maxRecDepth 100000
namespace L3
open PySem L2 NK SK
def NmAt (H : Hp) (l : List Int) (b : Addr) : Prop:=H b = some (.tup (l.map V.int))
def LtAt (H : Hp) (k : List Int × Int) (b : Addr) : Prop:=∃ c,H b = some (.tup [.ref c,.int k.2])∧NmAt H k.1 c
def PrAt (H : Hp) (k : List Int × List Int) (b : Addr) : Prop:=∃ c d,H b = some (.tup [.ref c,.ref d])∧NmAt H k.1 c∧NmAt H k.2 d
def Tups (H H' : Hp) : Prop:=∀ b xs,H b = some (.tup xs)→H' b = some (.tup xs)
theorem Tups.trans {H H1 H2 : Hp} (a : Tups H H1) (b : Tups H1 H2) : Tups H H2:=fun c xs h=>b c xs (a c xs h)
theorem NmAt.mono {H H' : Hp} {l : List Int} {b : Addr} (t : Tups H H') (h : NmAt H l b) : NmAt H' l b:=t _ _ h
theorem LtAt.mono {H H' : Hp} {k : List Int × Int} {b : Addr} (t : Tups H H') (h : LtAt H k b) : LtAt H' k b:=let ⟨c,h1,h2⟩:=h; ⟨c,t _ _ h1,h2.mono t⟩
theorem PrAt.mono {H H' : Hp} {k : List Int × List Int} {b : Addr} (t : Tups H H') (h : PrAt H k b) : PrAt H' k b:=let ⟨c,d,h1,h2,h3⟩:=h; ⟨c,d,t _ _ h1,h2.mono t,h3.mono t⟩
section
variable {P : Program} {w : World} {H : Hp} {h : Heap}
theorem items_ints' : ∀ {l : List Int} {us : List Value},Vals (l.map V.int) us→ItemsAre (intKind P w) l us
 | [],_,r=>by rw [List.map_nil] at r; cases r; exact .nil
 | k :: ks,_,r=>by
  rw [List.map_cons] at r
  cases r with
  | cons h t =>
   obtain ⟨t',rfl⟩:=(show ∃ t,_ = Value.int k t from h)
   exact .cons (is_int k t') (items_ints' t)
theorem NmAt.key (ok : HOk P w H h) {l : List Int} {b : Addr} (e : NmAt H l b) : IsTupleKey (intKind P w) h l b:=by
 obtain ⟨_,its,r,o,h1,h2,n,h3⟩:=(show ObjOk P w H h b (.tup (l.map V.int)) from ok b _ e)
 exact ⟨o,its.toArray,n,h1,h2,h3,by simpa using items_ints' r⟩
theorem tup2 (ok : HOk P w H h) {b : Addr} {x y : V} (e : H b = some (.tup [x,y])) : ∃ o u v n,h.get? b = some o∧o.cls = .type "tuple"∧o.data = .seq #[u,v] n∧RelV x u∧RelV y v:=by
 obtain ⟨_,its,r,o,h1,h2,n,h3⟩:=(show ObjOk P w H h b (.tup [x,y]) from ok b _ e)
 cases r with
 | cons r1 r =>
  cases r with
  | cons r2 r =>
   cases r
   exact ⟨o,_,_,n,h1,h2,h3,r1,r2⟩
theorem LtAt.key (ok : HOk P w H h) {k : List Int × Int} {b : Addr} (e : LtAt H k b) : IsPair (nameV P w) (intV P w) h k b:=by
 obtain ⟨c,e1,e2⟩:=e
 obtain ⟨o,u,v,n,h1,h2,h3,r1,r2⟩:=tup2 ok e1
 cases r1
 obtain ⟨t,rfl⟩:=r2
 exact ⟨o,_,_,n,h1,h2,h3,⟨c,rfl,e2.key ok⟩,is_int _ _⟩
theorem PrAt.key (ok : HOk P w H h) {k : List Int × List Int} {b : Addr} (e : PrAt H k b) : IsPair (nameV P w) (nameV P w) h k b:=by
 obtain ⟨c,d,e1,e2,e3⟩:=e
 obtain ⟨o,u,v,n,h1,h2,h3,r1,r2⟩:=tup2 ok e1
 cases r1
 cases r2
 exact ⟨o,_,_,n,h1,h2,h3,⟨c,rfl,e2.key ok⟩,⟨d,rfl,e3.key ok⟩⟩
end
structure KD (K : Type) [DecidableEq K] where
 knd : ∀ (P : Program) (w : World),SKind P w K
 at_ : Hp→K→Addr→Prop
 key : ∀ {P : Program} {w : World} {H : Hp} {h : Heap} {k : K} {b : Addr},HOk P w H h→at_ H k b→(knd P w).is h k b
 mono : ∀ {H H' : Hp} {k : K} {b : Addr},Tups H H'→at_ H k b→at_ H' k b
 room : ∀ {P : Program} {w : World} {A : Around},A.units + 1 < cLine→(knd P w).room A
def nameD : KD (List Int):=⟨nameS,NmAt,fun ok e=>NmAt.key ok e,fun t e=>NmAt.mono t e,fun {_ _ A} h=>(show A.units < cLine by omega)⟩
def litD : KD (List Int × Int):=⟨fun P w=>pairS (nameV P w) (intV P w),LtAt,fun ok e=>LtAt.key ok e,fun t e=>LtAt.mono t e,fun h=>h⟩
def pairD : KD (List Int × List Int):=⟨fun P w=>pairS (nameV P w) (nameV P w),PrAt,fun ok e=>PrAt.key ok e,fun t e=>PrAt.mono t e,fun h=>h⟩
section
variable {K : Type} [DecidableEq K] (D : KD K) (P : Program) (w : World)
def DO (a : Addr) (xs : List (K × Addr)) : HO:=.ext fun h=>∃ o es ep,h.get? a = some o∧o.ExactDict∧o.data = .dict es ep∧es.toList = xs.map (fun x=>entryOfKey (D.knd P w).toHeapKind (x.1,x.2,.bool true))∧(xs.map (·.1)).Nodup
def DAt (H : Hp) (a : Addr) (ks : List K) : Prop:=∃ xs : List (K × Addr),xs.map (·.1) = ks∧H a = some (DO D P w a xs)∧(∀ x∈xs,D.at_ H x.1 x.2)∧xs.length≤sizeLine∧(a == sysModules) = false
variable {D P w}
def trips (xs : List (K × Addr)) : List (K × Addr × Value):=xs.map fun x=>(x.1,x.2,.bool true)
theorem DAt.dict {H : Hp} {h : Heap} {a : Addr} {xs : List (K × Addr)} (ok : HOk P w H h) (e : H a = some (DO D P w a xs)) (hk : ∀ x∈xs,D.at_ H x.1 x.2) : h.DictOfH (D.knd P w).toHeapKind a (trips xs):=by
 obtain ⟨⟨o,es,ep,h1,h2,h3,h4,h5⟩,_⟩:=(show ObjOk P w H h a (DO D P w a xs) from ok a _ e)
 refine ⟨o,es,ep,h1,h2,h3,?_,?_,?_⟩
 ·rw [h4]; unfold trips; rw [List.map_map]; rfl
 ·intro x hx
  obtain ⟨y,hy,rfl⟩:=List.mem_map.mp hx
  exact D.key ok (hk y hy)
 ·unfold trips; rw [List.map_map]; exact h5
theorem atKey_trips {xs : List (K × Addr)} {k : K} : (atKey (trips xs) k).isSome = decide (k∈xs.map (·.1)):=by
 unfold trips
 induction xs with
 | nil=>simp [atKey]
 | cons x xs ih =>
  by_cases e : x.1 = k
  ·simp [atKey,List.find?_cons,e]
  ·have e' : ¬ k = x.1:=fun z=>e z.symm
   unfold atKey at ih ⊢
   rw [List.map_cons,List.find?_cons]
   simp only [e,decide_false]
   rw [ih]
   simp [e']
theorem putAt_trips {k : K} : ∀ {xs : List (K × Addr)},(trips xs).map (putAt k (.bool true)) = trips xs
 | []=>rfl
 | x :: xs=>by
  have ih:=putAt_trips (k:=k) (xs:=xs)
  unfold trips at ih ⊢
  rw [List.map_cons,List.map_cons,ih]
  refine congrArg (· :: _) ?_
  unfold putAt
  split <;> rfl
theorem stored_trips {xs : List (K × Addr)} {k : K} {b : Addr} : storedH (trips xs) k b (.bool true) = trips (if k∈xs.map (·.1) then xs else xs ++ [(k,b)]):=by
 unfold storedH
 rw [atKey_trips]
 by_cases h : k∈xs.map (·.1)
 ·rw [if_pos (by simpa using h),if_pos h]
  exact putAt_trips
 ·rw [if_neg (by simpa using h),if_neg h]
  unfold trips
  rw [List.map_append]
  rfl
theorem DO_ok {H : Hp} {h : Heap} {a : Addr} {xs : List (K × Addr)} (d : h.DictOfH (D.knd P w).toHeapKind a (trips xs)) : ObjOk P w H h a (DO D P w a xs):=by
 obtain ⟨o,es,ep,h1,h2,h3,h4,_,h5⟩:=d
 refine ⟨⟨o,es,ep,h1,h2,h3,?_,?_⟩,⟨o,h1⟩,?_⟩
 ·rw [h4]; unfold trips; rw [List.map_map]; rfl
 ·unfold trips at h5; rw [List.map_map] at h5; exact h5
 ·rintro g1 g2 ⟨o',es',ep',q1,q2⟩ hk
  exact ⟨o',es',ep',hk o' q1,q2⟩
theorem tups_upd {H : Hp} {a : Addr} {o u : HO} (h : H a = some u) (hn : ∀ xs,u≠.tup xs) : Tups H (upd H a o):=fun b xs e=>by
 rw [upd_ne (fun z=>by rw [z,h] at e; cases e; exact hn _ rfl)]; exact e
theorem tups_new {H : Hp} {a : Addr} {o : HO} (h : H a = none) : Tups H (upd H a o):=fun b xs e=>by
 rw [upd_ne (ne_of_none e h)]; exact e
end
section
variable {X : Cx} {K : Type} [DecidableEq K] (D : KD K)
def tDN : TE:=fun _ H Q=>∀ p H',H p = none→DAt D X.prog X.w H' p []→(∀ c,c≠p→H' c = H c)→Q (.ref p) H'
theorem pe_dn {pos : Pos} : PE X (.Dict [] [] pos) (tDN (X:=X) D):=fun pins s σ H Q I h=>by
 have hn:=I.hok.fresh (Nat.le_refl s.heap.objs.size)
 have new : ObjOk X.prog X.w (upd H s.heap.objs.size (DO D X.prog X.w s.heap.objs.size [])) (s.heap.push { cls:=.type "dict",data:=.dict #[] }) s.heap.objs.size (DO D X.prog X.w s.heap.objs.size []):=DO_ok (Heap.DictOfH.new s.heap)
 refine wpAny_Dict_empty ⟨.ref s.heap.objs.size,_,I.laid (a:=s.heap.objs.size) (o:=DO D X.prog X.w s.heap.objs.size []) (t':=s.toks) (fun _ _ q=>Heap.get?_push_of_some _ q) (Nat.le_refl _) new,rfl,h _ _ hn ⟨[],rfl,upd_same,(fun x hx=>by cases hx),Nat.zero_le _,beq_eq_false_iff_ne.mpr (Ne.symm (Nat.ne_of_lt I.big))⟩ fun c hc=>upd_ne hc⟩
def tDN_in (b : Bool) (ty td : TE) : TE:=fun σ H Q=>ty σ H fun y H1=>td σ H1 fun x H2=>∃ a c ks k,x = .ref a∧y = .ref c∧DAt D X.prog X.w H2 a ks∧D.at_ H2 k c∧Q (.bl (if b = true then decide (k∈ks) else !decide (k∈ks))) H2
variable {D}
theorem pc_dn_in {i o : Expr} {ty td : TE} (hu : X.A.units + 3 < cLine) (hi : PE X i ty) (ho : PE X o td) : PC X .In i o (tDN_in (X:=X) D true ty td):=by
 intro pins s σ H Q I h
 refine thn (hi pins s σ H _ I h) fun iv s1 ⟨y,H1,I1,ry,q1⟩=>thn (ho pins s1 σ H1 _ I1 q1) fun u s2 ⟨x,H2,I2,rx,a,c,ks,k,ex,ey,hd,hk,q2⟩=>?_
 subst ex ey
 obtain rfl : u = Value.ref a:=rx
 obtain rfl : iv = Value.ref c:=ry
 obtain ⟨xs,rfl,e,hxs,_,hs⟩:=hd
 refine wpAny_in_heap (D.room (by show X.A.units + 1 + 1 < cLine; omega)) (D.key I2.hok hk) hs (DAt.dict I2.hok e hxs) ?_
 rw [atKey_trips]
 exact ⟨.bl _,H2,I2.tok _,rfl,q2⟩
def sDN_put (td ty tv : TE) : TS:=fun E σ H=>tv σ H fun v H1=>td σ H1 fun x H2=>ty σ H2 fun y H3=>∃ a c ks k,x = .ref a∧y = .ref c∧v = .bl true∧DAt D X.prog X.w H3 a ks∧D.at_ H3 k c∧ks.length < sizeLine ∧
 ∀ H4,DAt D X.prog X.w H4 a (if k∈ks then ks else ks ++ [k])→(∀ e,e≠a→H4 e = H3 e)→E.nx σ H4
theorem ps_dn_put {o i value : Expr} {pos pos' : Pos} {td ty tv : TE} (hu : X.A.units + 3 < cLine) (ho : PE X o td) (hi : PE X i ty) (hv : PE X value tv) (hs : swapsWith value (some (.Subscript o i pos')) pos.line X.env = pure false) :
 PS X (.Assign [.Subscript o i pos'] value pos) (sDN_put (X:=X) (D:=D) td ty tv):=by
 intro pins s σ H E I h
 refine wpAny_Assign_Subscript (thn (hv pins s σ H _ I h) fun r s1 ⟨v,H1,I1,rv,q1⟩=>thn (ho pins s1 σ H1 _ I1 q1) fun u s2 ⟨x,H2,I2,rx,q2⟩=>thn (hi pins s2 σ H2 _ I2 q2) fun iv s3 ⟨y,H3,I3,ry,a,c,ks,k,ex,ey,ev,hd,hk,hl,q3⟩=>?_) hs
 subst ex ey ev
 obtain rfl : u = Value.ref a:=rx
 obtain rfl : iv = Value.ref c:=ry
 obtain rfl : r = Value.bool true:=rv
 obtain ⟨xs,rfl,e,hxs,hz,hsm⟩:=hd
 rw [List.length_map] at hl
 have hz' : (trips xs).length≤sizeLine:=by unfold trips; rw [List.length_map]; exact hz
 refine wpAny_setItem_heap (hsz:=hz') (D.room (by show X.A.units + 1 + 1 < cLine; omega)) (D.key I3.hok hk) (DAt.dict I3.hok e hxs) fun h' dd sb=>?_
 rw [stored_trips] at dd
 generalize hg : (if k∈xs.map (·.1) then xs else xs ++ [(k,c)]) = ys at dd
 have new : ObjOk X.prog X.w (upd H3 a (DO D X.prog X.w a ys)) h' a (DO D X.prog X.w a ys):=DO_ok dd
 have tu : Tups H3 (upd H3 a (DO D X.prog X.w a ys)):=tups_upd e (fun _ z=>by cases z)
 have I4:=I3.write (x:=a) (e:=a) (t':=s3.toks + (D.knd X.prog X.w).draws k) (by rw [e]; exact True.intro) (.inl rfl) (fun b q hb z=>(sb.2 b hb).trans z) (let ⟨o',_,_,ho',_⟩:=dd; ⟨o',ho'⟩) new
 refine ⟨σ,_,I4,q3 _ ⟨ys,?_,upd_same,fun z hz2=>?_,?_,hsm⟩ fun b hb=>upd_ne hb⟩
 ·rw [← hg]; split
  ·rfl
  ·rw [List.map_append]; rfl
 ·have : D.at_ H3 z.1 z.2:=by
   rw [← hg] at hz2
   split at hz2
   ·exact hxs z hz2
   ·rcases List.mem_append.mp hz2 with q | q
    ·exact hxs z q
    ·rw [List.mem_singleton.mp q]; exact hk
  exact D.mono tu this
 ·rw [← hg]; split
  ·exact hz
  ·rw [List.length_append,List.length_singleton]; omega
end
end L3
end
section
set_option maxRecDepth 100000
set_option maxHeartbeats 1000000
namespace L3
open PySem L2 NK SK
section
variable {X : Cx} {pins : List (Addr × Obj)} {σ : St} {H : Hp} {s : Shared} {K : Type} [DecidableEq K] {D : KD K}
theorem do_ents {P : Program} {w : World} {h : Heap} {d : Addr} {xs : List (K × Addr)} (q : ObjOk P w H h d (DO D P w d xs)) :
 ∃ o es ep,h.get? d = some o∧o.ExactDict∧o.data = .dict es ep∧es.size = xs.length∧∀ (i : Nat) (k : K) (b : Addr),xs[i]? = some (k,b)→∃ en : DictEntry,es[i]? = some en∧en.key = .ref b:=by
 obtain ⟨⟨o,es,ep,h1,h2,h3,h4,h5⟩,_⟩:=q
 refine ⟨o,es,ep,h1,h2,h3,?_,fun i k b e=>?_⟩
 ·rw [← Array.length_toList,h4,List.length_map]
 ·refine ⟨entryOfKey (D.knd P w).toHeapKind (k,b,.bool true),?_,rfl⟩
  rw [← Array.getElem?_toList,h4,List.getElem?_map,e]; rfl
theorem frzD {d : Addr} {o : Obj} {xs : List (K × Addr)} (I : Inv X pins σ H s) (h : H d = some (.frz o (DO D X.prog X.w d xs))) :
 s.heap.get? d = some o∧o.ExactDict∧∃ es ep,o.data = .dict es ep∧es.size = xs.length∧∀ (i : Nat) (k : K) (b : Addr),xs[i]? = some (k,b)→∃ en : DictEntry,es[i]? = some en∧en.key = .ref b:=by
 obtain ⟨hd,q⟩:=I.hok d _ h
 obtain ⟨o',es,ep,ho,r⟩:=do_ents q
 rw [hd] at ho
 cases ho
 exact ⟨hd,r.1,es,ep,r.2⟩
end
def Itdn {K : Type} [DecidableEq K] (D : KD K) (P : Program) (w : World) (d : Addr) (o : Obj) (xs : List (K × Addr)) : It :=
 ⟨fun i H=>H d = some (.frz o (DO D P w d xs))∧i < xs.length,fun i H x H'=>H' = H∧∃ k b,xs[i]? = some (k,b)∧x = .ref b,fun i H=>H d = some (.frz o (DO D P w d xs))∧xs.length≤i⟩
section
variable {P : Program} {w : World} {F : PySem.W.Frag} {tg : Expr} {d : Addr} {o : Obj} {es : Array DictEntry} {ep : Nat} {K : Type} [DecidableEq K] {D : KD K}
theorem turn_dn {xs : List (K × Addr)} (it : Addr) (hod : o.data = .dict es ep) : Turn P w F tg (Itdn D P w d o xs) [it] it (fun i h=>h.IsKeyIter it d i xs.length ep) where
 mem:=by simp
 obj:=fun i h st b hb=>by
  have e : b = it:=by simpa using hb
  subst e
  obtain ⟨oi,e,c,dd⟩:=st
  exact ⟨oi,e,fun v z=>by rw [dd] at z; cases z⟩
 keep:=fun i h h' st k=>st.at fun oi e=>k it (by simp) oi e
 item:=by
  intro X hP hw hK hc i pins s σ H E I hf st hg
  subst hP hw hK
  obtain ⟨hd,hi⟩:=hg
  obtain ⟨f0,f1,f2,f3,f4,f5⟩:=hf it (by simp)
  obtain ⟨hgd,hx,es',ep',hdt,hsz,ent⟩:=frzD I hd
  obtain ⟨rfl,rfl⟩:=dict_ep hod hdt
  obtain ⟨⟨k,b⟩,hkv⟩ : ∃ p,xs[i]? = some p:=⟨xs[i],List.getElem?_eq_getElem hi⟩
  obtain ⟨en,hen,hkey⟩:=ent i k b hkv
  refine next_key_item st hgd hdt hsz hen fun h' st' sb=>?_
  have I1 : Inv X pins σ H { s with heap:=h' }:=I.turned (t':=s.toks) (fun b ob hb e=>(sb.2 b hb).trans e) f0 f1 f3 f4 f5
  obtain ⟨oi,e,c,dd⟩:=id st'
  exact ⟨en.key,rfl,go_of (s:={ s with heap:=h' }) e c dd (by decide) ⟨.ref b,H,I1,hkey,⟨rfl,k,b,hkv,rfl⟩,st',fun b hb=>(hf b hb).1⟩⟩
 done:=by
  intro X hP hw hK hc i pins s σ H E I hf st hg
  subst hP hw hK
  obtain ⟨hd,hi⟩:=hg
  obtain ⟨f0,f1,f2,f3,f4,f5⟩:=hf it (by simp)
  obtain ⟨hgd,hx,es',ep',hdt,hsz,ent⟩:=frzD I hd
  obtain ⟨rfl,rfl⟩:=dict_ep hod hdt
  exact next_key_end (I.ok.hd hc) st hgd hdt hsz hi fun h' eb=>⟨rfl,I.turned (t':=s.toks) (fun b ob hb e=>eb b ob hb e) f0 f1 f3 f4 f5⟩
 self:=fun A i s Q E st h=>wpAny_pyIter_keyiter st h
end
section
variable {X : Cx} {tg e : Expr} {td : TE} {K : Type} [DecidableEq K] (D : KD K)
def iDN (P : Program) (w : World) (td : TE) : TI:=fun σ H R=>td σ H fun x H1=>∃ d o xs,x = .ref d∧H1 d = some (.frz o (DO D P w d xs))∧(d == sysModules) = false∧R (Itdn D P w d o xs) H1
variable {D}
theorem pi_dn (he : PE X e td) : PI X tg e (iDN D X.prog X.w td):=by
 intro pins s σ H R I h
 refine thn (he pins s σ H _ I h) fun u s1 ⟨x,H1,I1,rx,d,o,xs,ex,hd,hs,q⟩=>?_
 subst ex
 obtain rfl : u = Value.ref d:=rx
 obtain ⟨hgd,hx,es,ep,hdt,hsz,ent⟩:=frzD I1 hd
 refine iter_keys hs hgd hx hdt (pi_one (tk:=s1.toks) I1 _ (turn_dn _ hdt) ⟨_,Heap.get?_push_size _ rfl,rfl,?_⟩ q)
 rw [hsz] <;> rfl
theorem pc_dn_inL {i o : Expr} {ty tdd : TE} (hu : X.A.units + 3 < cLine) (hi : PE X i ty) (ho : PE X o tdd) : PC X .In i o (fun σ H Q=>ty σ H fun y H1=>tdd σ H1 fun x H2=>∃ a c od xs k,x = .ref a∧y = .ref c∧H2 a = some (.frz od (DO D X.prog X.w a xs))∧(∀ x∈xs,D.at_ H2 x.1 x.2)∧(a == sysModules) = false∧D.at_ H2 k c∧Q (.bl (decide (k∈xs.map (·.1)))) H2):=by
 intro pins s σ H Q I h
 refine thn (hi pins s σ H _ I h) fun iv s1 ⟨y,H1,I1,ry,q1⟩=>thn (ho pins s1 σ H1 _ I1 q1) fun u s2 ⟨x,H2,I2,rx,a,c,od,xs,k,ex,ey,e,hxs,hs,hk,q2⟩=>?_
 subst ex ey
 obtain rfl : u = Value.ref a:=rx
 obtain rfl : iv = Value.ref c:=ry
 have dd : s2.heap.DictOfH (D.knd X.prog X.w).toHeapKind a (trips xs):=by
  obtain ⟨_,⟨o,es,ep,h1,h2,h3,h4,h5⟩,_⟩:=(show ObjOk X.prog X.w H2 s2.heap a (.frz od (DO D X.prog X.w a xs)) from I2.hok a _ e)
  refine ⟨o,es,ep,h1,h2,h3,?_,?_,?_⟩
  ·rw [h4]; unfold trips; rw [List.map_map]; rfl
  ·intro x hx
   obtain ⟨y,hy,rfl⟩:=List.mem_map.mp hx
   exact D.key I2.hok (hxs y hy)
  ·unfold trips; rw [List.map_map]; exact h5
 refine wpAny_in_heap (D.room (by show X.A.units + 1 + 1 < cLine; omega)) (D.key I2.hok hk) hs dd ?_
 rw [atKey_trips]
 exact ⟨.bl _,H2,I2.tok _,rfl,q2⟩
end
section
variable {prog : Program} {w : World} {K : Type} [DecidableEq K] {knd : HeapKind prog w K} {A : Around} {E : Value→Shared→Prop} {s : Shared} {d a : Addr} {k : K} {xs : List (K × Addr × Value)}
theorem notin_heap {Q : Value→Shared→Prop} (hu : knd.room A.in1) (hkey : knd.is s.heap k a) (hd : (d == sysModules) = false) (hm : s.heap.DictOfH knd d xs) (h : Q (.bool (!(atKey xs k).isSome)) { s with toks:=s.toks + knd.draws k }) :
 wpAny (model prog w) A (compareOp .NotIn (.ref a) (.ref d)) Q E s:=by
 show wpAny _ _ (contains (.ref d) (.ref a) >>= fun b=>pure (Value.bool !b)) Q E s
 refine wpAny_bind (by
  unfold contains
  try with_reducible refine wpAny_holding ?_
  refine wpAny_bind (wpAny_specialOf hm.typeIs slot_dict_contains.lookup ?_)
  show wpAny _ _ (ite ((some (Value.builtin "dict.__contains__") == some Value.none) = true) _ _) _ E s
  rw [if_neg (by rw [beq_builtin_none]; decide)]
  refine wpAny_bind (wpAny_callSpecialUnlessNone?_slot (name:=Str.ofString "__contains__") hm.typeIs slot_dict_contains (wpAny_call_entry slot_dict_contains hm.typeIs entry_dict_contains ?_ (args_dict_contains _ _)))
  show wpAny _ _ ((dictGet d (.ref a)) >>= _) _ _ s
  refine wpAny_bind (wpAny_dictGet_heap hu hkey hm ?_)
  cases hf : atKey xs k
  ·rw [hf] at h
   show wpAny _ _ (Builtin.Dict.pendingKey? d (.ref a) >>= _) _ _ _
   refine wpAny_bind (wpAny_pendingKey_other hd (wpAny_pure ⟨_,rfl,wpAny_truthy_bool ?_⟩))
   exact wpAny_pure h
  ·rw [hf] at h
   show wpAny _ _ (ret (.bool true)) _ _ _
   refine wpAny_pure ⟨_,rfl,wpAny_truthy_bool ?_⟩
   exact wpAny_pure h)
end
section
variable {X : Cx} {K : Type} [DecidableEq K] {D : KD K}
theorem pc_dn_notin {i o : Expr} {ty tdd : TE} (hu : X.A.units + 3 < cLine) (hi : PE X i ty) (ho : PE X o tdd) : PC X .NotIn i o (tDN_in (X:=X) D false ty tdd):=by
 intro pins s σ H Q I h
 refine thn (hi pins s σ H _ I h) fun iv s1 ⟨y,H1,I1,ry,q1⟩=>thn (ho pins s1 σ H1 _ I1 q1) fun u s2 ⟨x,H2,I2,rx,a,c,ks,k,ex,ey,hd,hk,q2⟩=>?_
 subst ex ey
 obtain rfl : u = Value.ref a:=rx
 obtain rfl : iv = Value.ref c:=ry
 obtain ⟨xs,rfl,e,hxs,_,hs⟩:=hd
 refine notin_heap (D.room (by show X.A.units + 1 + 1 < cLine; omega)) (D.key I2.hok hk) hs (DAt.dict I2.hok e hxs) ?_
 rw [atKey_trips]
 exact ⟨.bl _,H2,I2.tok _,rfl,q2⟩
end
section
variable {prog : Program} {w : World} {A : Around} {d : Addr} {o : Obj} {es : Array DictEntry} {ep : Nat}
theorem walks_keys (hh : A.handled = none) (I : Addr) (hne : d≠I) (hd : o.data = .dict es ep) :
 Walks prog w A I [I,d] [I] es.size (fun i v=>∃ en,es[i]? = some en∧v = en.key) (fun i h=>h.IsKeyIter I d i es.size ep∧h.get? d = some o) where
 sub:=fun b hb=>by rw [List.mem_singleton] at hb; rw [hb]; exact List.mem_cons_self
 frame:=fun _ _ _ st hk=>⟨st.1.at fun o e=>hk I (by simp) o e,hk d (by simp) _ st.2⟩
 item:=fun i s Q E hi st hQ=>by
  refine next_key_item st.1 st.2 hd rfl (Array.getElem?_eq_getElem hi) fun h' hit' hs'=>?_
  exact hQ _ h' s.toks ⟨_,Array.getElem?_eq_getElem hi,rfl⟩ ⟨hit',hs'.extBut d o hne st.2⟩ fun b o hb e=>hs'.extBut b o (fun h=>hb (by simp [h])) e
 done:=fun s Q E st hQ=>next_key_end hh st.1 st.2 hd rfl (Nat.le_refl _) fun h' he'=>hQ h' s.toks fun b o hb e=>he' b o (fun h=>hb (by simp [h])) e
 self:=fun _ _ _ _ st hQ=>wpAny_pyIter_keyiter st.1 hQ
theorem kdl_any (lo : (d == sysModules) = false) (hx : o.ExactDict) (hd : o.data = .dict es ep) : PySem.W.KdlSrc prog w "dict" d d es.size (fun i v=>∃ en,es[i]? = some en∧v = en.key) (fun h=>h.get? d = some o) where
 type:=fun _ hm=>⟨o,hm,hx.1⟩
 there:=fun _ hm=>⟨Heap.lt_size hm,Heap.lt_size hm⟩
 keep:=fun _ _ hm hk=>hk d (.inl rfl) o hm
 notList:=by decide
 notTuple:=by decide
 hint:=fun _ _ _ _ hm hq=>PySem.W.kdl_hint_dict ⟨o,hm,hx.1⟩ hq
 iter:=fun _ _ hh hm=>⟨_,_,(fun _ _ hq=>iter_keys lo hm hx hd hq),walks_keys hh _ (Nat.ne_of_lt (Heap.lt_size hm)) hd,⟨⟨_,Heap.get?_push_size _ rfl,rfl,rfl⟩,Heap.get?_push_of_some _ hm⟩⟩
end
section
variable {X : Cx} {K : Type} [DecidableEq K] (D : KD K)
theorem vals_refs : ∀ {us : List Value} {bs : List Addr},us.length = bs.length→(∀ (j : Nat) (v : Value),us[j]? = some v→∃ b,bs[j]? = some b∧v = .ref b)→Vals (bs.map V.ref) us
 | [],[],_,_=>.nil
 | u :: us,b :: bs,hl,h=>by
  obtain ⟨b',e,rfl⟩:=h 0 u rfl
  simp at e
  subst e
  exact .cons rfl (vals_refs (by simpa using hl) fun j v e=>by simpa using h (j + 1) v (by simpa using e))
 | [],_ :: _,hl,_=>by simp at hl
 | _ :: _,[],hl,_=>by simp at hl
theorem cr_list_dn (hc : X.calm = true) : CallR X (.type "list") (fun vs H Q=>∃ a xs,vs = [V.ref a]∧H a = some (DO D X.prog X.w a xs)∧xs.length≤sizeLine∧(a == sysModules) = false ∧
 ∀ l,H l = none→Q (.ref l) (upd H l (.lst (xs.map fun x=>V.ref x.2)))):=by
 intro pins s σ H vs us Q I r h
 obtain ⟨a,xs,rfl,e,hz,hs,q⟩:=h
 obtain ⟨u,rfl,ru⟩:=vals1 r
 cases ru
 obtain ⟨o,es,ep,ho,hx,hd,hsz,ent⟩:=do_ents (I.hok a _ e)
 refine PySem.W.kdl_call (kdl_any hs hx hd) (I.ok.hd hc) ho (by omega) fun h' tk acc' c' hk hS hacc=>?_
 have hv : Vals (xs.map fun x=>V.ref x.2) acc'.toList:=by
  rw [show (xs.map fun x=>V.ref x.2) = (xs.map (·.2)).map V.ref by rw [List.map_map]; rfl]
  refine vals_refs (by rw [Array.length_toList,List.length_map,hacc.1,hsz]) fun j v ev=>?_
  obtain ⟨en,hen,rfl⟩:=hacc.2 j v (by rw [← Array.getElem?_toList]; exact ev)
  obtain ⟨hj,_⟩:=Array.getElem?_eq_some_iff.mp hen
  have hj' : j < xs.length:=by omega
  obtain ⟨en',h1,h2⟩:=ent j xs[j].1 xs[j].2 (by rw [List.getElem?_eq_getElem hj'])
  rw [hen] at h1
  cases h1
  exact ⟨xs[j].2,by rw [List.getElem?_map,List.getElem?_eq_getElem hj']; rfl,h2⟩
 exact ⟨.ref s.heap.objs.size,_,I.laid (t':=tk) hk (Nat.le_refl _) (show ObjOk X.prog X.w _ h' _ (.lst _) from ⟨by rw [List.length_map]; exact hz,acc'.toList,c',hv,by rw [Array.toArray_toList]; exact hS⟩),rfl,q _ (I.hok.fresh (Nat.le_refl _))⟩
def SzO (a : Addr) (n : Nat) : HO:=.ext fun h=>∃ o es ep t,h.get? a = some o∧o.ExactSet∧o.data = .set es ep t∧t.fits es.size = true∧es.size = n
theorem sz_ok {H : Hp} {P : Program} {w : World} {h : Heap} {a : Addr} {o : Obj} {es : Array (Int × Value)} {ep : Nat} {t : SetTable} (h1 : h.get? a = some o) (h2 : o.ExactSet) (h3 : o.data = .set es ep t) (h4 : t.fits es.size = true) : ObjOk P w H h a (SzO a es.size):=by
 refine ⟨⟨o,es,ep,t,h1,h2,h3,h4,rfl⟩,⟨o,h1⟩,?_⟩
 rintro g1 g2 ⟨o',es',ep',t',q1,q2⟩ hk
 exact ⟨o',es',ep',t',hk o' q1,q2⟩
theorem cr_set [Inhabited K] (hc : X.calm = true) (hu : X.A.units + 8 < cLine) : CallR X (.type "set") (fun vs H Q=>∃ a,∃ ys : List (K × Addr),vs = [V.ref a]∧(SqL X.K H a (ys.map fun y=>V.ref y.2)∨SqT X.K H a (ys.map fun y=>V.ref y.2))∧(∀ y∈ys,D.at_ H y.1 y.2)∧ys.length≤76 ∧
 ∀ p n,H p = none→(∃ ks : List K,ks.Nodup∧(∀ k,k∈ks↔k∈ys.map (·.1))∧n = ks.length)→Q (.ref p) (upd H p (SzO p n))):=by
 intro pins s σ H vs us Q I r h
 obtain ⟨a,ys,rfl,hq,hat,hz,q⟩:=h
 obtain ⟨u,rfl,ru⟩:=vals1 r
 cases ru
 have go : ∀ its : List Value,Vals (ys.map fun y=>V.ref y.2) its→(s.heap.IsList a its.toArray∨s.heap.IsTuple a its.toArray)→wpAny (model X.prog X.w) X.A (call (.type "set") [.ref a]) (EP X pins σ Q) X.xe s:=by
  intro its rv hl
  have hlen : its.length = ys.length:=by have:=rv.length; rw [List.length_map] at this; exact this.symm
  have kfe : ∀ (i : Nat) (hi : i < ys.length),((ys[i]?).map (·.1)).getD default = ys[i].1:=fun i hi=>by rw [List.getElem?_eq_getElem hi]; rfl
  refine call_set (knd:=D.knd X.prog X.w) (kf:=fun i=>((ys[i]?).map (·.1)).getD default) (fun B hB=>D.room (by omega)) (I.ok.hd hc) hl (fun i v e=>?_) (by rw [List.size_toArray,hlen]; exact hz) fun h' tk ks hS hm hk=>?_
  ·have e' : its[i]? = some v:=by simpa using e
   have hi : i < ys.length:=by rw [← hlen]; exact (List.getElem?_eq_some_iff.mp e').1
   obtain ⟨u,hu1,hu2⟩:=rv.get (i:=i) (x:=V.ref ys[i].2) (by rw [List.getElem?_map,List.getElem?_eq_getElem hi]; rfl)
   rw [e'] at hu1
   cases hu1
   refine ⟨ys[i].2,hu2,?_⟩
   show (D.knd X.prog X.w).is s.heap (((ys[i]?).map (·.1)).getD default) ys[i].2
   rw [kfe i hi]
   exact D.key I.hok (hat _ (List.getElem_mem hi))
  ·have nd:=hS.nodup
   obtain ⟨o,es,ep,t,ho,hx,hd,en,_,T,_,_⟩:=hS
   have hl2 : ks.length = es.size:=by rw [en.length,Array.length_toList]
   have hmem : ∀ k,k∈ks↔k∈ys.map (·.1):=fun k=>by
    rw [hm k]
    constructor
    ·rintro ⟨j,hj,e⟩
     have hj' : j < ys.length:=by rw [List.size_toArray,hlen] at hj; exact hj
     have e' : ((ys[j]?).map (·.1)).getD default = k:=e
     rw [kfe j hj'] at e'
     exact List.mem_map.mpr ⟨_,List.getElem_mem hj',e'⟩
    ·intro hk
     obtain ⟨y,hy,rfl⟩:=List.mem_map.mp hk
     obtain ⟨j,hj,e⟩:=List.mem_iff_getElem.mp hy
     exact ⟨j,by rw [List.size_toArray,hlen]; exact hj,by show ((ys[j]?).map (·.1)).getD default = y.1; rw [kfe j hj,e]⟩
   exact ⟨.ref s.heap.objs.size,_,I.laid (t':=tk) (fun b u e=>hk b u (Heap.lt_size e) e) (Nat.le_refl _) (sz_ok (h:=h') ho hx hd (tab_fits T)),rfl,q _ _ (I.hok.fresh (Nat.le_refl _)) ⟨ks,nd,hmem,hl2.symm⟩⟩
 rcases hq with hq | hq
 ·obtain ⟨its,rv,pl,_⟩:=I.list hq
  exact go its rv (.inl pl.isList)
 ·obtain ⟨its,rv,pl,_⟩:=I.tuple hq
  exact go its rv (.inr pl)
theorem cr_len_sz : CallR X (.builtin "len") (fun vs H Q=>∃ a n,vs = [V.ref a]∧H a = some (SzO a n)∧n≤1000∧Q (.int n) H):=by
 intro pins s σ H vs us Q I r h
 obtain ⟨a,n,rfl,e,hn,q⟩:=h
 obtain ⟨u,rfl,ru⟩:=vals1 r
 cases ru
 obtain ⟨⟨o,es,ep,t,h1,h2,h3,h4,rfl⟩,_⟩:=(show ObjOk X.prog X.w H s.heap a (SzO a n) from I.hok a _ e)
 exact call_len_set h1 h2 h3 h4 (by omega) ⟨.int es.size,H,I.tok _,⟨_,rfl⟩,q⟩
end
section
variable {X : Cx}
def rInD (K : PySem.W.Frag) (neg : Bool) : R2:=fun x y H Q=>∃ d ds,Dp K H x d∧Dp K H y (.list ds)∧d.canLay0 = true∧d.depth≤8∧PyData.canLayAll0 ds = true∧Q (.bl (if neg then !(ds.any fun z=>PyData.eqv z d) else ds.any fun z=>PyData.eqv z d)) H
theorem op_inD (hu : X.A.units + 64 < cLine) : OpR X (compareOp .In) (rInD X.K false):=by
 intro pins s σ H x y v u Q I rx ry h
 obtain ⟨d,ds,hd,he,cd,dd,cs,q⟩:=h
 obtain ⟨as,r1⟩:=Dp.reads I d x v hd rx
 obtain ⟨bs,r2⟩:=Dp.reads I _ y u he ry
 have : min (PyData.depthAll ds) d.depth≤d.depth:=Nat.min_le_right _ _
 exact SeqAt.in_list_reads r2 r1 cs cd (by omega) ⟨.bl _,H,I,rfl,q⟩
theorem op_notInD (hu : X.A.units + 64 < cLine) : OpR X (compareOp .NotIn) (rInD X.K true):=by
 intro pins s σ H x y v u Q I rx ry h
 obtain ⟨d,ds,hd,he,cd,dd,cs,q⟩:=h
 obtain ⟨as,r1⟩:=Dp.reads I d x v hd rx
 obtain ⟨bs,r2⟩:=Dp.reads I _ y u he ry
 have : min (PyData.depthAll ds) d.depth≤d.depth:=Nat.min_le_right _ _
 exact SeqAt.notIn_list_reads r2 r1 cs cd (by omega) ⟨.bl _,H,I,rfl,q⟩
end
end L3
end
section
set_option maxRecDepth 100000
set_option maxHeartbeats 1000000
namespace KL
open PySem L2 L3 KS
section
variable {P : Program} {w : World} {A : Around}
theorem lam_turn {K : PySem.W.Frag} {q p dx C c' : Addr} {n : Value} {s0 : Shared} {mA : Str→Option Value} {qual x f : Str} {params : Arguments} {p1 p2 : Pos} {scope : Scope} {pm ctv : Value}
 (KX : K.In s0.heap) (hlim : s0.heap.NoLimit) (hd : A.depth < recursionLimit) (hq : s0.heap.get? q = some (PySem.W.kla_obj "<lambda>" qual params (.Attribute (.Name x p1) f p2) scope [] pm c' ctv)) (hc : s0.heap.CodeRec (.ref c') qual)
 (sk : scope.kind = .function) (sco : scope.isCoroutine = false) (sg : scope.isGenerator = false) (sx : scope.names.lookup x = some .local) (hdb : (x == ("__debug__" : Str)) = false)
 (hb : ∀ u : Value,bindArgs (PySem.W.kla_fn "<lambda>" qual params (.Attribute (.Name x p1) f p2) scope [] pm (.ref c') ctv) ⟨[u],[]⟩ = pure [(x,u)])
 (hab : ∀ env : Env,attributeBase (.Name x p1) f env (eval (.Name x p1) env) = eval (.Name x p1) env)
 (O : ObjM s0.heap p dx C mA) (c : Cls K C) (na : NoAttr K C f) (hm : mA f = some n) (hn : PySem.W.handedIn n = true) : Turn P w A (.ref q) s0 (.ref p) n:=by
 intro h tk kp
 have kns : ∀ {g : Heap},Kept s0.heap g→ObjM g p dx C mA:=fun {g} k=>⟨k _ _ O.obj,let ⟨o,es,ep,e,r⟩:=O.ns; ⟨o,es,ep,k _ _ e,r⟩,O.ne⟩
 refine wpAny_call (PySem.W.kla_callFunE hd (kp _ _ hq) rfl sco sg rfl (let ⟨c,o,vs,t,h1,h2,h3⟩:=hc; ⟨c,o,vs,t,h1,kp _ _ h2,h3⟩) ?_)
 rw [hb]
 refine wpAny_pure (wpAny_newFunctionEnv_cells sk (fun y hy=>.inl (by rw [List.mem_singleton.mp hy]; exact sx)) fun env he s1 x1=>?_)
 subst he
 obtain ⟨h1,tk1,rfl,hk⟩:=x1.done
 have k1 : Kept s0.heap h1:=fun b o e=>hk b o (kp b o e)
 refine ⟨hlim.keeps k1,PySem.W.kla_codeExpr (attr_of (hab _) (wpAny_Name (wpAny_loadName_local sk sx x1.toInCall.ns (v:=.ref p) ?_ ?_) hdb))⟩
 ·show bindL _ [(x,.ref p)] (fun _=>none) x = _
  exact bindL_get (P:=[x]) (vs:=[Value.ref p]) (i:=0) (by simp) rfl rfl sx
 ·exact get_map (KX.keeps k1) (kns k1) (c.get f) c.hd na hm hn ⟨rfl,h1,_,rfl,fun b o e=>hk b o e⟩
end
structure LamAt (X : Cx) (c P : Addr) : Prop where
 code : X.env.code = .ref c
 hd : PySem.W.CodeHd X.base c P
 blt : X.base.BuiltinsAt X.mg P
 ne : mainGlobals≠P
def AttrAt (C : Addr) (f : Str) (H : Hp) (k : List Int) (p : Addr) : Prop:=∃ dx fs a,H p = some (.ins C dx fs)∧fs.lookup f = some (.ref a)∧NmAt H k a
def SortedBy (zs : List (List Int × Addr)) : Prop:=zs.Pairwise fun p q=>PyProof.Rows.lexLt PyProof.Rows.itemOrd (inls q.1) (inls p.1) = false
def SKq (K : PySem.W.Frag) (P : Addr) (f : Str) (pos : Pos) (Q : VK) : V→Hp→Prop:=fun x H1=>∃ (l C : Addr) (ks : List (List Int)) (ps : List Addr) (tb : Array Value),x = .ref l∧H1 l = some (.lst (ps.map V.ref))∧Cls K C∧NoAttr K C f ∧
 Paired (AttrAt C f H1) ks ps∧(∀ k∈ks,k≠[])∧H1 P = some (.tbl tb)∧TriplesOk tb.toList∧codeAmong pos tb.toList = none ∧
 ∀ (H' : Hp) (D : Addr) (zs : List (List Int × Addr)) (v : Value),H1 D = none→H' D = some (.lst (zs.map fun z=>V.ref z.2))→(∀ b,b≠D→b≠P→H' b = H1 b)→H' P = some (.tbl (tb ++ #[rawInt pos.line,rawInt pos.col,v]))→zs.Perm (ks.zip ps)→SortedBy zs→Q (.ref D) H'
def tSK (K : PySem.W.Frag) (P : Addr) (f : Str) (pos : Pos) (te : TE) : TE:=fun σ H Q=>te σ H (SKq K P f pos Q)
theorem un_tbl {fs : List Addr} {H : Hp} {h h' : Heap} {P : Addr} {tb more : Array Value} (e : H P = some (.tbl tb)) (k : ∀ b u,b≠P→h.get? b = some u→h'.get? b = some u) (hp : ∃ u,h'.get? P = some u) : Un fs [] H (upd H P (.tbl (tb ++ more))) h h':=by
 have hn : ∀ b,H b = none→b≠P:=fun b n z=>by rw [z,e] at n; cases n
 have hm : ∀ b u,H b = some u→(∀ q,u≠.tbl q)→b≠P:=fun b u q nt z=>by rw [z,e] at q; cases q; exact nt _ rfl
 refine ⟨fun b u q n _ _=>k b u (hn b n) q,fun b u q n _ _=>⟨u.slots,k b u (hn b n) q⟩,fun b u q n _=>by rw [upd_ne (hn b n)]; exact n,fun b u q _=>?_,fun b xs q=>by rw [upd_ne (hm b _ q fun _ z=>by cases z)]; exact q,fun b u xs q=>by rw [upd_ne (hm b _ q fun _ z=>by cases z)]; exact q,fun b ps q=>?_⟩
 ·by_cases hb : b = P
  ·rw [hb]; exact hp
  ·exact ⟨u,k b u hb q⟩
 ·by_cases hb : b = P
  ·rw [hb] at q ⊢; rw [e] at q; cases q; exact ⟨more,upd_same⟩
  ·exact ⟨#[],by rw [upd_ne hb,q]; simp⟩
theorem hok_tbl {Pg : Program} {w : World} {H : Hp} {h h' : Heap} {P : Addr} {tb tb' : Array Value} (ok : HOk Pg w H h) (e : H P = some (.tbl tb)) (k : ∀ b u,b≠P→h.get? b = some u→h'.get? b = some u) (hp : h'.get? P = some { cls:=.none,data:=.fields tb' }) : HOk Pg w (upd H P (.tbl tb')) h':=fun b u q=>by
 have hm : ∀ b u,H b = some u→(∀ q,u≠.tbl q)→b≠P:=fun b u q nt z=>by rw [z,e] at q; cases q; exact nt _ rfl
 by_cases hb : b = P
 ·subst hb; rw [upd_same] at q; cases q; exact hp
 ·rw [upd_ne hb] at q
  refine (ok b u q).stay (fun c v hc r=>k c v ?_ r) (fun c r=>by rw [upd_ne (hm c _ r fun _ z=>by cases z)]; exact r) fun c xs r=>by rw [upd_ne (hm c _ r fun _ z=>by cases z)]; exact r
  rcases hc with rfl | hc
  ·exact hb
  ·exact hm c _ hc fun _ z=>by cases z
section
variable {P : Program} {w : World} {H : Hp} {h : Heap}
theorem attr_split {C : Addr} {f : Str} : ∀ {ks : List (List Int)} {ps : List Addr},Paired (AttrAt C f H) ks ps→∃ as : List Addr,Paired (NmAt H) ks as∧Paired (fun (a p : Addr)=>∃ dx fs,H p = some (.ins C dx fs)∧fs.lookup f = some (.ref a)) as ps
 | _,_,.nil=>⟨[],.nil,.nil⟩
 | _,_,.cons r t=>by
  obtain ⟨as,h1,h2⟩:=attr_split t
  obtain ⟨dx,fs,a,q1,q2,q3⟩:=r
  exact ⟨a :: as,.cons q3 h1,.cons ⟨dx,fs,q1,q2⟩ h2⟩
theorem items_key : ∀ {k : List Int} {us : List Value} {i : Nat},Vals (k.map V.int) us→PyProof.Rows.tupItems ish i us = some (inls k)
 | [],_,_,r=>by rw [List.map_nil] at r; cases r; rfl
 | x :: k,_,i,r=>by
  rw [List.map_cons] at r
  cases r with
  | cons r1 r2 =>
   obtain ⟨t,rfl⟩:=(show ∃ t,_ = Value.int x t from r1)
   have ih:=items_key (i:=i + 1) r2
   show PyProof.Rows.tupItems ish i (Value.int x t :: _) = _
   unfold PyProof.Rows.tupItems
   simp [ih,inls]
theorem nm_key (ok : HOk P w H h) {k : List Int} {a : Addr} (e : NmAt H k a) : PyProof.Rows.G.tupKeyC h ish (.ref a) = some (inls k):=by
 obtain ⟨_,its,r,o,h1,h2,n,h3⟩:=(show ObjOk P w H h a (.tup (k.map V.int)) from ok a _ e)
 unfold PyProof.Rows.G.tupKeyC PyProof.Rows.G.isTupObj PyProof.Rows.tupKey
 simp only [h1,h2,h3]
 simpa using items_key r
theorem nm_tups (ok : HOk P w H h) : ∀ {ks : List (List Int)} {as : List Addr},Paired (NmAt H) ks as→(∀ k∈ks,k≠[])→∃ fs,PyProof.Rows.TupsOf h ish (as.map Value.ref) fs
 | _,_,.nil,_=>⟨[],.nil⟩
 | k :: _,a :: _,.cons r t,hn=>by
  obtain ⟨fs,ih⟩:=nm_tups ok t fun k hk=>hn k (List.mem_cons_of_mem _ hk)
  obtain ⟨_,its,r',o,h1,h2,n,h3⟩:=(show ObjOk P w H h a (.tup (k.map V.int)) from ok a _ r)
  cases k with
  | nil=>exact absurd rfl (hn [] List.mem_cons_self)
  | cons x k =>
   rw [List.map_cons] at r'
   cases r' with
   | cons r1 r2 =>
    obtain ⟨t',rfl⟩:=(show ∃ t,_ = Value.int x t from r1)
    exact ⟨Value.int x t' :: fs,.cons ⟨a,o,_,n,rfl,h1,h2,h3,rfl,fun _=>⟨x,t',rfl⟩,fun z=>by cases z⟩ ih⟩
theorem Paired.getR {α β : Type} {R : α→β→Prop} : ∀ {xs : List α} {ys : List β},Paired R xs ys→∀ {i : Nat} {x : α} {y : β},xs[i]? = some x→ys[i]? = some y→R x y
 | _,_,.nil,_,_,_,e,_=>by simp at e
 | _,_,.cons r t,0,_,_,e,e'=>by simp at e e'; subst e e'; exact r
 | _,_,.cons r t,i + 1,_,_,e,e'=>Paired.getR t (by simpa using e) (by simpa using e')
theorem Paired.lenR {α β : Type} {R : α→β→Prop} : ∀ {xs : List α} {ys : List β},Paired R xs ys→xs.length = ys.length
 | _,_,.nil=>rfl
 | _,_,.cons _ t=>by rw [List.length_cons,List.length_cons,Paired.lenR t]
theorem vals_ref_eq : ∀ {ps : List Addr} {us : List Value},Vals (ps.map V.ref) us→us = ps.map Value.ref
 | [],_,r=>by rw [List.map_nil] at r; cases r; rfl
 | p :: ps,_,r=>by
  rw [List.map_cons] at r
  cases r with
  | cons r1 r2 =>
   cases r1
   rw [vals_ref_eq r2]; rfl
theorem vals_of_refs : ∀ ps : List Addr,Vals (ps.map V.ref) (ps.map Value.ref)
 | []=>.nil
 | p :: ps=>.cons rfl (vals_of_refs ps)
def addrOf : Value→Addr
 | .ref a=>a
 | _=>0
theorem refs_back {ks : List (List Int)} {ps : List Addr} {zs : List (List Int × Value)} (hp : zs.Perm (ks.zip (ps.map Value.ref))) : ∃ ys : List (List Int × Addr),ys.Perm (ks.zip ps)∧zs = ys.map fun y=>(y.1,Value.ref y.2):=by
 refine ⟨zs.map fun z=>(z.1,addrOf z.2),?_,?_⟩
 ·have e : ks.zip ps = (ks.zip (ps.map Value.ref)).map fun z=>(z.1,addrOf z.2):=by
   rw [List.zip_map_right,List.map_map]
   exact (List.map_id _).symm
  rw [e]
  exact hp.map _
 ·rw [List.map_map]
  refine (List.map_id zs).symm.trans (List.map_congr_left fun z hz=>?_)
  have hz':=hp.mem_iff.mp hz
  rw [List.zip_map_right] at hz'
  obtain ⟨y,_,rfl⟩:=List.mem_map.mp hz'
  rfl
end
section
variable {X : Cx}
theorem pe_sortedK {c P : Addr} {e : Expr} {te : TE} {x f : Str} {params : Arguments} {p1 p2 p3 pos pn kpos : Pos} {scope : Scope} (L : LamAt X c P) (hu : X.A.depth + 1 < recursionLimit) (hg : Gl X "sorted") (hm : X.mg "sorted" = none) (he : PE X e te)
 (sk : scope.kind = .function) (sco : scope.isCoroutine = false) (sg : scope.isGenerator = false) (sx : scope.names.lookup x = some .local) (hcl : closureFor scope X.env = pure []) (hdf : defaultsOf params X.env = ([],[])) (hdb : (x == ("__debug__" : Str)) = false)
 (hb : ∀ (qual : Str) (pm cdv ctv u : Value),bindArgs (PySem.W.kla_fn "<lambda>" qual params (.Attribute (.Name x p1) f p2) scope [] pm cdv ctv) ⟨[u],[]⟩ = pure [(x,u)])
 (hab : ∀ env : Env,attributeBase (.Name x p1) f env (eval (.Name x p1) env) = eval (.Name x p1) env)
 (hst : starEach [e] X.env = [(false,eval e X.env)]) :
 PE X (.Call (.Name "sorted" pn) [e] [⟨some "key",.Lambda params (.Attribute (.Name x p1) f p2) scope p3,kpos⟩] pos) (tSK X.K P f p3 te):=by
 intro pins s σ H Q I h
 refine wpAny_Call_Name_kw (ld_blt I hg hm PyProof.Rows.boot_sorted ?_)
 refine PyProof.Rows.callWith_builtin_kwB (by rw [hst]; rfl) rfl (PyProof.Rows.evalArgs_kw2 rfl (thn (pa_cons (t:=tNil) he pa_nil hst pos pins s σ H (fun vs H1=>∃ x,vs = [x]∧SKq X.K P f p3 Q x H1) I ?_) fun us s1 ⟨vs,H1,I1,r,x',ex,l,C,ks,ps,tb,ex2,hl,cC,nC,pa,kn,hP,tok,cam,q⟩=>?_) hst)
 ·refine (show tCons te tNil σ H _ from ?_)
  have h' : te σ H (SKq X.K P f p3 Q):=h
  show te σ H fun x H1=>_
  have e1 : (fun (x : V) (H1 : Hp)=>tNil σ H1 fun xs H2=>∃ y,x :: xs = [y]∧SKq X.K P f p3 Q y H2) = SKq X.K P f p3 Q:=by
   funext y H1
   show (∃ z,[y] = [z]∧SKq X.K P f p3 Q z H1) = _
   exact propext ⟨fun ⟨z,e,q⟩=>by cases e; exact q,fun q=>⟨y,rfl,q⟩⟩
  rw [e1]; exact h'
 ·subst ex ex2
  obtain ⟨u,rfl,ru⟩:=vals1 r
  obtain rfl : u = Value.ref l:=ru
  show wpAny _ _ (evalAll [do let v ← eval (.Lambda params (.Attribute (.Name x p1) f p2) scope p3) X.env; standAt pos; pure v]) _ _ s1
  have kp0 : ∀ b o,X.base.get? b = some o→s1.heap.get? b = some o:=I1.bk
  have hns : s1.heap.Ns mainGlobals X.mg:=by
   obtain ⟨o,es,ep,ho,rr⟩:=I1.mod.glob
   exact ⟨o,es,ep,kp0 _ _ ho,rr⟩
  have hbl : s1.heap.BuiltinsAt X.mg P:=by
   obtain ⟨bm,o,b1,b2,b3,b4,b5,b6⟩:=L.blt
   exact ⟨bm,o,b1,b2,b3,b4,kp0 _ _ b5,b6⟩
  have htab : s1.heap.get? P = some (PySem.W.tabObj tb):=I1.hok P _ hP
  refine wpAny_evalAll_cons (wpAny_bind (PySem.W.kla_eval hdf (PySem.W.kla_makeFunction (P:=P) hcl I1.ok.glob hns L.code (L.hd.keeps kp0) htab tok cam L.ne hbl fun c' ctv h' tk ext hge hlt hrec hP'=>?_)))
  refine wpAny_bind (wpAny_standAt (wpAny_pure (wpAny_evalAll_nil ?_)))
  show wpAny (model X.prog X.w) X.A (call (.builtin "sorted") [.ref l] [("key",.ref h'.objs.size)]) (EP X pins σ Q) X.xe _
  generalize hob : PySem.W.kla_obj "<lambda>" (X.env.qual ++ Str.ofString "<lambda>") params (.Attribute (.Name x p1) f p2) scope [] ((X.mg (Str.ofString "__name__")).getD Value.none) c' ctv = ob
  have hob' : PySem.W.kla_obj (Str.ofString "<lambda>") (X.env.qual ++ Str.ofString "<lambda>") params (.Attribute (.Name x p1) f p2) scope [] ((X.mg (Str.ofString "__name__")).getD Value.none) c' ctv = ob:=hob
  try rw [hob']
  have hk : ∀ b u,b≠P→s1.heap.get? b = some u→(h'.push ob).get? b = some u:=fun b u hb e=>Heap.get?_push_of_some _ (ext b u hb e)
  have hP2 : (h'.push ob).get? P = some { cls:=.none,data:=.fields (tb ++ #[rawInt p3.line,rawInt p3.col,.ref c']) }:=Heap.get?_push_of_some _ hP'
  have I2 : Inv X pins σ (upd H1 P (.tbl (tb ++ #[rawInt p3.line,rawInt p3.col,.ref c']))) { s1 with heap:=h'.push ob,toks:=tk } :=
   I1.un (h':=h'.push ob) (t':=tk) (un_tbl hP hk ⟨_,hP2⟩) (hok_tbl I1.hok hP hk hP2)
  generalize hH2 : upd H1 P (.tbl (tb ++ #[rawInt p3.line,rawInt p3.col,.ref c'])) = H2 at I2
  have hne : ∀ b u,H1 b = some u→(∀ z,u≠.tbl z)→H2 b = some u:=fun b u e nt=>by
   rw [← hH2,upd_ne (fun z=>by rw [z,hP] at e; cases e; exact nt _ rfl)]; exact e
  have tu : Tups H1 H2:=fun b xs e=>hne b _ e fun _ z=>by cases z
  have hl2 : H2 l = some (.lst (ps.map V.ref)):=hne l _ hl fun _ z=>by cases z
  obtain ⟨as,pn,po⟩:=attr_split pa
  have pn2 : Paired (NmAt H2) ks as:=Paired.mapP pn fun k a e=>e.mono tu
  have po2 : Paired (fun (a p : Addr)=>∃ dx fs,H2 p = some (.ins C dx fs)∧fs.lookup f = some (.ref a)) as ps:=Paired.mapP po fun a p ⟨dx,fs,e1,e2⟩=>⟨dx,fs,hne p _ e1 (fun _ z=>by cases z),e2⟩
  obtain ⟨its,rv,hpl,hsz⟩:=I2.list (SqL.of hl2)
  obtain rfl:=vals_ref_eq rv
  obtain ⟨fs,htu⟩:=nm_tups I2.hok pn2 kn
  have lk : ks.length = as.length:=Paired.lenR pn2
  have lp : as.length = ps.length:=Paired.lenR po2
  have hq : (h'.push ob).get? h'.objs.size = some ob:=Heap.get?_push_size _ (by rw [← hob]; rfl)
  have hrc : (h'.push ob).CodeRec (.ref c') (X.env.qual ++ Str.ofString "<lambda>"):=let ⟨c,o,vs,t,h1,h2,h3⟩:=hrec; ⟨c,o,vs,t,h1,Heap.get?_push_of_some _ h2,h3⟩
  refine sortedK (ns:=as.map Value.ref) (fs:=fs) hpl.isList (by rw [List.length_map] at hsz ⊢; exact hsz) (by rw [List.length_map,List.length_map]; exact lp) (by ksk_a1) (fun y=>by ksk_a2) htu (fun v hv=>?_) (fun i v n hv hn=>?_) fun arr D h3 tk3 c3 k3 hD hg3 ho=>?_
  ·obtain ⟨a,ha,rfl⟩:=List.mem_map.mp hv
   obtain ⟨i,hi,e⟩:=List.mem_iff_getElem.mp ha
   exact ⟨_,nm_key I2.hok (Paired.getR pn2 (i:=i) (List.getElem?_eq_getElem (by omega)) (by rw [List.getElem?_eq_getElem hi,e]))⟩
  ·rw [List.getElem?_map] at hv hn
   obtain ⟨p,hp,rfl⟩:=Option.map_eq_some_iff.mp hv
   obtain ⟨a,ha,rfl⟩:=Option.map_eq_some_iff.mp hn
   obtain ⟨dx,fs',e1,e2⟩:=Paired.getR po2 ha hp
   obtain ⟨mA,O,rr,_,_,_⟩:=ins_get I2.hok e1
   obtain ⟨u,hu',ru⟩:=RelO.some_of (v:=V.ref a) (o:=mA f) (by rw [← e2]; exact rr f)
   cases ru
   exact lam_turn (K:=X.K) (C:=C) (mA:=mA) I2.kIn I2.nolimit (Nat.lt_of_succ_lt hu) (hq.trans (by rw [hob])) hrc sk sco sg sx hdb (hb _ _ _ _) hab O cC nC hu' rfl
  ·obtain ⟨g,kg,ho⟩:=ho
   obtain ⟨zs,z1,z2,z3⟩:=out_pure (h:=h'.push ob) (kl:=ks) (by rw [List.length_map,List.length_map]; exact lp) kg (fun i v k hv hk'=>by
    rw [List.getElem?_map] at hv
    obtain ⟨a,ha,rfl⟩:=Option.map_eq_some_iff.mp hv
    exact nm_key I2.hok (Paired.getR pn2 hk' ha)) (by rw [List.length_map]; exact lk) ho
   obtain ⟨ys,y1,rfl⟩:=refs_back z1
   have eo : (arr.map (·.2)).toList = (ys.map (·.2)).map Value.ref:=by rw [z2,List.map_map,List.map_map]; rfl
   have hlen : ys.length≤sizeLine:=by
    rw [y1.length_eq,List.length_zip]
    rw [List.length_map] at hsz
    exact Nat.le_trans (Nat.min_le_right _ _) hsz
   have hfr : H2 D = none:=I2.hok.fresh hD
   refine ⟨.ref D,_,I2.laid (a:=D) (o:=.lst (ys.map fun z=>V.ref z.2)) (h':=h3) (t':=tk3) k3 hD ⟨by rw [List.length_map]; exact hlen,(ys.map (·.2)).map Value.ref,c3,?_,?_⟩,rfl,q _ D ys (.ref c') ?_ upd_same ?_ ?_ y1 ?_⟩
   ·have:=vals_of_refs (ys.map (·.2)); rw [List.map_map] at this; exact this
   ·rw [hg3,← eo,Array.toArray_toList]
   ·have nP : D≠P:=fun z=>by rw [z,← hH2,upd_same] at hfr; cases hfr
    rw [← hH2,upd_ne nP] at hfr; exact hfr
   ·intro b b1 b2
    rw [upd_ne b1,← hH2,upd_ne b2]
   ·have nP : P≠D:=fun z=>by rw [← z,← hH2,upd_same] at hfr; cases hfr
    rw [upd_ne nP,← hH2,upd_same]
   ·have:=List.pairwise_map.mp z3
    exact this
end
end KL
end
section
set_option maxRecDepth 100000
set_option maxHeartbeats 1000000
namespace L3
open PySem L2 NK SK
def valK {K : Type} [DecidableEq K] (kvs : List (K × V)) (k : K) : Option V:=(kvs.find? fun x=>decide (x.1 = k)).map (·.2)
def putVK {K : Type} [DecidableEq K] (kvs : List (K × V)) (k : K) (v : V) : List (K × V):=if (valK kvs k).isSome = true then kvs.map fun x=>if x.1 = k then (x.1,v) else x else kvs ++ [(k,v)]
theorem valK_cons {K : Type} [DecidableEq K] (x : K × V) (kvs : List (K × V)) (k : K) : valK (x :: kvs) k = if x.1 = k then some x.2 else valK kvs k:=by
 unfold valK
 rw [List.find?_cons]
 by_cases e : x.1 = k
 ·simp [e]
 ·simp [e]
theorem valK_map {K : Type} [DecidableEq K] {k k' : K} {v : V} : ∀ kvs : List (K × V),valK (kvs.map fun x=>if x.1 = k then (x.1,v) else x) k' = if k' = k then (valK kvs k).map (fun _=>v) else valK kvs k'
 | []=>by simp [valK]
 | x :: kvs=>by
  have ih:=valK_map (k:=k) (k':=k') (v:=v) kvs
  rw [List.map_cons,valK_cons,valK_cons,valK_cons,ih]
  by_cases e : x.1 = k
  ·rw [if_pos e]
   by_cases e2 : k' = k
   ·simp [e,e2]
   ·have e3 : ¬ k = k':=fun z=>e2 z.symm
    simp [e,e2,e3]
  ·rw [if_neg e]
   by_cases e2 : k' = k
   ·subst e2; simp [e]
   ·simp [e,e2]
theorem valK_snoc {K : Type} [DecidableEq K] {k k' : K} {v : V} : ∀ kvs : List (K × V),valK (kvs ++ [(k,v)]) k' = if (valK kvs k').isSome = true then valK kvs k' else if k' = k then some v else none
 | []=>by
  rw [List.nil_append,valK_cons]
  by_cases e : k = k'
  ·simp [e,valK]
  ·have e2 : ¬ k' = k:=fun z=>e z.symm
   simp [e,e2,valK]
 | x :: kvs=>by
  rw [List.cons_append,valK_cons,valK_cons,valK_snoc kvs]
  by_cases e : x.1 = k'
  ·simp [e]
  ·simp [e]
theorem valK_put {K : Type} [DecidableEq K] {kvs : List (K × V)} {k k' : K} {v : V} : valK (putVK kvs k v) k' = if k' = k then some v else valK kvs k':=by
 unfold putVK
 by_cases h : (valK kvs k).isSome = true
 ·rw [if_pos h,valK_map]
  by_cases e : k' = k
  ·rw [if_pos e,if_pos e]
   obtain ⟨z,hz⟩:=Option.isSome_iff_exists.mp h
   rw [hz]; rfl
  ·rw [if_neg e,if_neg e]
 ·rw [if_neg h,valK_snoc]
  by_cases e : k' = k
  ·subst e
   rw [if_neg h,if_pos rfl,if_pos rfl]
  ·rw [if_neg e,if_neg e]
   by_cases q : (valK kvs k').isSome = true
   ·rw [if_pos q]
   ·rw [if_neg q]
    cases z : valK kvs k' with
    | none=>rfl
    | some y=>rw [z] at q; simp at q
theorem putVK_len {K : Type} [DecidableEq K] {kvs : List (K × V)} {k : K} {v : V} : (putVK kvs k v).length≤kvs.length + 1:=by
 unfold putVK
 split
 ·rw [List.length_map]; omega
 ·rw [List.length_append,List.length_singleton]; omega
def VRel {K : Type} (p : K × Addr × V) (q : K × Addr × Value) : Prop:=p.1 = q.1∧p.2.1 = q.2.1∧RelV p.2.2 q.2.2
section
variable {K : Type} [DecidableEq K] (D : KD K) (P : Program) (w : World)
def VO (a : Addr) (xs : List (K × Addr × V)) : HO:=.ext fun h=>∃ ys : List (K × Addr × Value),Paired VRel xs ys∧∃ o es ep,h.get? a = some o∧o.ExactDict∧o.data = .dict es ep∧es.toList = ys.map (entryOfKey (D.knd P w).toHeapKind)∧(ys.map (·.1)).Nodup
def VAt (H : Hp) (a : Addr) (kvs : List (K × V)) : Prop:=∃ xs : List (K × Addr × V),xs.map (fun x=>(x.1,x.2.2)) = kvs∧H a = some (VO D P w a xs)∧(∀ x∈xs,D.at_ H x.1 x.2.1)∧xs.length≤sizeLine∧(a == sysModules) = false
variable {D P w}
theorem vrel_at {H : Hp} : ∀ {xs : List (K × Addr × V)} {ys : List (K × Addr × Value)},Paired VRel xs ys→(∀ x∈xs,D.at_ H x.1 x.2.1)→∀ y∈ys,D.at_ H y.1 y.2.1
 | _,_,.nil,_,y,hy=>by cases hy
 | _,_,.cons r t,h,y,hy=>by
  rcases List.mem_cons.mp hy with e | hy
  ·subst e
   have:=h _ List.mem_cons_self
   rw [r.1,r.2.1] at this; exact this
  ·exact vrel_at t (fun x hx=>h x (List.mem_cons_of_mem _ hx)) y hy
theorem VAt.dict {H : Hp} {h : Heap} {a : Addr} {xs : List (K × Addr × V)} (ok : HOk P w H h) (e : H a = some (VO D P w a xs)) (hk : ∀ x∈xs,D.at_ H x.1 x.2.1) : ∃ ys,Paired VRel xs ys∧h.DictOfH (D.knd P w).toHeapKind a ys:=by
 obtain ⟨⟨ys,hp,o,es,ep,h1,h2,h3,h4,h5⟩,_⟩:=(show ObjOk P w H h a (VO D P w a xs) from ok a _ e)
 exact ⟨ys,hp,o,es,ep,h1,h2,h3,h4,fun y hy=>D.key ok (vrel_at hp hk y hy),h5⟩
theorem VO_ok {H : Hp} {h : Heap} {a : Addr} {xs : List (K × Addr × V)} {ys : List (K × Addr × Value)} (hp : Paired VRel xs ys) (d : h.DictOfH (D.knd P w).toHeapKind a ys) : ObjOk P w H h a (VO D P w a xs):=by
 obtain ⟨o,es,ep,h1,h2,h3,h4,_,h5⟩:=d
 refine ⟨⟨ys,hp,o,es,ep,h1,h2,h3,h4,h5⟩,⟨o,h1⟩,?_⟩
 rintro g1 g2 ⟨ys',hp',o',es',ep',q1,q2⟩ hk
 exact ⟨ys',hp',o',es',ep',hk o' q1,q2⟩
theorem rel_val {k : K} : ∀ {xs : List (K × Addr × V)} {ys : List (K × Addr × Value)},Paired VRel xs ys→RelO (valK (xs.map fun x=>(x.1,x.2.2)) k) ((atKey ys k).map (·.2))
 | _,_,.nil=>True.intro
 | x :: _,y :: _,.cons r t=>by
  have ih:=rel_val (k:=k) t
  unfold valK atKey at ih ⊢
  rw [List.map_cons,List.find?_cons,List.find?_cons,← r.1]
  by_cases e : x.1 = k
  ·simp only [e,decide_true]
   exact r.2.2
  ·simp only [e,decide_false]
   exact ih
theorem rel_some {k : K} {xs : List (K × Addr × V)} {ys : List (K × Addr × Value)} (hp : Paired VRel xs ys) : (atKey ys k).isSome = (valK (xs.map fun x=>(x.1,x.2.2)) k).isSome:=by
 have:=rel_val (k:=k) hp
 cases e : valK (xs.map fun x=>(x.1,x.2.2)) k with
 | none =>
  rw [e] at this
  cases e2 : atKey ys k with
  | none=>rfl
  | some z=>rw [e2] at this; exact (show False from this).elim
 | some v =>
  rw [e] at this
  cases e2 : atKey ys k with
  | none=>rw [e2] at this; exact (show False from this).elim
  | some z=>rfl
def putX (xs : List (K × Addr × V)) (k : K) (a : Addr) (v : V) : List (K × Addr × V):=if (valK (xs.map fun x=>(x.1,x.2.2)) k).isSome = true then xs.map fun x=>if x.1 = k then (x.1,x.2.1,v) else x else xs ++ [(k,a,v)]
theorem putX_kvs {xs : List (K × Addr × V)} {k : K} {a : Addr} {v : V} : (putX xs k a v).map (fun x=>(x.1,x.2.2)) = putVK (xs.map fun x=>(x.1,x.2.2)) k v:=by
 unfold putX putVK
 split
 ·rw [List.map_map,List.map_map]
  refine List.map_congr_left fun x _=>?_
  show _ = if x.1 = k then (x.1,v) else (x.1,x.2.2)
  show ((fun x : K × Addr × V=>(x.1,x.2.2)) (if x.1 = k then (x.1,x.2.1,v) else x)) = _
  split <;> rfl
 ·rw [List.map_append]; rfl
theorem put_rel1 {k : K} {v : V} {u : Value} (r : RelV v u) : ∀ {xs : List (K × Addr × V)} {ys : List (K × Addr × Value)},Paired VRel xs ys→Paired VRel (xs.map fun x=>if x.1 = k then (x.1,x.2.1,v) else x) (ys.map (putAt k u))
 | _,_,.nil=>.nil
 | x :: _,y :: _,.cons h t=>by
  refine .cons ?_ (put_rel1 r t)
  show VRel (if x.1 = k then (x.1,x.2.1,v) else x) (if y.1 = k then (y.1,y.2.1,u) else y)
  by_cases e : x.1 = k
  ·rw [if_pos e,if_pos (h.1 ▸ e)]
   exact ⟨h.1,h.2.1,r⟩
  ·rw [if_neg e,if_neg (fun z=>e (h.1.trans z))]
   exact h
theorem put_rel2 {k : K} {a : Addr} {v : V} {u : Value} (r : RelV v u) : ∀ {xs : List (K × Addr × V)} {ys : List (K × Addr × Value)},Paired VRel xs ys→Paired VRel (xs ++ [(k,a,v)]) (ys ++ [(k,a,u)])
 | _,_,.nil=>.cons ⟨rfl,rfl,r⟩ .nil
 | _,_,.cons h t=>.cons h (put_rel2 r t)
theorem vrel_len : ∀ {xs : List (K × Addr × V)} {ys : List (K × Addr × Value)},Paired VRel xs ys→xs.length = ys.length
 | _,_,.nil=>rfl
 | _,_,.cons _ t=>by rw [List.length_cons,List.length_cons,vrel_len t]
theorem putX_rel {k : K} {a : Addr} {v : V} {u : Value} (r : RelV v u) {xs : List (K × Addr × V)} {ys : List (K × Addr × Value)} (hp : Paired VRel xs ys) : Paired VRel (putX xs k a v) (storedH ys k a u):=by
 unfold putX storedH
 rw [rel_some hp]
 split
 ·exact put_rel1 r hp
 ·exact put_rel2 r hp
theorem putX_mem {xs : List (K × Addr × V)} {k : K} {a : Addr} {v : V} {H : Hp} (h : ∀ x∈xs,D.at_ H x.1 x.2.1) (hk : D.at_ H k a) : ∀ x∈putX xs k a v,D.at_ H x.1 x.2.1:=by
 intro x hx
 unfold putX at hx
 split at hx
 ·obtain ⟨y,hy,rfl⟩:=List.mem_map.mp hx
  by_cases e : y.1 = k
  ·rw [if_pos e]; exact h y hy
  ·rw [if_neg e]; exact h y hy
 ·rcases List.mem_append.mp hx with hx | hx
  ·exact h x hx
  ·rw [List.mem_singleton.mp hx]; exact hk
theorem putX_len {xs : List (K × Addr × V)} {k : K} {a : Addr} {v : V} : (putX xs k a v).length≤xs.length + 1:=by
 unfold putX
 split
 ·rw [List.length_map]; omega
 ·rw [List.length_append,List.length_singleton]; omega
end
section
variable {X : Cx} {K : Type} [DecidableEq K] (D : KD K)
def tVN : TE:=fun _ H Q=>∀ p H',H p = none→VAt D X.prog X.w H' p []→(∀ c,c≠p→H' c = H c)→Q (.ref p) H'
theorem pe_vn {pos : Pos} : PE X (.Dict [] [] pos) (tVN (X:=X) D):=fun pins s σ H Q I h=>by
 have hn:=I.hok.fresh (Nat.le_refl s.heap.objs.size)
 have new : ObjOk X.prog X.w (upd H s.heap.objs.size (VO D X.prog X.w s.heap.objs.size [])) (s.heap.push { cls:=.type "dict",data:=.dict #[] }) s.heap.objs.size (VO D X.prog X.w s.heap.objs.size []):=VO_ok .nil (Heap.DictOfH.new s.heap)
 refine wpAny_Dict_empty ⟨.ref s.heap.objs.size,_,I.laid (a:=s.heap.objs.size) (o:=VO D X.prog X.w s.heap.objs.size []) (t':=s.toks) (fun _ _ q=>Heap.get?_push_of_some _ q) (Nat.le_refl _) new,rfl,h _ _ hn ⟨[],rfl,upd_same,(fun x hx=>by cases hx),Nat.zero_le _,beq_eq_false_iff_ne.mpr (Ne.symm (Nat.ne_of_lt I.big))⟩ fun c hc=>upd_ne hc⟩
def sVPut (td ty tv : TE) : TS:=fun E σ H=>tv σ H fun v H1=>td σ H1 fun x H2=>ty σ H2 fun y H3=>∃ a c kvs k,x = .ref a∧y = .ref c∧VAt D X.prog X.w H3 a kvs∧D.at_ H3 k c∧kvs.length < sizeLine ∧
 ∀ H4,VAt D X.prog X.w H4 a (putVK kvs k v)→(∀ e,e≠a→H4 e = H3 e)→E.nx σ H4
variable {D}
theorem ps_vput {o i value : Expr} {pos pos' : Pos} {td ty tv : TE} (hu : X.A.units + 3 < cLine) (ho : PE X o td) (hi : PE X i ty) (hv : PE X value tv) (hs : swapsWith value (some (.Subscript o i pos')) pos.line X.env = pure false) :
 PS X (.Assign [.Subscript o i pos'] value pos) (sVPut (X:=X) D td ty tv):=by
 intro pins s σ H E I h
 refine wpAny_Assign_Subscript (thn (hv pins s σ H _ I h) fun r s1 ⟨v,H1,I1,rv,q1⟩=>thn (ho pins s1 σ H1 _ I1 q1) fun u s2 ⟨x,H2,I2,rx,q2⟩=>thn (hi pins s2 σ H2 _ I2 q2) fun iv s3 ⟨y,H3,I3,ry,a,c,kvs,k,ex,ey,hd,hk,hl,q3⟩=>?_) hs
 subst ex ey
 obtain rfl : u = Value.ref a:=rx
 obtain rfl : iv = Value.ref c:=ry
 obtain ⟨xs,rfl,e,hxs,hz,hsm⟩:=hd
 rw [List.length_map] at hl
 obtain ⟨ys,hp,dd⟩:=VAt.dict I3.hok e hxs
 have hz' : ys.length≤sizeLine:=by rw [← vrel_len hp]; exact hz
 refine wpAny_setItem_heap (hsz:=hz') (D.room (by show X.A.units + 1 + 1 < cLine; omega)) (D.key I3.hok hk) dd fun h' dd' sb=>?_
 have new : ObjOk X.prog X.w (upd H3 a (VO D X.prog X.w a (putX xs k c v))) h' a (VO D X.prog X.w a (putX xs k c v)):=VO_ok (putX_rel rv hp) dd'
 have tu : Tups H3 (upd H3 a (VO D X.prog X.w a (putX xs k c v))):=tups_upd e (fun _ z=>by cases z)
 have I4:=I3.write (x:=a) (e:=a) (t':=s3.toks + (D.knd X.prog X.w).draws k) (by rw [e]; exact True.intro) (.inl rfl) (fun b q hb z=>(sb.2 b hb).trans z) (let ⟨o',_,_,ho',_⟩:=dd'; ⟨o',ho'⟩) new
 refine ⟨σ,_,I4,q3 _ ⟨putX xs k c v,putX_kvs,upd_same,fun z hz2=>D.mono tu (putX_mem hxs hk z hz2),?_,hsm⟩ fun b hb=>upd_ne hb⟩
 have:=putX_len (xs:=xs) (k:=k) (a:=c) (v:=v)
 omega
def tVGet2 (td ty tx : TE) : TE:=fun σ H Q=>td σ H fun x H1=>∃ a kvs,x = .ref a∧VAt D X.prog X.w H1 a kvs∧ty σ H1 fun y H2=>tx σ H2 fun z H3=>∃ c kvs k,y = .ref c∧VAt D X.prog X.w H3 a kvs∧D.at_ H3 k c∧Q ((valK kvs k).getD z) H3
theorem pe_vget2 {o e f : Expr} {apos cpos : Pos} {td ty tx : TE} (hu : X.A.units + 3 < cLine) (ho : PE X o td) (he : PE X e ty) (hf : PE X f tx) (m : M2 X o "get" apos e f cpos) : PE X (.Call (.Attribute o "get" apos) [e,f] [] cpos) (tVGet2 (X:=X) (D:=D) td ty tx):=by
 intro pins s σ H Q I h
 refine wpAny_Call_method m.base m.few m.line PySem.F.plainAttrs_dict PySem.F.slot_dict_get PySem.F.type_dict_get (thn (ho pins s σ H _ I h) fun u s1 ⟨x,H1,I1,rx,a,kvs,ex,⟨xs,_,e1,hxs,_⟩,q1⟩=>?_)
 subst ex
 obtain rfl : u = Value.ref a:=rx
 obtain ⟨ys,hp,ob,es,ep,h1,h2,_⟩:=VAt.dict I1.hok e1 hxs
 refine ⟨⟨ob,h1,h2.1⟩,fun b q=>?_,?_⟩
 ·cases q
  exact ⟨ob,h1,h2.2.1⟩
 rw [m.trees]
 refine Calls.callWith_builtin rfl (Calls.evalArgs_plain (Calls.spliced_cons (thn (he pins s1 σ H1 _ I1 q1) fun iv s2 ⟨y,H2,I2,ry,q2⟩ =>
  Calls.spliced_cons (thn (hf pins s2 σ H2 _ I2 q2) fun fv s3 ⟨z,H3,I3,rz,c,kvs3,k,ey,⟨xs3,e3,f3,hxs3,_,hsm⟩,hk,q3⟩=>Calls.spliced_nil ?_))))
 subst ey e3
 obtain rfl : iv = Value.ref c:=ry
 obtain ⟨ys3,hp3,dd⟩:=VAt.dict I3.hok f3 hxs3
 refine call_meetsIn PySem.F.slot_dict_get dd.typeIs PySem.F.entry_dict_get (PySem.F.args_dict_get_3 _ _ _) (meetsH_dict_get_default (D.knd X.prog X.w).toHeapKind a c hsm fv) ⟨D.room (by show X.A.units + 1 + 1 < cLine; omega),k,ys3,D.key I3.hok hk,dd,?_⟩
 exact ⟨_,H3,I3.tok _,(rel_val (k:=k) hp3).getD rz,q3⟩
end
end L3
end
section
set_option maxRecDepth 100000
set_option maxHeartbeats 1000000
namespace HT
open PySem PyProof.Rows
section
variable {prog : Program} {w : World} {A : Around} {E : Value→Shared→Prop} {s : Shared}
theorem getItem_tuple_whole {t sl : Addr} {items : Array Value} {vl vu : Value} {lo hi : Option Int} {Q : Value→Shared→Prop} (ht : IsTup s.heap t items) (hs : s.heap.IsSliceOf sl vl vu .none) (pl : IsPart vl lo) (pu : IsPart vu hi)
 (hw : sIx items.size 0 lo = 0∧sIx items.size items.size hi = items.size) (h : Q (.ref t) s) : wpAny (model prog w) A (getItem (.ref t) (.ref sl)) Q E s:=by
 have hTs : s.TypeIs (.ref sl) "slice":=let ⟨os,hos,hcs,_⟩:=id hs; ⟨os,hos,hcs⟩
 unfold getItem
 try with_reducible refine wpAny_holding ?_
 first | refine wpAny_bind (wpAny_pure ?_) | skip
 refine wpAny_bind (wpAny_sequenceKey ht.typeIs (by decide) ?_)
 refine wpAny_bind (wpAny_callSpecial?_slot (name:=Str.ofString "__getitem__") ht.typeIs PyProof.Rows.slot_tuple_getitem
  (wpAny_call_entry PyProof.Rows.slot_tuple_getitem ht.typeIs entry_tuple_getitem ?_ (args_tuple_getitem _ _)))
 show wpAny _ _ (Builtin.Tuple.tupleItemsOf (.ref t) >>= _) _ _ s
 refine wpAny_bind (tupleItemsOf_ ht ?_)
 refine wpAny_bind (wpAny_typeOf hTs ?_)
 rw [if_pos (by decide)]
 refine wpAny_bind (sliceApplied_gen hs pl pu ?_)
 show wpAny _ _ (if (((sIx items.size 0 lo : Nat) : Int) == 0 && (1 : Int) == 1 && (sIx items.size items.size hi - sIx items.size 0 lo) == items.size) = true then _ else _) _ _ s
 rw [if_pos (by rw [hw.1,hw.2]; simp)]
 have hx : ∀ (Q' : Bool→Shared→Prop),Q' true s→wpAny (model prog w) A.in1 (Builtin.Tuple.tupleIsExact (.ref t)) Q' (fun e s'=>E e s') s:=fun Q' hq=>by
  unfold Builtin.Tuple.tupleIsExact
  refine wpAny_bind (wpAny_typeOf ht.typeIs ?_)
  exact wpAny_pure hq
 refine wpAny_bind (hx _ ?_)
 rw [if_pos rfl]
 exact wpAny_bind (wpAny_rule (wpAny_pure ⟨_,rfl,wpAny_pure h⟩))
end
end HT
namespace L3
open PySem L2 NK SK Mo
def vI (n : Nat) : V:=.int (n : Int)
def nI (l : Bytes) : List Int:=l.map Int.ofNat
theorem nI_vI (l : Bytes) : (nI l).map V.int = l.map vI:=by unfold nI; rw [List.map_map]; rfl
theorem nI_inj {a b : Bytes} (h : nI a = nI b) : a = b:=(List.map_inj_right (fun x y e=>Int.ofNat.inj e)).mp h
def lI (l : Lit) : List Int × Int:=(nI l.atom,if l.no = true then 1 else 0)
theorem lI_inj {a b : Lit} (h : lI a = lI b) : a = b:=by
 obtain ⟨a,p⟩:=a
 obtain ⟨b,q⟩:=b
 unfold lI at h
 injection h with h1 h2
 have:=nI_inj h1
 have : p = q:=by cases p <;> cases q <;> simp at h2 <;> rfl
 simp_all
def pI (p : Bytes × Bytes) : List Int × List Int:=(nI p.1,nI p.2)
theorem pI_inj {a b : Bytes × Bytes} (h : pI a = pI b) : a = b:=by
 unfold pI at h
 injection h with h1 h2
 exact Prod.ext (nI_inj h1) (nI_inj h2)
theorem mem_nI {a : Bytes} {l : List Bytes} : nI a∈l.map nI↔a∈l:=⟨fun h=>by obtain ⟨b,hb,e⟩:=List.mem_map.mp h; rw [← nI_inj e]; exact hb,fun h=>List.mem_map.mpr ⟨a,h,rfl⟩⟩
theorem mem_lI {a : Lit} {l : List Lit} : lI a∈l.map lI↔a∈l:=⟨fun h=>by obtain ⟨b,hb,e⟩:=List.mem_map.mp h; rw [← lI_inj e]; exact hb,fun h=>List.mem_map.mpr ⟨a,h,rfl⟩⟩
theorem mem_pI {a : Bytes × Bytes} {l : List (Bytes × Bytes)} : pI a∈l.map pI↔a∈l:=⟨fun h=>by obtain ⟨b,hb,e⟩:=List.mem_map.mp h; rw [← pI_inj e]; exact hb,fun h=>List.mem_map.mpr ⟨a,h,rfl⟩⟩
def Wd (H : Hp) (l : Bytes) (b : Addr) : Prop:=NmAt H (nI l) b
def Lt (H : Hp) (l : Lit) (b : Addr) : Prop:=LtAt H (lI l) b
def Pr (H : Hp) (p : Bytes × Bytes) (b : Addr) : Prop:=PrAt H (pI p) b
theorem Wd.tup {H : Hp} {l : Bytes} {b : Addr} (h : Wd H l b) : H b = some (.tup (l.map vI)):=by rw [← nI_vI]; exact h
theorem Wd.of {H : Hp} {l : Bytes} {b : Addr} (h : H b = some (.tup (l.map vI))) : Wd H l b:=by rw [← nI_vI] at h; exact h
theorem Wd.mono {H H' : Hp} {l : Bytes} {b : Addr} (t : Tups H H') (h : Wd H l b) : Wd H' l b:=NmAt.mono t h
theorem Lt.mono {H H' : Hp} {l : Lit} {b : Addr} (t : Tups H H') (h : Lt H l b) : Lt H' l b:=LtAt.mono t h
theorem Pr.mono {H H' : Hp} {l : Bytes × Bytes} {b : Addr} (t : Tups H H') (h : Pr H l b) : Pr H' l b:=PrAt.mono t h
def noI (l : Lit) : Int:=if l.no = true then 1 else 0
theorem Lt.tup {H : Hp} {l : Lit} {b : Addr} (h : Lt H l b) : ∃ c,H b = some (.tup [.ref c,.int (noI l)])∧Wd H l.atom c:=h
theorem Lt.of {H : Hp} {l : Lit} {b c : Addr} (h : H b = some (.tup [.ref c,.int (noI l)])) (w : Wd H l.atom c) : Lt H l b:=⟨c,h,w⟩
theorem Pr.tup {H : Hp} {p : Bytes × Bytes} {b : Addr} (h : Pr H p b) : ∃ c d,H b = some (.tup [.ref c,.ref d])∧Wd H p.1 c∧Wd H p.2 d:=h
theorem Pr.of {H : Hp} {p : Bytes × Bytes} {b c d : Addr} (h : H b = some (.tup [.ref c,.ref d])) (w : Wd H p.1 c) (v : Wd H p.2 d) : Pr H p b:=⟨c,d,h,w,v⟩
theorem _root_.L2.Same.tups {H H' : Hp} (s : Same H H') : Tups H H':=fun b xs h=>s b _ h
theorem _root_.L2.Same.new {H : Hp} {a : Addr} {o : HO} (h : H a = none) : Same H (upd H a o):=fun b u e=>by rw [upd_ne (ne_of_none e h)]; exact e
abbrev All2 {α : Type} (R : α→Addr→Prop) : List α→List Addr→Prop:=Paired R
theorem All2.mono {α : Type} {R S : α→Addr→Prop} (h : ∀ x b,R x b→S x b) : ∀ {xs : List α} {bs : List Addr},All2 R xs bs→All2 S xs bs
 | _,_,.nil=>.nil
 | _,_,.cons r t=>.cons (h _ _ r) (All2.mono h t)
theorem All2.get {α : Type} {R : α→Addr→Prop} : ∀ {xs : List α} {bs : List Addr},All2 R xs bs→∀ {i : Nat} {b : Addr},bs[i]? = some b→∃ x,xs[i]? = some x∧R x b
 | _,_,.nil,i,b,e=>by simp at e
 | _,_,.cons r t,0,b,e=>by simp at e; subst e; exact ⟨_,rfl,r⟩
 | _,_,.cons r t,i + 1,b,e=>by obtain ⟨x,h1,h2⟩:=All2.get t (i:=i) (by simpa using e); exact ⟨x,by simpa using h1,h2⟩
theorem All2.get' {α : Type} {R : α→Addr→Prop} : ∀ {xs : List α} {bs : List Addr},All2 R xs bs→∀ {i : Nat} {x : α},xs[i]? = some x→∃ b,bs[i]? = some b∧R x b
 | _,_,.nil,i,b,e=>by simp at e
 | _,_,.cons r t,0,b,e=>by simp at e; subst e; exact ⟨_,rfl,r⟩
 | _,_,.cons r t,i + 1,b,e=>by obtain ⟨x,h1,h2⟩:=All2.get' t (i:=i) (by simpa using e); exact ⟨x,by simpa using h1,h2⟩
theorem All2.snoc {α : Type} {R : α→Addr→Prop} {x : α} {b : Addr} (h : R x b) : ∀ {xs : List α} {bs : List Addr},All2 R xs bs→All2 R (xs ++ [x]) (bs ++ [b])
 | _,_,.nil=>.cons h .nil
 | _,_,.cons r t=>.cons r (All2.snoc h t)
theorem All2.app {α : Type} {R : α→Addr→Prop} : ∀ {xs ys : List α} {bs cs : List Addr},All2 R xs bs→All2 R ys cs→All2 R (xs ++ ys) (bs ++ cs)
 | _,_,_,_,.nil,h=>h
 | _,_,_,_,.cons r t,h=>.cons r (All2.app t h)
theorem All2.take {α : Type} {R : α→Addr→Prop} : ∀ {xs : List α} {bs : List Addr} (n : Nat),All2 R xs bs→All2 R (xs.take n) (bs.take n)
 | _,_,0,_=>by rw [List.take_zero,List.take_zero]; exact .nil
 | _,_,n + 1,.nil=>.nil
 | _,_,n + 1,.cons r t=>.cons r (All2.take n t)
theorem All2.drop {α : Type} {R : α→Addr→Prop} : ∀ {xs : List α} {bs : List Addr} (n : Nat),All2 R xs bs→All2 R (xs.drop n) (bs.drop n)
 | _,_,0,h=>h
 | _,_,n + 1,.nil=>.nil
 | _,_,n + 1,.cons r t=>All2.drop n t
theorem All2.len {α : Type} {R : α→Addr→Prop} {xs : List α} {bs : List Addr} (h : All2 R xs bs) : xs.length = bs.length:=Paired.length h
section
variable {X : Cx}
def rSlA : V→Option Int→Option Int→Hp→VK→Prop:=fun x lo hi H Q=>∃ a xs,x = .ref a∧H a = some (.tup xs)∧∀ p H',Same H H'→H' p = some (.tup (cutV xs lo hi))→Q (.ref p) H'
theorem sl_tupA : SlR X rSlA:=by
 intro pins s σ H x v vl vu lo hi sl Q I rx hs pl pu h
 obtain ⟨a,xs,rfl,hx,q⟩:=h
 by_cases hw : HT.sIx xs.length 0 lo = 0∧HT.sIx xs.length xs.length hi = xs.length
 ·cases rx
  obtain ⟨its,r,ht,hz⟩:=I.tuple (SqT.of (K:=X.K) hx)
  have hlen : its.toArray.size = xs.length:=by rw [List.size_toArray]; exact r.length.symm
  refine ⟨"tuple",_,PyProof.Rows.slot_tuple_getitem.lookup,ht.typeIs,?_⟩
  refine HT.getItem_tuple_whole ht hs pl pu (by rw [hlen]; exact hw) ⟨.ref a,H,I,rfl,q a H (Same.refl H) ?_⟩
  rw [hx]
  unfold cutV
  rw [hw.1,hw.2,List.drop_zero,Nat.sub_zero,List.take_length]
 ·exact sl_tup pins s σ H (.ref a) v vl vu lo hi sl Q I rx hs pl pu ⟨a,xs,rfl,SqT.of hx,hw,fun p hp=>q p _ (Same.new hp) upd_same⟩
end
theorem sIx_neg (n d k : Nat) (hk : 0 < k) : HT.sIx n d (some (-(k : Int))) = n - k:=by
 show (if (-(k : Int)) < 0 then (-(k : Int) + (n : Int)).toNat else min (-(k : Int)).toNat n) = n - k
 rw [if_pos (by omega)]; omega
theorem cut_last (xs : List V) : cutV xs (some (-1)) none = xs.drop (xs.length - 1):=by
 unfold cutV
 rw [HT.sIx_none]
 have e : HT.sIx xs.length 0 (some (-1)) = xs.length - 1:=by
  exact sIx_neg _ _ 1 (by decide)
 rw [e,List.take_of_length_le (by rw [List.length_drop]; omega)]
theorem cut_init (xs : List V) : cutV xs none (some (-1)) = xs.dropLast:=by
 unfold cutV
 rw [HT.sIx_none]
 have e : HT.sIx xs.length xs.length (some (-1)) = xs.length - 1:=by
  exact sIx_neg _ _ 1 (by decide)
 rw [e,List.drop_zero,Nat.sub_zero,List.dropLast_eq_take]
theorem cut_one (xs : List V) : cutV xs none (some 1) = xs.take 1:=by
 unfold cutV
 rw [HT.sIx_none,show (some (1 : Int)) = some ((1 : Nat) : Int) from rfl,HT.sIx_nat,List.drop_zero,Nat.sub_zero]
 rw [List.take_eq_take_iff]; omega
theorem cut_from (xs : List V) : cutV xs (some 1) none = xs.drop 1:=by
 unfold cutV
 rw [HT.sIx_none,show (some (1 : Int)) = some ((1 : Nat) : Int) from rfl,HT.sIx_nat]
 by_cases h : 1≤xs.length
 ·rw [Nat.min_eq_left h,List.take_of_length_le (by rw [List.length_drop]; omega)]
 ·have : xs = []:=List.eq_nil_of_length_eq_zero (by omega)
  subst this; rfl
theorem cut_mid (xs : List V) (h : 4≤xs.length) : cutV xs (some 2) (some (-2)) = (xs.drop 2).take (xs.length - 4):=by
 unfold cutV
 rw [show (some (2 : Int)) = some ((2 : Nat) : Int) from rfl,HT.sIx_nat]
 have e : HT.sIx xs.length xs.length (some (-2)) = xs.length - 2:=by
  exact sIx_neg _ _ 2 (by decide)
 rw [e,Nat.min_eq_left (by omega)]
 congr 1
def dN (l : Bytes) : PyData:=.tuple (l.map fun n : Nat=>.int (n : Int))
def dL (l : Lit) : PyData:=.tuple [dN l.atom,.int (noI l)]
def dB (b : List Lit) : PyData:=.tuple (b.map dL)
theorem eqvAll_map {α : Type} [DecidableEq α] {f : α→PyData} (h : ∀ x y,PyData.eqv (f x) (f y) = decide (x = y)) : ∀ xs ys : List α,PyData.eqvAll (xs.map f) (ys.map f) = decide (xs = ys)
 | [],[]=>by simp [PyData.eqvAll]
 | [],_ :: _=>by simp [PyData.eqvAll]
 | _ :: _,[]=>by simp [PyData.eqvAll]
 | x :: xs,y :: ys=>by
  rw [List.map_cons,List.map_cons,PyData.eqvAll,h,eqvAll_map h xs ys]
  by_cases e : x = y
  ·subst e; simp
  ·simp [e]
theorem eqv_int (a b : Int) : PyData.eqv (.int a) (.int b) = decide (a = b):=by
 rw [PyData.eqv]
 try exact Bool.beq_eq_decide_eq _ _
theorem eqv_dN (a b : Bytes) : PyData.eqv (dN a) (dN b) = decide (a = b):=by
 unfold dN
 rw [PyData.eqv]
 refine eqvAll_map (fun x y=>?_) a b
 rw [eqv_int]
 by_cases e : x = y
 ·subst e; simp
 ·have : ¬ (x : Int) = (y : Int):=by omega
  simp [e,this]
theorem eqv_dL (a b : Lit) : PyData.eqv (dL a) (dL b) = decide (a = b):=by
 unfold dL
 rw [PyData.eqv,PyData.eqvAll,PyData.eqvAll,PyData.eqvAll,eqv_dN,eqv_int,Bool.and_true]
 obtain ⟨a,p⟩:=a
 obtain ⟨b,q⟩:=b
 by_cases e : a = b
 ·subst e
  cases p <;> cases q <;> simp [noI]
 ·simp [e]
theorem eqv_dB (a b : List Lit) : PyData.eqv (dB a) (dB b) = decide (a = b):=by
 unfold dB
 rw [PyData.eqv]
 exact eqvAll_map eqv_dL a b
theorem lay_ints : ∀ l : Bytes,PyData.canLayAll0 (l.map fun n : Nat=>PyData.int (n : Int)) = true
 | []=>by simp [PyData.canLayAll0]
 | x :: l=>by rw [List.map_cons]; simp [PyData.canLayAll0,PyData.canLay0,lay_ints l]
theorem lay_dN (l : Bytes) : (dN l).canLay0 = true:=by unfold dN; simp [PyData.canLay0,lay_ints l]
theorem lay_dL (l : Lit) : (dL l).canLay0 = true:=by unfold dL; simp [PyData.canLay0,PyData.canLayAll0,lay_dN]
theorem lay_map {α : Type} {f : α→PyData} (h : ∀ x,(f x).canLay0 = true) : ∀ l : List α,PyData.canLayAll0 (l.map f) = true
 | []=>by simp [PyData.canLayAll0]
 | x :: l=>by rw [List.map_cons]; simp [PyData.canLayAll0,h x,lay_map h l]
theorem lay_dB (b : List Lit) : (dB b).canLay0 = true:=by unfold dB; simp [PyData.canLay0,lay_map lay_dL]
theorem deep_map {α : Type} {f : α→PyData} {n : Nat} (h : ∀ x,(f x).depth≤n) : ∀ l : List α,PyData.depthAll (l.map f)≤n
 | []=>by simp [PyData.depthAll]
 | x :: l=>by rw [List.map_cons,PyData.depthAll]; exact Nat.max_le.mpr ⟨h x,deep_map h l⟩
theorem deep_dN (l : Bytes) : (dN l).depth≤2:=by
 unfold dN
 have:=deep_map (f:=fun n : Nat=>PyData.int (n : Int)) (n:=1) (fun x=>by simp [PyData.depth]) l
 rw [PyData.depth]; omega
theorem deep_dL (l : Lit) : (dL l).depth≤4:=by
 unfold dL
 have:=deep_dN l.atom
 simp only [PyData.depth,PyData.depthAll]
 omega
theorem deep_dB (b : List Lit) : (dB b).depth≤6:=by
 unfold dB
 have:=deep_map (f:=dL) (n:=4) deep_dL b
 rw [PyData.depth]; omega
theorem shaped_of {d : PyData} (h : d.canLay0 = true) (k : d.depth≤8) : SeqAt.shaped d = true:=by
 unfold SeqAt.shaped
 rw [h]; simp; omega
theorem sh_dN (l : Bytes) : SeqAt.shaped (dN l) = true:=shaped_of (lay_dN l) (by have:=deep_dN l; omega)
theorem sh_dL (l : Lit) : SeqAt.shaped (dL l) = true:=shaped_of (lay_dL l) (by have:=deep_dL l; omega)
theorem sh_dB (l : List Lit) : SeqAt.shaped (dB l) = true:=shaped_of (lay_dB l) (by have:=deep_dB l; omega)
section
variable {K : PySem.W.Frag} {H : Hp}
theorem dp_ints : ∀ l : Bytes,DpAll K H (l.map vI) (l.map fun n : Nat=>PyData.int (n : Int))
 | []=>.nil
 | x :: l=>.cons (.int _) (dp_ints l)
theorem Wd.dp {l : Bytes} {b : Addr} (h : Wd H l b) : Dp K H (.ref b) (dN l):=.tup (SqT.of h.tup) (dp_ints l)
theorem Lt.dp {l : Lit} {b : Addr} (h : Lt H l b) : Dp K H (.ref b) (dL l):=by
 obtain ⟨c,h1,h2⟩:=h.tup
 exact .tup (SqT.of h1) (.cons h2.dp (.cons (.int _) .nil))
theorem dp_all {α : Type} {f : α→PyData} {R : α→Addr→Prop} (h : ∀ x b,R x b→Dp K H (.ref b) (f x)) : ∀ {xs : List α} {bs : List Addr},All2 R xs bs→DpAll K H (bs.map V.ref) (xs.map f)
 | _,_,.nil=>.nil
 | _,_,.cons r t=>.cons (h _ _ r) (dp_all h t)
def Bd (H : Hp) (b : List Lit) (a : Addr) : Prop:=∃ bs,H a = some (.tup (bs.map V.ref))∧All2 (Lt H) b bs
theorem Bd.mono {H H' : Hp} {b : List Lit} {a : Addr} (t : Tups H H') (h : Bd H b a) : Bd H' b a:=let ⟨bs,h1,h2⟩:=h; ⟨bs,t _ _ h1,h2.mono fun _ _ r=>r.mono t⟩
theorem Bd.dp {b : List Lit} {a : Addr} (h : Bd H b a) : Dp K H (.ref a) (dB b):=by
 obtain ⟨bs,h1,h2⟩:=h
 exact .tup (SqT.of h1) (dp_all (fun _ _ r=>Lt.dp r) h2)
end
section
variable (P : Program) (w : World) (K : PySem.W.Frag) (mg : Str→Option Value) (base : Heap)
def Has (k : Nat) (x : Str) (ps : List Str) (sp : Sp) : Prop:=∃ f fd,FnOk P w K mg base CX0 k f fd ps sp∧Binds K fd ps []∧mg x = some (.ref f)∧PySem.W.keepIn K (.ref f) = true
def DefAt (x : Str) (st : Stmt) (ps : List Str) : Prop:=∃ f fd,Fun K x x st f fd∧Binds K fd ps []∧mg x = some (.ref f)
end
section
variable {P : Program} {w : World} {K : PySem.W.Frag} {mg : Str→Option Value} {base : Heap}
theorem DefAt.has {x : Str} {st : Stmt} {ps : List Str} {sp : Sp} {k : Nat} (D : DefAt K mg x st ps) (h : ∀ f fd,Fun K x x st f fd→FnOk P w K mg base CX0 k f fd ps sp) : Has P w K mg base k x ps sp:=by
 obtain ⟨f,fd,F,b,m⟩:=D
 exact ⟨f,fd,h f fd F,b,m,F.kp⟩
end
theorem pe_has {X : Cx} {k : Nat} {x : Str} {ps : List Str} {sp : Sp} {e : Expr} {es : List Expr} {t : TA} {p pos : Pos} (h : Has X.prog X.w X.K X.mg X.base k x ps sp) (hr : Room k X.A) (hg : Gl X x) (ha : PA X (e :: es) t)
 (hdb : (x == ("__debug__" : Str)) = false:=by decide) (he : starEach (e :: es) X.env = (false,eval e X.env) :: starEach es X.env:=by rfl) (hpl : (backTo pos (starEach es X.env)).any (·.1) = false:=by rfl) :
 PE X (.Call (.Name x p) (e :: es) [] pos) (tCall sp [] E0 t):=by
 obtain ⟨f,fd,F,b,m,kp⟩:=h
 exact pe_call F hr hg m kp b .nil pass0 ha hdb he hpl
theorem lc_gen {J : It} {n : Nat} {P : Nat→V→Prop} {iv : Nat} {tt : TT} {te : TE} {σ : St} {H1 : Hp} {D : Addr} {Qd : Hp→Prop} (Rel : Nat→List V→Hp→Prop) (Relm : ∀ i acc H H',Tups H H'→Rel i acc H→Rel i acc H') (hD : H1 D = none) (hn : n < sizeLine)
 (hw : ∀ x,wipe ((wipe σ [iv]).set iv (some x)) [iv] = wipe σ [iv]) (hgo : ∀ i H,i < n→Same H1 H→J.go i H) (hst : ∀ H,Same H1 H→J.stop n H) (hy : ∀ i H x H',i < n→Same H1 H→J.yld i H x H'→H' = H∧P i x) (h0 : Rel 0 [] H1)
 (step : ∀ i x acc H (QA : VK) (QB : Hp→Prop),i < n→P i x→Same H1 H→Rel i acc H→(∀ y H4,Same H H4→Rel (i + 1) (acc ++ [y]) H4→QA y H4)→(∀ H3,Same H H3→Rel (i + 1) acc H3→QB H3) →
  tt ((wipe σ [iv]).set iv (some x)) H fun b H3=>if b = true then te ((wipe σ [iv]).set iv (some x)) H3 QA else QB H3)
 (fin : ∀ ys H,Rel n ys H→H D = some (.lst ys)→Same H1 H→Qd H) :
 ∃ W : Nat→Nat→Hp→Prop,(∃ m,W 0 m (upd H1 D (.lst [])))∧∀ i m H,W i m H →
  (J.stop i H∧Qd H)∨(J.go i H∧∃ Nx : Hp→Prop,(∀ H',Nx H'→∃ m',m' < m∧W (i + 1) m' H')∧∀ x H',J.yld i H x H'→gName iv x (wipe σ [iv]) H' fun σ2 H2=>wipe σ2 [iv] = wipe σ [iv]∧tt σ2 H2 fun b H3 =>
   if b = true then te σ2 H3 fun y H4=>∃ acc,H4 D = some (.lst acc)∧acc.length < sizeLine∧Nx (upd H4 D (.lst (acc ++ [y]))) else Nx H3):=by
 refine ⟨fun i m H=>m = n - i∧i≤n∧∃ acc,H D = some (.lst acc)∧acc.length≤i∧Same H1 H∧Rel i acc H,⟨n,by simp,Nat.zero_le _,[],upd_same,Nat.le_refl _,Same.new hD,Relm _ _ _ _ (Same.new hD).tups h0⟩,?_⟩
 rintro i m H ⟨rfl,hi,acc,hacc,hl,sm,rl⟩
 by_cases hlt : i < n
 ·refine .inr ⟨hgo i H hlt sm,fun H'=>∃ acc,H' D = some (.lst acc)∧acc.length≤i + 1∧Same H1 H'∧Rel (i + 1) acc H',fun H' p'=>⟨n - (i + 1),by omega,rfl,hlt,p'⟩,fun x H' y=>?_⟩
  obtain ⟨rfl,px⟩:=hy i H x H' hlt sm y
  refine ⟨hw x,step i x acc H' _ _ hlt px sm rl (fun v H4 s4 r4=>?_) fun H3 s3 r3=>⟨acc,s3 _ _ hacc,by omega,sm.trans s3,r3⟩⟩
  have e4:=s4 _ _ hacc
  refine ⟨acc,e4,by omega,acc ++ [v],upd_same,by rw [List.length_append,List.length_singleton]; omega,fun b o e=>?_,Relm _ _ _ _ (tups_upd e4 (fun _ z=>by cases z)) r4⟩
  rw [upd_ne (ne_of_none e hD)]
  exact s4 _ _ (sm _ _ e)
 ·have e : i = n:=by omega
  subst e
  exact .inl ⟨hst H sm,fin acc H rl hacc sm⟩
end L3
end
section
set_option maxRecDepth 100000
set_option maxHeartbeats 1000000
namespace L3
open PySem L2 NK SK Mo
structure SrcOk (J : It) (H1 : Hp) (n : Nat) (P : Nat→V→Prop) : Prop where
 go : ∀ i H,i < n→Same H1 H→J.go i H
 st : ∀ H,Same H1 H→J.stop n H
 yl : ∀ i H x H',i < n→Same H1 H→J.yld i H x H'→H' = H∧P i x
theorem _root_.L2.Same.sqt {K : PySem.W.Frag} {H H' : Hp} {a : Addr} {xs : List V} (e : Same H H') (h : SqT K H a xs) : SqT K H' a xs:=by
 rcases h with (h | ⟨o,h⟩) | h
 ·exact .inl (.inl (e _ _ h))
 ·exact .inl (.inr ⟨o,e _ _ h⟩)
 ·exact .inr h
theorem src_list {K : PySem.W.Frag} {H : Hp} {a : Addr} {xs : List V} (h : SqL K H a xs) : SrcOk (Itl K a) H xs.length (fun i x=>xs[i]? = some x) :=
 ⟨fun i H' hi s=>⟨xs,xs[i],s.seq h,List.getElem?_eq_getElem hi⟩,fun H' s=>⟨xs,s.seq h,Nat.le_refl _⟩,fun i H' x H2 hi s y=>⟨y.1,y.2 xs (s.seq h)⟩⟩
theorem src_tup {K : PySem.W.Frag} {H : Hp} {a : Addr} {xs : List V} (h : SqT K H a xs) : SrcOk (Itt K a) H xs.length (fun i x=>xs[i]? = some x) :=
 ⟨fun i H' hi s=>⟨xs,xs[i],s.sqt h,List.getElem?_eq_getElem hi⟩,fun H' s=>⟨xs,s.sqt h,Nat.le_refl _⟩,fun i H' x H2 hi s y=>⟨y.1,y.2 xs (s.sqt h)⟩⟩
theorem src_dn {K : Type} [DecidableEq K] {D : KD K} {P : Program} {w : World} {d : Addr} {o : Obj} {xs : List (K × Addr)} {H : Hp} (h : H d = some (.frz o (DO D P w d xs))) : SrcOk (Itdn D P w d o xs) H xs.length (fun i x=>∃ k b,xs[i]? = some (k,b)∧x = .ref b) :=
 ⟨fun i H' hi s=>⟨s _ _ h,hi⟩,fun H' s=>⟨s _ _ h,Nat.le_refl _⟩,fun i H' x H2 hi s y=>y⟩
theorem lc_map {J : It} {n : Nat} {P : Nat→V→Prop} {iv : Nat} {tt : TT} {te : TE} {σ : St} {H1 : Hp} {D : Addr} {Qd : Hp→Prop} (S : SrcOk J H1 n P) (Rel : Nat→List V→Hp→Prop) (Relm : ∀ i acc H H',Tups H H'→Rel i acc H→Rel i acc H') (hD : H1 D = none) (hn : n < sizeLine)
 (hw : ∀ x,wipe ((wipe σ [iv]).set iv (some x)) [iv] = wipe σ [iv]) (h0 : Rel 0 [] H1)
 (step : ∀ i x acc H (QA : VK) (QB : Hp→Prop),i < n→P i x→Same H1 H→Rel i acc H→(∀ y H4,Same H H4→Rel (i + 1) (acc ++ [y]) H4→QA y H4)→(∀ H3,Same H H3→Rel (i + 1) acc H3→QB H3) →
  tt ((wipe σ [iv]).set iv (some x)) H fun b H3=>if b = true then te ((wipe σ [iv]).set iv (some x)) H3 QA else QB H3)
 (fin : ∀ ys H,Rel n ys H→H D = some (.lst ys)→Same H1 H→Qd H) :
 ∃ W : Nat→Nat→Hp→Prop,(∃ m,W 0 m (upd H1 D (.lst [])))∧∀ i m H,W i m H →
  (J.stop i H∧Qd H)∨(J.go i H∧∃ Nx : Hp→Prop,(∀ H',Nx H'→∃ m',m' < m∧W (i + 1) m' H')∧∀ x H',J.yld i H x H'→gName iv x (wipe σ [iv]) H' fun σ2 H2=>wipe σ2 [iv] = wipe σ [iv]∧tt σ2 H2 fun b H3 =>
   if b = true then te σ2 H3 fun y H4=>∃ acc,H4 D = some (.lst acc)∧acc.length < sizeLine∧Nx (upd H4 D (.lst (acc ++ [y]))) else Nx H3) :=
 lc_gen Rel Relm hD hn hw S.go S.st S.yl h0 step fin
theorem for_gen {J : It} {n : Nat} {P : Nat→V→Prop} {g : TG} {tb : TS} {D : Ends} {σ : St} {H H1 : Hp} (S : SrcOk J H1 n P) (Pv : Nat→St→Hp→Prop) (sm : ∀ i σ H,Pv i σ H→Same H1 H) (h0 : Pv 0 σ H)
 (hs : ∀ i x σ H,i < n→P i x→Pv i σ H→g x σ H fun σ2 H2=>tb { D with nx:=Pv (i + 1),ct:=Pv (i + 1),bk:=D.nx } σ2 H2) (hd : ∀ σ H,Pv n σ H→D.nx σ H) :
 ∃ W : Nat→Nat→St→Hp→Prop,(∃ m,W 0 m σ H)∧∀ i m σ H,W i m σ H →
  (J.stop i H∧D.nx σ H)∨(J.go i H∧∃ N : St→Hp→Prop,(∀ σ' H',N σ' H'→∃ m',m' < m∧W (i + 1) m' σ' H')∧∀ x H',J.yld i H x H'→g x σ H' fun σ2 H2=>tb { D with nx:=N,ct:=N,bk:=D.nx } σ2 H2):=by
 refine ⟨fun i m σ H=>m = n - i∧i≤n∧Pv i σ H,⟨n,by simp,Nat.zero_le _,h0⟩,?_⟩
 rintro i m σ H ⟨rfl,hi,p⟩
 by_cases hlt : i < n
 ·refine .inr ⟨S.go i H hlt (sm i σ H p),Pv (i + 1),fun σ' H' p'=>⟨n - (i + 1),by omega,rfl,hlt,p'⟩,fun x H' y=>?_⟩
  obtain ⟨rfl,z⟩:=S.yl i H x H' hlt (sm i σ H p) y
  exact hs i x σ _ hlt z p
 ·have e : i = n:=by omega
  subst e
  exact .inl ⟨S.st H (sm i σ H p),hd σ H p⟩
def SeqIs (K : PySem.W.Frag) (H : Hp) (a : Addr) (xs : List V) : Bool→Prop
 | true=>SqL K H a xs
 | false=>SqT K H a xs
theorem SeqIs.same {K : PySem.W.Frag} {H H' : Hp} {a : Addr} {xs : List V} (s : Same H H') : ∀ {b : Bool},SeqIs K H a xs b→SeqIs K H' a xs b
 | true,h=>s.seq h
 | false,h=>s.sqt h
def iSeq (K : PySem.W.Frag) (te : TE) : TI:=fun σ H R=>te σ H fun x H1=>∃ a xs b,x = .ref a∧SeqIs K H1 a xs b∧∀ J,(∀ H0,SeqIs K H0 a xs b→SrcOk J H0 xs.length (fun i x=>xs[i]? = some x))→R J H1
theorem pi_seq {X : Cx} {tg e : Expr} {te : TE} (he : PE X e te) : PI X tg e (iSeq X.K te):=by
 intro pins s σ H R I h
 refine thn (he pins s σ H _ I h) fun v s1 ⟨x,H1,I1,r1,a,xs,b,ex,hq,q⟩=>?_
 subst ex
 cases r1
 cases b
 rotate_left
 ·have hq : SqL X.K H1 a xs:=hq
  obtain ⟨its,rv,p,hz⟩:=I1.list hq
  refine wpAny_pyIter_list p.isList ?_
  refine ⟨s1.heap.objs.size,[s1.heap.objs.size],_,_,H1,rfl,I1.kept (t':=s1.toks) fun b o e=>Heap.get?_push_of_some _ e,turn_list a _,⟨_,Heap.get?_push_size _ rfl,rfl,rfl⟩,fun b hb=>?_,q _ (fun H0 h0=>src_list h0)⟩
  have e : b = s1.heap.objs.size:=by simpa using hb
  subst e
  exact I1.fpOk (Nat.le_refl _) (I1.hok.fresh (Nat.le_refl _))
 ·have hq : SqT X.K H1 a xs:=hq
  obtain ⟨its,rv,p,hz⟩:=I1.tuple hq
  refine wpAny_pyIter_tuple (show s1.heap.IsTuple a its.toArray from p) ?_
  refine ⟨s1.heap.objs.size,[s1.heap.objs.size],_,_,H1,rfl,I1.kept (t':=s1.toks) fun b o e=>Heap.get?_push_of_some _ e,turn_tuple a _,⟨_,Heap.get?_push_size _ rfl,rfl,rfl⟩,fun b hb=>?_,q _ (fun H0 h0=>src_tup h0)⟩
  have e : b = s1.heap.objs.size:=by simpa using hb
  subst e
  exact I1.fpOk (Nat.le_refl _) (I1.hok.fresh (Nat.le_refl _))
theorem _root_.L2.Same.set {H H' : Hp} {a : Addr} {o : HO} (s : Same H H') (h : H a = none) : Same H (upd H' a o):=fun b u e=>by rw [upd_ne (ne_of_none e h)]; exact s _ _ e
theorem map_vI_get {bs : Bytes} {i : Nat} {x : V} (h : (bs.map vI)[i]? = some x) : ∃ c,bs[i]? = some c∧x = vI c:=by
 rw [List.getElem?_map] at h
 obtain ⟨c,hc,rfl⟩:=Option.map_eq_some_iff.mp h
 exact ⟨c,hc,rfl⟩
theorem map_ref_get {bs : List Addr} {i : Nat} {x : V} (h : (bs.map V.ref)[i]? = some x) : ∃ c,bs[i]? = some c∧x = V.ref c:=by
 rw [List.getElem?_map] at h
 obtain ⟨c,hc,rfl⟩:=Option.map_eq_some_iff.mp h
 exact ⟨c,hc,rfl⟩
theorem vI_eq {a b : Nat} : decide (vI a = vI b) = decide (a = b):=by
 by_cases e : a = b
 ·subst e; simp
 ·have : ¬ vI a = vI b:=fun h=>e (by unfold vI at h; injection h with h; omega)
  simp [e,this]
end L3
end
section
set_option maxRecDepth 100000
set_option maxHeartbeats 1000000
namespace L3
open PySem L2
section
variable {X : Cx}
theorem get_list : PGet X (fun x y H Q=>∃ (p : Addr) (xs : List V) (i : Nat) (v : V),x = .ref p∧y = .int (i : Int)∧H p = some (.lst xs)∧xs[i]? = some v∧Q v H):=by
 intro pins s σ H o i ov iv Q I ro ri h
 obtain ⟨p,xs,k,v,rfl,rfl,hq,he,q⟩:=h
 cases ro
 obtain ⟨t,rfl⟩:=ri
 obtain ⟨its,r,pl,hz⟩:=I.list (SqL.of hq)
 obtain ⟨w,ew,rw'⟩:=r.get he
 have hk : k < xs.length:=(List.getElem?_eq_some_iff.mp he).1
 have hn:=line63
 exact PySem.wpAny_getItem_list pl.isList (by omega) (by omega) (by rw [Int.toNat_natCast]; simpa using ew) ⟨v,H,I,rw',q⟩
theorem for_enum {K : PySem.W.Frag} {a : Addr} {xs : List V} {i1 i2 : Nat} {tb : TS} {D : Ends} {σ : St} {H : Hp} (Pv : Nat→St→Hp→Prop) (h0 : Pv 0 σ H) (hl : ∀ i σ H,Pv i σ H→SqL K H a xs)
 (hs : ∀ (i : Nat) x σ H T,xs[i]? = some x→Pv i σ H→H T = none→tb { D with nx:=Pv (i + 1),ct:=Pv (i + 1),bk:=D.nx } ((σ.set i1 (some (.int (i : Nat)))).set i2 (some x)) (upd H T (.tup [.int (i : Nat),x]))) (hd : ∀ σ H,Pv xs.length σ H→D.nx σ H) :
 ∃ W : Nat→Nat→St→Hp→Prop,(∃ m,W 0 m σ H)∧∀ i m σ H,W i m σ H →
  ((Ite K a).stop i H∧D.nx σ H)∨((Ite K a).go i H∧∃ N : St→Hp→Prop,(∀ σ' H',N σ' H'→∃ m',m' < m∧W (i + 1) m' σ' H')∧∀ x H',(Ite K a).yld i H x H'→gTup K 2 (gCons (gName i1) (gCons (gName i2) gNil)) x σ H' fun σ2 H2=>tb { D with nx:=N,ct:=N,bk:=D.nx } σ2 H2):=by
 refine ⟨fun i m σ H=>m = xs.length - i∧i≤xs.length∧Pv i σ H,⟨xs.length,by simp,Nat.zero_le _,h0⟩,?_⟩
 rintro i m σ H ⟨rfl,hi,p⟩
 have hq:=hl i σ H p
 by_cases hlt : i < xs.length
 ·refine .inr ⟨⟨xs,xs[i],hq,List.getElem?_eq_getElem hlt⟩,Pv (i + 1),fun σ' H' p'=>⟨xs.length - (i + 1),by omega,rfl,hlt,p'⟩,fun x H' y=>?_⟩
  obtain ⟨T,z,rfl,hT,rfl,hz⟩:=y
  have hx:=hz xs hq
  refine ⟨T,_,rfl,SqT.of upd_same,rfl,_,_,rfl,_,_,rfl,rfl,?_⟩
  exact hs i z σ H T hx p hT
 ·have e : i = xs.length:=by omega
  subst e
  exact .inl ⟨⟨xs,hq,Nat.le_refl _⟩,hd σ H p⟩
end
end L3
end
section
set_option maxRecDepth 100000
set_option maxHeartbeats 1000000
namespace L3
open PySem L2
theorem lc_enum {K : PySem.W.Frag} {a : Addr} {xs : List V} {i1 i2 : Nat} {tt : TT} {te : TE} {σ : St} {H1 : Hp} {D : Addr} {Qd : Hp→Prop} (hsq : ∀ H,Same H1 H→SqL K H a xs) (Rel : Nat→List V→Hp→Prop) (Relm : ∀ i acc H H',Tups H H'→Rel i acc H→Rel i acc H') (hD : H1 D = none) (hn : xs.length < sizeLine)
 (hw : ∀ x y,wipe (((wipe σ [i1,i2]).set i1 (some x)).set i2 (some y)) [i1,i2] = wipe σ [i1,i2]) (h0 : Rel 0 [] H1)
 (step : ∀ (i : Nat) x acc H (QA : VK) (QB : Hp→Prop),xs[i]? = some x→Same H1 H→Rel i acc H→(∀ y H4,Same H H4→Rel (i + 1) (acc ++ [y]) H4→QA y H4)→(∀ H3,Same H H3→Rel (i + 1) acc H3→QB H3) →
  tt (((wipe σ [i1,i2]).set i1 (some (.int (i : Nat)))).set i2 (some x)) H fun b H3=>if b = true then te (((wipe σ [i1,i2]).set i1 (some (.int (i : Nat)))).set i2 (some x)) H3 QA else QB H3)
 (fin : ∀ ys H,Rel xs.length ys H→H D = some (.lst ys)→Same H1 H→Qd H) :
 ∃ W : Nat→Nat→Hp→Prop,(∃ m,W 0 m (upd H1 D (.lst [])))∧∀ i m H,W i m H →
  ((Ite K a).stop i H∧Qd H)∨((Ite K a).go i H∧∃ Nx : Hp→Prop,(∀ H',Nx H'→∃ m',m' < m∧W (i + 1) m' H')∧∀ x H',(Ite K a).yld i H x H'→gTup K 2 (gCons (gName i1) (gCons (gName i2) gNil)) x (wipe σ [i1,i2]) H' fun σ2 H2=>wipe σ2 [i1,i2] = wipe σ [i1,i2]∧tt σ2 H2 fun b H3 =>
    if b = true then te σ2 H3 fun y H4=>∃ acc,H4 D = some (.lst acc)∧acc.length < sizeLine∧Nx (upd H4 D (.lst (acc ++ [y]))) else Nx H3):=by
 refine ⟨fun i m H=>m = xs.length - i∧i≤xs.length∧∃ acc,H D = some (.lst acc)∧acc.length≤i∧Same H1 H∧Rel i acc H,⟨xs.length,by simp,Nat.zero_le _,[],upd_same,Nat.le_refl _,Same.new hD,Relm _ _ _ _ (Same.new hD).tups h0⟩,?_⟩
 rintro i m H ⟨rfl,hi,acc,hacc,hl,sm,rl⟩
 by_cases hlt : i < xs.length
 ·refine .inr ⟨⟨xs,xs[i],hsq H sm,List.getElem?_eq_getElem hlt⟩,fun H'=>∃ acc,H' D = some (.lst acc)∧acc.length≤i + 1∧Same H1 H'∧Rel (i + 1) acc H',fun H' p'=>⟨xs.length - (i + 1),by omega,rfl,hlt,p'⟩,fun x H' y=>?_⟩
  obtain ⟨T,z,rfl,hT,rfl,hz⟩:=y
  have hx:=hz xs (hsq H sm)
  have sT : Same H (upd H T (.tup [.int (i : Nat),z])):=Same.new hT
  refine ⟨T,_,rfl,SqT.of upd_same,rfl,_,_,rfl,_,_,rfl,rfl,hw _ _,?_⟩
  refine step i z acc _ _ _ hx (sm.trans sT) (Relm _ _ _ _ sT.tups rl) (fun v H4 s4 r4=>?_) fun H3 s3 r3=>⟨acc,s3 _ _ (sT _ _ hacc),by omega,(sm.trans sT).trans s3,r3⟩
  have e4:=s4 _ _ (sT _ _ hacc)
  refine ⟨acc,e4,by omega,acc ++ [v],upd_same,by rw [List.length_append,List.length_singleton]; omega,fun b o e=>?_,Relm _ _ _ _ (tups_upd e4 (fun _ z=>by cases z)) r4⟩
  rw [upd_ne (ne_of_none e hD)]
  exact s4 _ _ (sT _ _ (sm _ _ e))
 ·have e : i = xs.length:=by omega
  subst e
  exact .inl ⟨⟨xs,hsq H sm,Nat.le_refl _⟩,fin acc H rl hacc sm⟩
end L3
end
section
set_option maxRecDepth 100000
set_option maxHeartbeats 1000000
namespace L3
open PySem L2 NK SK Mo
def Off (D : Addr) (H H' : Hp) : Prop:=∀ b o,H b = some o→b≠D→H' b = some o
theorem lc_off {J : It} {n : Nat} {P : Nat→V→Prop} {iv : Nat} {tt : TT} {te : TE} {σ : St} {H1 : Hp} {D : Addr} {Qd : Hp→Prop} (S : SrcOk J H1 n P) (Rel : Nat→List V→Hp→Prop) (Relm : ∀ i acc H H',Off D H H'→Rel i acc H→Rel i acc H') (hD : H1 D = none) (hn : n < sizeLine)
 (hw : ∀ x,wipe ((wipe σ [iv]).set iv (some x)) [iv] = wipe σ [iv]) (h0 : Rel 0 [] H1)
 (step : ∀ i x acc H (QA : VK) (QB : Hp→Prop),i < n→P i x→Same H1 H→Rel i acc H→H D = some (.lst acc)→(∀ y H4,Same H H4→Rel (i + 1) (acc ++ [y]) H4→QA y H4)→(∀ H3,Same H H3→Rel (i + 1) acc H3→QB H3) →
  tt ((wipe σ [iv]).set iv (some x)) H fun b H3=>if b = true then te ((wipe σ [iv]).set iv (some x)) H3 QA else QB H3)
 (fin : ∀ ys H,Rel n ys H→H D = some (.lst ys)→Same H1 H→Qd H) :
 ∃ W : Nat→Nat→Hp→Prop,(∃ m,W 0 m (upd H1 D (.lst [])))∧∀ i m H,W i m H →
  (J.stop i H∧Qd H)∨(J.go i H∧∃ Nx : Hp→Prop,(∀ H',Nx H'→∃ m',m' < m∧W (i + 1) m' H')∧∀ x H',J.yld i H x H'→gName iv x (wipe σ [iv]) H' fun σ2 H2=>wipe σ2 [iv] = wipe σ [iv]∧tt σ2 H2 fun b H3 =>
   if b = true then te σ2 H3 fun y H4=>∃ acc,H4 D = some (.lst acc)∧acc.length < sizeLine∧Nx (upd H4 D (.lst (acc ++ [y]))) else Nx H3):=by
 refine ⟨fun i m H=>m = n - i∧i≤n∧∃ acc,H D = some (.lst acc)∧acc.length≤i∧Same H1 H∧Rel i acc H,⟨n,by simp,Nat.zero_le _,[],upd_same,Nat.le_refl _,Same.new hD,Relm _ _ _ _ (fun b o e hb=>by rw [upd_ne hb]; exact e) h0⟩,?_⟩
 rintro i m H ⟨rfl,hi,acc,hacc,hl,sm,rl⟩
 by_cases hlt : i < n
 ·refine .inr ⟨S.go i H hlt sm,fun H'=>∃ acc,H' D = some (.lst acc)∧acc.length≤i + 1∧Same H1 H'∧Rel (i + 1) acc H',fun H' p'=>⟨n - (i + 1),by omega,rfl,hlt,p'⟩,fun x H' y=>?_⟩
  obtain ⟨rfl,px⟩:=S.yl i H x H' hlt sm y
  refine ⟨hw x,step i x acc H' _ _ hlt px sm rl hacc (fun v H4 s4 r4=>?_) fun H3 s3 r3=>⟨acc,s3 _ _ hacc,by omega,sm.trans s3,r3⟩⟩
  have e4:=s4 _ _ hacc
  refine ⟨acc,e4,by omega,acc ++ [v],upd_same,by rw [List.length_append,List.length_singleton]; omega,fun b o e=>?_,Relm _ _ _ _ (fun b o e hb=>by rw [upd_ne hb]; exact e) r4⟩
  rw [upd_ne (ne_of_none e hD)]
  exact s4 _ _ (sm _ _ e)
 ·have e : i = n:=by omega
  subst e
  exact .inl ⟨S.st H sm,fin acc H rl hacc sm⟩
end L3
end
section
set_option maxRecDepth 100000
set_option maxHeartbeats 1000000
namespace SR
open PySem PySem.W PyProof.Rows
section
variable {n : Nat} {p : Array Nat}
end
section
variable {n : Nat} {lt : Nat→Nat→Bool} {cmp : Nat→Nat→(Bool→Shared→Prop)→Shared→Prop} {s : Shared}
end
end SR
end
section
set_option maxRecDepth 100000
set_option maxHeartbeats 2000000
namespace SR
open PySem PySem.W PyProof.Rows
section
variable {prog : Program} {w : World} {A : Around} {E : Value→Shared→Prop} {s : Shared}
end
end SR
end
section
set_option maxRecDepth 100000
set_option maxHeartbeats 2000000
namespace SR
open PySem PySem.W PyProof.Rows L2 L3 NK SK Mo
section
variable {prog : Program} {w : World} {A : Around} {E : Value→Shared→Prop} {s : Shared}
end
end SR
end
section
set_option maxRecDepth 100000
set_option maxHeartbeats 2000000
namespace SR
open PySem PySem.W PyProof.Rows L2 L3 NK SK Mo
section
variable {X : Cx} {K : Type} [DecidableEq K] {D : KD K} {α : Type} {f : α→K} {good : α→Prop} {κ : SortKind} {blt : α→α→Bool}
end
end SR
end
section
set_option maxRecDepth 100000
set_option maxHeartbeats 1000000
namespace SN
open PySem L2 L3 KS KL PyProof.Rows
section
variable {prog : Program} {w : World} {A : Around} {E : Value→Shared→Prop} {s : Shared}
end
section
variable {X : Cx}
end
end SN
end
section
set_option maxRecDepth 100000
set_option maxHeartbeats 1000000
namespace SI
open PySem L2 PyProof.Rows
section
variable {X : Cx}
end
end SI
end
section
set_option maxRecDepth 100000
set_option maxHeartbeats 4000000
namespace SC
open PySem L2 L3 Mo
def top (i : Nat) : Stmt:=PySem.Challenge.pw_strikecase_s14_defended.main.body.getD i (.Pass ⟨0,0,0,0⟩)
abbrev sSpell : Stmt:=top 31
abbrev sSplit : Stmt:=top 32
abbrev sWoEnd : Stmt:=top 33
abbrev sIsLetter : Stmt:=top 34
abbrev sIsNameByte : Stmt:=top 35
abbrev sIsName : Stmt:=top 36
abbrev sParseLit : Stmt:=top 37
structure Bs (mg : Str→Option Value) : Prop where
 tuple : mg "tuple" = none
 ord : mg "ord" = none
 len : mg "len" = none
 all : mg "all" = none
 any : mg "any" = none
 list : mg "list" = none
 set : mg "set" = none
theorem boot_tuple' : bootBuiltins "tuple" = some (.type "tuple"):=by decide +kernel
theorem boot_list' : bootBuiltins "list" = some (.type "list"):=by decide +kernel
theorem boot_set' : bootBuiltins "set" = some (.type "set"):=by decide +kernel
theorem boot_ord' : bootBuiltins "ord" = some (.builtin "ord"):=by decide +kernel
theorem boot_len' : bootBuiltins "len" = some (.builtin "len"):=by decide +kernel
theorem boot_all' : bootBuiltins "all" = some (.builtin "all"):=by decide +kernel
theorem boot_any' : bootBuiltins "any" = some (.builtin "any"):=by decide +kernel
section
variable {P : Program} {w : World} {K : PySem.W.Frag} {mg : Str→Option Value} {base : Heap}
theorem sc_spell : FnScope ["text","sign"] ["text"] (defScope sSpell):=⟨rfl,rfl,rfl,by decide +kernel,rfl,by decide +kernel,by decide +kernel⟩
def spSpell : Sp:=fun vs H Q _=>∃ x : Str,vs = [.str x]∧x.cps.size≤100∧∀ p H',Same H H'→Wd H' x.cps.toList p→Q (.ref p) H'
theorem take_snoc {α : Type} {l : List α} {i : Nat} {c : α} (h : l[i]? = some c) : l.take i ++ [c] = l.take (i + 1):=by
 rw [List.take_succ,h]; rfl
theorem ok_spell (B : Bs mg) (D : DefAt K mg "spell" sSpell ["text"]) : Has P w K mg base 1 "spell" ["text"] spSpell:=D.has fun f fd F=>by
 refine F.ok sc_spell (fun vs H Q E h=>?_) (fun cdv A outer s H vs Q E hr h=>?_)
 ·obtain ⟨x,rfl,_⟩:=h
  rfl
 ·obtain ⟨x,rfl,hx,k⟩:=h
  refine ⟨_,pss_one (ps_ret (pe_callTy call_tuple_of rfl B.tuple boot_tuple' (pa_cons (pe_lc rfl sc_spell.nd (pi_str (pv 0)) (blkOk_by (own:=[("sign",1)]) (by show blkC ["text","sign"] (defScope sSpell) _ _ = true; decide +kernel)) (fun _ _ _ _ _=>pg_name (i:=1) sc_spell.nd rfl (Or.inl rfl)) (fun _ _ _ _ _=>pts_nil)
   (fun _ _ _ _ _=>pe_callB call_ord rfl B.ord boot_ord' (pa_cons (pv 1) pa_nil))) pa_nil))),?_⟩
  refine ⟨_,rfl,x,rfl,fun d hd=>?_⟩
  refine lc_gen (n:=x.cps.size) (P:=fun i v=>∃ c,x.cps[i]? = some c∧v = .str ⟨#[c]⟩) (fun i acc _=>acc = (x.cps.toList.take i).map vI) (fun _ _ _ _ _ r=>r) hd (Nat.lt_of_le_of_lt hx (by decide)) (fun _=>rfl) (fun i H' hi _=>hi) (fun H' _=>Nat.le_refl _) (fun i H' y H2 hi _ h=>h) rfl ?_ ?_
  ·rintro i y acc H2 QA QB hi ⟨c,hc,rfl⟩ sm rfl ka kb
   refine ⟨_,rfl,⟨#[c]⟩,rfl,rfl,ka _ _ (Same.refl _) ?_⟩
   have e : x.cps.toList[i]? = some c:=by rw [Array.getElem?_toList]; exact hc
   rw [← take_snoc e,List.map_append]
   rfl
  ·rintro ys H2 rfl hy sm
   refine ⟨d,_,rfl,.inl ⟨SqL.of hy,fun l hl=>k l _ (sm.trans (Same.new hl)) (Wd.of ?_)⟩⟩
   rw [upd_same,← Array.length_toList,List.take_length]
theorem sc_split : FnScope ["row","mark","parts","part","byte"] ["row","mark"] (defScope sSplit):=⟨rfl,rfl,rfl,by decide +kernel,rfl,by decide +kernel,by decide +kernel⟩
def spSplit (K : PySem.W.Frag) : Sp:=fun vs H Q _=>∃ (a : Addr) (bs : Bytes) (m : Nat),vs = [.ref a,vI m]∧(∃ b,SeqIs K H a (bs.map vI) b)∧bs.length≤8300 ∧
 ∀ p ps H',Same H H'→H p = none→H' p = some (.lst (ps.map V.ref))→All2 (Wd H') (ML.split m bs) ps→Q (.ref p) H'
theorem lt_size {n : Nat} (h : n≤100000) : n < sizeLine:=Nat.lt_of_le_of_lt h (by decide)
theorem ok_split (B : Bs mg) (D : DefAt K mg "split_at" sSplit ["row","mark"]) : Has P w K mg base 1 "split_at" ["row","mark"] (spSplit K):=D.has fun f fd F=>by
 refine F.ok sc_split (fun vs H Q E h=>?_) (fun cdv A outer s H vs Q E hr h=>?_)
 ·obtain ⟨a,bs,m,rfl,_⟩:=h
  rfl
 ·obtain ⟨a,bs,m,rfl,⟨b,hrow⟩,hlen,k⟩:=h
  refine ⟨_,pss_cons (ps_set (i:=2) sc_split.nd rfl (Or.inl rfl) (pe_lst pa_nil))
   (pss_cons (ps_set (i:=3) sc_split.nd rfl (Or.inl rfl) (pe_lst pa_nil))
   (pss_cons (ps_for PassesOwn.never rfl (pi_seq (pv 0)) (pg_name (i:=4) sc_split.nd rfl (Or.inl rfl))
    (pss_one (ps_if (pt_cmpR op_eq (pv 4) (pv 1) (nomark _))
     (pss_cons (ps_expr (pe_bm PySem.F.plainAttrs_list PySem.F.slot_list_append PySem.F.type_list_append mt_append (pv 2) (pa_cons (pe_callTy call_tuple_of rfl B.tuple boot_tuple' (pa_cons (pv 3) pa_nil)) pa_nil)))
      (pss_one (ps_set (i:=3) sc_split.nd rfl (Or.inl rfl) (pe_lst pa_nil))))
     (pss_one (ps_expr (pe_bm PySem.F.plainAttrs_list PySem.F.slot_list_append PySem.F.type_list_append mt_append (pv 3) (pa_cons (pv 4) pa_nil)))))))
   (pss_cons (ps_expr (pe_bm PySem.F.plainAttrs_list PySem.F.slot_list_append PySem.F.type_list_append mt_append (pv 2) (pa_cons (pe_callTy call_tuple_of rfl B.tuple boot_tuple' (pa_cons (pv 3) pa_nil)) pa_nil)))
    (pss_one (ps_ret (pv 2)))))),?_⟩
  refine ⟨Nat.zero_le _,fun p hp=>⟨Nat.zero_le _,fun q hq=>?_⟩⟩
  have hp0 : H p = none:=hp
  have hqp : q≠p:=fun e=>by rw [e,upd_same] at hq; cases hq
  have hq0 : H q = none:=by rw [upd_ne hqp] at hq; exact hq
  have sm2 : Same H (upd (upd H p (.lst [])) q (.lst [])):=((Same.refl H).set hp0).set hq0
  refine ⟨_,rfl,a,_,b,rfl,hrow.same sm2,fun J S=>?_⟩
  refine for_gen (S H hrow) (fun i σ H'=>∃ (q : Addr) (ps : List Addr) (dn : List Bytes) (part : Bytes) (v4 : Option V),σ = [some (.ref a),some (vI m),some (.ref p),some (.ref q),v4]∧Same H H'∧H q = none∧q≠p ∧
   H' p = some (.lst (ps.map V.ref))∧H' q = some (.lst (part.map vI))∧All2 (Wd H') dn ps∧ML.split m bs = dn ++ ML.splitGo m part (bs.drop i)∧ps.length≤i∧part.length≤i) ?_ ?_ ?_ ?_
  ·exact fun i σ H' ⟨_,_,_,_,_,_,s,_⟩=>s
  ·exact ⟨q,[],[],[],none,rfl,sm2,hq0,hqp,by rw [upd_ne hqp.symm]; exact upd_same,upd_same,.nil,by rw [List.drop_zero,List.nil_append,ML.split_eq],Nat.le_refl _,Nat.le_refl _⟩
  ·exact fun i x σ H' hi hx ⟨q,ps,dn,part,v4,e,sm,hq0,hqp,hp,hq,al,es,l1,l2⟩=>by
    subst e
    obtain ⟨c,hc,rfl⟩:=map_vI_get hx
    rw [List.length_map] at hi
    have edrop : bs.drop i = c :: bs.drop (i + 1):=by
     rw [List.drop_eq_getElem_cons hi]
     rw [List.getElem?_eq_getElem hi] at hc
     rw [Option.some.inj hc]
    refine ⟨_,rfl,_,rfl,rfl,_,rfl,?_⟩
    rw [vI_eq]
    refine ite2 (fun h=>?_) (fun h=>?_)
    ·have hcm : c = m:=by simpa using h
     refine ⟨_,rfl,.inl ⟨rfl,_,SqL.of hp⟩,⟨_,rfl,q,_,rfl,.inl ⟨SqL.of hq,fun t ht=>?_⟩⟩⟩
     have ntp : t≠p:=fun e=>by rw [e,hp] at ht; cases ht
     have ntq : t≠q:=fun e=>by rw [e,hq] at ht; cases ht
     have ht0 : H t = none:=sm.free ht
     refine ⟨p,_,_,rfl,rfl,by rw [upd_ne ntp.symm]; exact hp,lt_size (by rw [List.length_map]; omega),Nat.zero_le _,fun q2 hq2=>?_⟩
     have n1 : q2≠p:=fun e=>by rw [e,upd_same] at hq2; cases hq2
     have hq2' : upd H' t (.tup (part.map vI)) q2 = none:=by rw [upd_ne n1] at hq2; exact hq2
     have n2 : q2≠t:=fun e=>by rw [e,upd_same] at hq2'; cases hq2'
     have hq20 : H q2 = none:=sm.free (by rw [upd_ne n2] at hq2'; exact hq2')
     have tu : Tups H' (upd (upd (upd H' t (.tup (part.map vI))) p (.lst (ps.map V.ref ++ [V.ref t]))) q2 (.lst [])):=by
      refine ((Same.new (o:=.tup (part.map vI)) ht).tups.trans ?_).trans (tups_new hq2)
      exact tups_upd (by rw [upd_ne ntp.symm]; exact hp) (fun _ z=>by cases z)
     refine ⟨q2,ps ++ [t],dn ++ [part],[],_,rfl,((sm.set ht0).set hp0).set hq20,hq20,n1,?_,upd_same,?_,?_,?_,Nat.zero_le _⟩
     ·rw [upd_ne n1.symm,upd_same,List.map_append]; rfl
     ·refine All2.snoc (Wd.of ?_) (al.mono fun _ _ r=>r.mono tu)
      rw [upd_ne n2.symm,upd_ne ntp,upd_same]
     ·rw [es,edrop,ML.splitGo,if_pos hcm,List.append_assoc]; rfl
     ·rw [List.length_append,List.length_singleton]; omega
    ·have hcm : ¬ c = m:=by simpa using h
     refine ⟨_,rfl,.inl ⟨rfl,_,SqL.of hq⟩,_,rfl,q,_,_,rfl,rfl,hq,lt_size (by rw [List.length_map]; omega),?_⟩
     refine ⟨q,ps,dn,part ++ [c],_,rfl,sm.set hq0,hq0,hqp,by rw [upd_ne hqp.symm]; exact hp,by rw [upd_same,List.map_append]; rfl,al.mono fun _ _ r=>r.mono (tups_upd hq (fun _ z=>by cases z)),?_,by omega,by rw [List.length_append,List.length_singleton]; omega⟩
     rw [es,edrop,ML.splitGo,if_neg hcm]
  ·rintro σ H' ⟨q,ps,dn,part,v4,rfl,sm,hq0,hqp,hp,hq,al,es,l1,l2⟩
   rw [List.length_map] at es l1 l2
   refine ⟨_,rfl,.inl ⟨rfl,_,SqL.of hp⟩,⟨_,rfl,q,_,rfl,.inl ⟨SqL.of hq,fun t ht=>?_⟩⟩⟩
   have ntp : t≠p:=fun e=>by rw [e,hp] at ht; cases ht
   have ht0 : H t = none:=sm.free ht
   refine ⟨p,_,_,rfl,rfl,by rw [upd_ne ntp.symm]; exact hp,lt_size (by rw [List.length_map]; omega),_,rfl,?_⟩
   refine k p (ps ++ [t]) _ ((sm.set ht0).set hp0) hp0 (by rw [upd_same,List.map_append]; rfl) ?_
   rw [es,List.drop_length,ML.splitGo]
   refine All2.snoc (Wd.of ?_) (al.mono fun _ _ r=>r.mono ((Same.new (o:=.tup (part.map vI)) ht).tups.trans (tups_upd (by rw [upd_ne ntp.symm]; exact hp) (fun _ z=>by cases z))))
   rw [upd_ne ntp,upd_same]
end
end SC
end
section
set_option maxRecDepth 100000
set_option maxHeartbeats 4000000
namespace SC
open PySem L2 L3 Mo
theorem map_drop1 (l : Bytes) : (l.map vI).drop ((l.map vI).length - 1) = (l.drop (l.length - 1)).map vI:=by rw [List.length_map,List.map_drop]
theorem drop_last {l : Bytes} {c : Nat} : l.drop (l.length - 1) = [c]↔l.getLast? = some c:=by
 rcases List.eq_nil_or_concat l with rfl | ⟨m,x,rfl⟩
 ·simp
 ·rw [List.concat_eq_append,List.length_append,List.length_singleton,Nat.add_sub_cancel,List.drop_append_of_le_length (Nat.le_refl _),List.drop_length,List.nil_append,List.getLast?_append]
  simp
section
variable {P : Program} {w : World} {K : PySem.W.Frag} {mg : Str→Option Value} {base : Heap}
theorem sc_woEnd : FnScope ["word","sign"] ["word","sign"] (defScope sWoEnd):=⟨rfl,rfl,rfl,by decide +kernel,rfl,by decide +kernel,by decide +kernel⟩
def spWoEnd : Sp:=fun vs H Q _=>∃ (a : Addr) (l : Bytes) (x : Str) (c : Nat),vs = [.ref a,.str x]∧x.cps.toList = [c]∧Wd H l a∧∀ p H',Same H H'→Wd H' (ML.woEnd c l) p→Q (.ref p) H'
theorem ok_woEnd (B : Bs mg) (D : DefAt K mg "without_ending" sWoEnd ["word","sign"]) (hS : Has P w K mg base 1 "spell" ["text"] spSpell) : Has P w K mg base 2 "without_ending" ["word","sign"] spWoEnd:=D.has fun f fd F=>by
 refine F.ok sc_woEnd (fun vs H Q E h=>?_) (fun cdv A outer s H vs Q E hr h=>?_)
 ·obtain ⟨a,l,x,c,rfl,_⟩:=h
  rfl
 ·obtain ⟨a,l,x,c,rfl,hx,ha,k⟩:=h
  refine ⟨_,pss_cons (ps_if (pt_cmpR (op_eqD hr.units) (pe_slice sl_tupA (pv 0) (po_some (pe_un un_neg pe_int)) po_none) (pe_has hS hr rfl (pa_cons (pv 1) pa_nil)) (nomark _))
   (pss_one (ps_ret (pe_slice sl_tupA (pv 0) po_none (po_some (pe_un un_neg pe_int))))) pss_nil) (pss_one (ps_ret (pe_tup pa_nil))),?_⟩
  refine ⟨_,rfl,_,rfl,_,rfl,a,_,rfl,ha.tup,fun p H1 s1 h1=>?_⟩
  rw [show (-(1 : Int)) = -1 from rfl,cut_last,map_drop1] at h1
  have hsz : x.cps.size = 1:=by rw [← Array.length_toList,hx]; rfl
  refine ⟨_,rfl,x,rfl,by rw [hsz]; decide,fun q H2 s2 h2=>?_⟩
  rw [hx] at h2
  refine ⟨_,_,((Wd.of h1).mono s2.tups).dp,h2.dp,sh_dN _,sh_dN _,_,rfl,?_⟩
  rw [eqv_dN]
  have s12:=s1.trans s2
  refine ite2 (fun e=>?_) (fun e=>?_)
  ·have e' : l.getLast? = some c:=drop_last.mp (by simpa using e)
   refine ⟨_,rfl,_,rfl,_,rfl,a,_,rfl,(ha.mono s12.tups).tup,fun p3 H3 s3 h3=>k p3 H3 (s12.trans s3) (Wd.of ?_)⟩
   rw [h3,show (-(1 : Int)) = -1 from rfl,cut_init,← List.map_dropLast]
   unfold ML.woEnd
   rw [if_pos e']
  ·have e' : ¬ l.getLast? = some c:=fun z=>e (by simpa using drop_last.mpr z)
   refine ⟨Nat.zero_le _,fun p3 h3=>k p3 _ (s12.trans (Same.new h3)) (Wd.of ?_)⟩
   rw [upd_same]
   unfold ML.woEnd
   rw [if_neg e']
   rfl
theorem sc_isLetter : FnScope ["byte"] ["byte"] (defScope sIsLetter):=⟨rfl,rfl,rfl,by decide +kernel,rfl,by decide +kernel,by decide +kernel⟩
def spIsLetter : Sp:=fun vs H Q _=>∃ c : Nat,vs = [vI c]∧Q (.bl (isSmall c)) H
theorem ok_isLetter (B : Bs mg) (D : DefAt K mg "is_letter" sIsLetter ["byte"]) : Has P w K mg base 1 "is_letter" ["byte"] spIsLetter:=D.has fun f fd F=>by
 refine F.ok sc_isLetter (fun vs H Q E h=>?_) (fun cdv A outer s H vs Q E hr h=>?_)
 ·obtain ⟨c,rfl,_⟩:=h
  rfl
 ·obtain ⟨c,rfl,k⟩:=h
  refine ⟨_,pss_one (ps_ret (pe_chain op_le op_le (pe_callB call_ord rfl B.ord boot_ord' (pa_cons pe_str pa_nil)) (pv 0) (pe_callB call_ord rfl B.ord boot_ord' (pa_cons pe_str pa_nil)))),?_⟩
  refine ⟨_,rfl,rfl,_,rfl,_,_,rfl,rfl,_,rfl,?_⟩
  refine ite2 (fun h1=>?_) (fun h1=>?_)
  ·refine ⟨_,rfl,rfl,_,_,rfl,rfl,?_⟩
   have h1' : (97 : Int)≤c:=of_decide_eq_true h1
   have e : isSmall c = decide ((c : Int)≤122):=by
    unfold isSmall
    rw [decide_eq_true (show 97≤c by omega),Bool.true_and]
    by_cases z : c≤122
    ·rw [decide_eq_true z,decide_eq_true (by omega)]
    ·rw [decide_eq_false z,decide_eq_false (by omega)]
   rw [e] at k
   exact k
  ·have h1' : ¬ (97 : Int)≤c:=fun z=>h1 (decide_eq_true z)
   have e : isSmall c = false:=by
    unfold isSmall
    rw [decide_eq_false (show ¬ 97≤c by omega),Bool.false_and]
   rw [e] at k
   exact k
theorem sc_isNameByte : FnScope ["byte"] ["byte"] (defScope sIsNameByte):=⟨rfl,rfl,rfl,by decide +kernel,rfl,by decide +kernel,by decide +kernel⟩
def nameByte (c : Nat) : Bool:=isSmall c || (isDigit c || c == 45)
def spIsNameByte : Sp:=fun vs H Q _=>∃ c : Nat,vs = [vI c]∧Q (.bl (nameByte c)) H
theorem ok_isNameByte (B : Bs mg) (D : DefAt K mg "is_name_byte" sIsNameByte ["byte"]) (hL : Has P w K mg base 1 "is_letter" ["byte"] spIsLetter) : Has P w K mg base 2 "is_name_byte" ["byte"] spIsNameByte:=D.has fun f fd F=>by
 refine F.ok sc_isNameByte (fun vs H Q E h=>?_) (fun cdv A outer s H vs Q E hr h=>?_)
 ·obtain ⟨c,rfl,_⟩:=h
  rfl
 ·obtain ⟨c,rfl,k⟩:=h
  refine ⟨_,pss_one (ps_ret (pe_or (pe_has hL hr rfl (pa_cons (pv 0) pa_nil)) (pe_or (pe_chain op_le op_le (pe_callB call_ord rfl B.ord boot_ord' (pa_cons pe_str pa_nil)) (pv 0) (pe_callB call_ord rfl B.ord boot_ord' (pa_cons pe_str pa_nil)))
   (pe_one (pe_cmpR op_eq (pv 0) (pe_callB call_ord rfl B.ord boot_ord' (pa_cons pe_str pa_nil)) (nomark _)))))),?_⟩
  refine ⟨_,rfl,c,rfl,_,rfl,?_⟩
  have k' : Q (.bl (nameByte c)) H:=k
  unfold nameByte at k'
  refine ite2 (fun h1=>?_) (fun h1=>?_)
  ·rw [h1,Bool.true_or] at k'
   exact k'
  ·rw [show isSmall c = false by simpa using h1,Bool.false_or] at k'
   have e45 : decide (vI c = V.int ((("-" : Str).cps.getD 0 0 : Nat) : Int)) = (c == 45):=by
    have : decide (vI c = vI 45) = (c == 45):=by rw [vI_eq]; rfl
    exact this
   refine ⟨_,rfl,rfl,_,rfl,_,_,rfl,rfl,_,rfl,?_⟩
   refine ite2 (fun h2=>?_) (fun h2=>?_)
   ·have h2' : (48 : Int)≤c:=of_decide_eq_true h2
    refine ⟨_,rfl,rfl,_,_,rfl,rfl,_,rfl,?_⟩
    refine ite2 (fun h3=>?_) (fun h3=>?_)
    ·have h3' : (c : Int)≤57:=of_decide_eq_true h3
     have e : isDigit c = true:=by unfold isDigit; simp; omega
     rw [e,Bool.true_or] at k'
     exact k'
    ·have h3' : ¬ (c : Int)≤57:=fun z=>h3 (decide_eq_true z)
     have e : isDigit c = false:=by unfold isDigit; simp; omega
     rw [e,Bool.false_or] at k'
     refine ⟨_,rfl,_,rfl,rfl,rfl,?_⟩
     rw [e45]
     exact k'
   ·have h2' : ¬ (48 : Int)≤c:=fun z=>h2 (decide_eq_true z)
    have e : isDigit c = false:=by unfold isDigit; simp; omega
    rw [e,Bool.false_or] at k'
    refine ⟨_,rfl,iteF ⟨_,rfl,_,rfl,rfl,rfl,?_⟩⟩
    rw [e45]
    exact k'
end
end SC
end
section
set_option maxRecDepth 100000
set_option maxHeartbeats 4000000
namespace SC
open PySem L2 L3 Mo
theorem isName_eq (l : Bytes) : isName l = (decide (1≤l.length) && (decide (l.length≤15) && (isSmall (l.headD 0) && l.all nameByte))):=rfl
theorem litOf_eq (l : Bytes) : litOf l = if l.take 1 = [126] then (if isName (l.drop 1) = true then some ⟨l.drop 1,true⟩ else none) else (if isName l = true then some ⟨l,false⟩ else none):=by
 match l with
 | []=>rfl
 | c :: r =>
  by_cases h : c = 126
  ·subst h; rfl
  ·rw [if_neg (by simp [h])]
   unfold litOf
   split
   ·rename_i r' e; injection e with e1 e2; exact absurd e1 h
   ·rfl
section
variable {P : Program} {w : World} {K : PySem.W.Frag} {mg : Str→Option Value} {base : Heap}
theorem sc_isName : FnScope ["word","byte"] ["word"] (defScope sIsName):=⟨rfl,rfl,rfl,by decide +kernel,rfl,by decide +kernel,by decide +kernel⟩
def spIsName : Sp:=fun vs H Q _=>∃ (a : Addr) (l : Bytes),vs = [.ref a]∧Wd H l a∧l.length≤8300∧∀ H',Same H H'→Q (.bl (isName l)) H'
theorem ok_isName (B : Bs mg) (G : ∃ t,mg "LONGEST_NAME" = some (.int 15 t)) (D : DefAt K mg "is_name" sIsName ["word"]) (hL : Has P w K mg base 1 "is_letter" ["byte"] spIsLetter) (hN : Has P w K mg base 2 "is_name_byte" ["byte"] spIsNameByte) :
 Has P w K mg base 3 "is_name" ["word"] spIsName:=D.has fun f fd F=>by
 refine F.ok sc_isName (fun vs H Q E h=>?_) (fun cdv A outer s H vs Q E hr h=>?_)
 ·obtain ⟨a,l,rfl,_⟩:=h
  rfl
 ·obtain ⟨a,l,rfl,ha,hlen,k⟩:=h
  obtain ⟨tg,htg⟩:=G
  refine ⟨_,pss_cons (ps_if (PW.pt (pw_or (pt_cmpR op_eq (pe_callB call_len_seq rfl B.len boot_len' (pa_cons (pv 0) pa_nil)) pe_int (nomark _))
   (pw_or1 (pt_cmpR op_gt (pe_callB call_len_seq rfl B.len boot_len' (pa_cons (pv 0) pa_nil)) (pe_glob (v:=.int 15) rfl htg ⟨tg,rfl⟩) (nomark _))))) (pss_one (ps_ret pe_bl)) pss_nil)
   (pss_one (ps_ret (pe_and (pe_has hL (hr.mono (by decide)) rfl (pa_cons (pe_ix ix_tup (pv 0) pe_int (fun _ _=>rfl)) pa_nil))
    (pe_one (pe_callB (cr_all rfl) rfl B.all boot_all' (pa_cons (pe_lc rfl sc_isName.nd (pi_seq (pv 0)) (blkOk_by (own:=[("byte",1)]) (by show blkC ["word","byte"] (defScope sIsName) _ _ = true; decide +kernel)) (fun _ _ _ _ _=>pg_name (i:=1) sc_isName.nd rfl (Or.inl rfl)) (fun _ _ _ _ _=>pts_nil)
     (fun _ _ _ _ _=>pe_has hN hr rfl (pa_cons (pv 1) pa_nil))) pa_nil)))))),?_⟩
  have k0:=k
  have hl : (l.map vI).length = l.length:=List.length_map _
  refine ⟨_,rfl,a,_,rfl,.inr (SqT.of ha.tup),rfl,_,rfl,?_⟩
  rw [hl]
  refine ite2 (fun h1=>?_) (fun h1=>?_)
  ·have e : l.length = 0:=by
    have:=of_decide_eq_true h1
    injection this with this
    omega
   have:=k H (Same.refl H)
   rw [isName_eq,decide_eq_false (by omega),Bool.false_and] at this
   exact iteT this
  ·have e : ¬ l.length = 0:=fun z=>h1 (decide_eq_true (by rw [z]; rfl))
   refine ⟨_,rfl,a,_,rfl,.inr (SqT.of ha.tup),_,_,rfl,rfl,_,rfl,?_⟩
   rw [hl]
   refine ite2 (fun h2=>?_) (fun h2=>?_)
   ·have e2 : 15 < (l.length : Int):=of_decide_eq_true h2
    have:=k H (Same.refl H)
    rw [isName_eq,decide_eq_false (show ¬ l.length≤15 by omega),Bool.false_and,Bool.and_false] at this
    exact this
   ·have e2 : ¬ 15 < (l.length : Int):=fun z=>h2 (decide_eq_true z)
    obtain ⟨c,r,rfl⟩ : ∃ c r,l = c :: r:=by
     cases l with
     | nil=>exact absurd rfl e
     | cons c r=>exact ⟨c,r,rfl⟩
    have eN : isName (c :: r) = (isSmall c && (c :: r).all nameByte):=by
     rw [isName_eq,decide_eq_true (show 1≤(c :: r).length by omega),decide_eq_true (show (c :: r).length≤15 by omega)]
     rfl
    refine ⟨_,rfl,a,_,_,_,rfl,rfl,SqT.of ha.tup,atI_nat (j:=0) (v:=vI c) rfl,c,rfl,_,rfl,?_⟩
    refine ite2 (fun h3=>?_) (fun h3=>?_)
    ·refine ⟨_,rfl,a,_,false,rfl,SqT.of ha.tup,fun J S d hd=>?_⟩
     refine lc_map (S H (SqT.of ha.tup)) (fun i acc _=>acc = ((c :: r).take i).map fun c=>V.bl (nameByte c)) (fun _ _ _ _ _ z=>z) hd (lt_size (by rw [hl]; omega)) (fun _=>rfl) rfl ?_ ?_
     ·rintro i y acc H2 QA QB hi hy sm rfl ka kb
      obtain ⟨b,hb,rfl⟩:=map_vI_get hy
      refine ⟨_,rfl,b,rfl,ka _ _ (Same.refl _) ?_⟩
      rw [← take_snoc hb,List.map_append]
      rfl
     ·rintro ys H2 rfl hy sm
      refine ⟨d,(c :: r).map nameByte,rfl,SqL.of ?_,?_⟩
      ·rw [hy,hl,List.take_length,List.map_map]; rfl
      ·have:=k H2 sm
       rw [eN,h3,Bool.true_and] at this
       rw [show ((c :: r).map nameByte).all id = (c :: r).all nameByte by rw [List.all_map]; rfl]
       exact this
    ·have:=k H (Same.refl H)
     rw [eN,show isSmall c = false by simpa using h3,Bool.false_and] at this
     exact this
theorem sc_parseLit : FnScope ["word","opposite","name"] ["word"] (defScope sParseLit):=⟨rfl,rfl,rfl,by decide +kernel,rfl,by decide +kernel,by decide +kernel⟩
def spParseLit : Sp:=fun vs H Q _=>∃ (a : Addr) (l : Bytes),vs = [.ref a]∧Wd H l a∧l.length≤8300∧(∀ H',Same H H'→litOf l = none→Q .non H')∧∀ H' p x,Same H H'→litOf l = some x→Lt H' x p→Q (.ref p) H'
theorem ok_parseLit (B : Bs mg) (D : DefAt K mg "parse_literal" sParseLit ["word"]) (hS : Has P w K mg base 1 "spell" ["text"] spSpell) (hN : Has P w K mg base 3 "is_name" ["word"] spIsName) :
 Has P w K mg base 4 "parse_literal" ["word"] spParseLit:=D.has fun f fd F=>by
 refine F.ok sc_parseLit (fun vs H Q E h=>?_) (fun cdv A outer s H vs Q E hr h=>?_)
 ·obtain ⟨a,l,rfl,_⟩:=h
  rfl
 ·obtain ⟨a,l,rfl,ha,hlen,k1,k2⟩:=h
  refine ⟨_,pss_cons (ps_set (i:=1) sc_parseLit.nd rfl (Or.inl rfl) pe_int) (pss_cons (ps_set (i:=2) sc_parseLit.nd rfl (Or.inl rfl) (pv 0))
   (pss_cons (ps_if (pt_cmpR (op_eqD hr.units) (pe_slice sl_tupA (pv 0) po_none (po_some pe_int)) (pe_has hS (hr.mono (by decide)) rfl (pa_cons pe_str pa_nil)) (nomark _))
    (pss_cons (ps_set (i:=1) sc_parseLit.nd rfl (Or.inl rfl) pe_int) (pss_one (ps_set (i:=2) sc_parseLit.nd rfl (Or.inl rfl) (pe_slice sl_tupA (pv 0) (po_some pe_int) po_none)))) pss_nil)
   (pss_cons (ps_if (pt_not (pt_val (pe_has hN hr rfl (pa_cons (pv 2) pa_nil)))) (pss_one (ps_ret pe_non)) pss_nil)
   (pss_one (ps_ret (pe_tup (pa_cons (pv 2) (pa_cons (pv 1) pa_nil)))))))),?_⟩
  refine ⟨_,rfl,_,rfl,_,rfl,a,_,rfl,ha.tup,fun p H1 s1 h1=>?_⟩
  rw [cut_one,← List.map_take] at h1
  refine ⟨("~" : Str),rfl,by decide,fun q H2 s2 h2=>?_⟩
  refine ⟨_,_,((Wd.of h1).mono s2.tups).dp,h2.dp,sh_dN _,sh_dN _,_,rfl,?_⟩
  rw [eqv_dN]
  have s12:=s1.trans s2
  have rest : ∀ (n : Addr) (l' : Bytes) (o : Bool) (H3 : Hp),Same H H3→Wd H3 l' n→l'.length≤8300→litOf l = (if isName l' = true then some ⟨l',o⟩ else none) →
   tSeq (tIfS (tNot (tB (tCall spIsName [] E0 (tCons (tVar 2) tNil)))) (tRet (tC .non)) tNext) (tRet (tTup (tCons (tVar 2) (tCons (tVar 1) tNil)))) { nx:=fun _ H'=>Q .non H',rt:=Q } [some (.ref a),some (.int (noI ⟨l',o⟩)),some (.ref n)] H3:=by
   intro n l' o H3 s3 h3 hl' e
   refine ⟨_,rfl,n,l',rfl,h3,hl',fun H4 s4=>⟨_,rfl,?_⟩⟩
   cases hn : isName l' with
   | false =>
    refine iteT (k1 H4 (s3.trans s4) ?_)
    rw [e,hn]; rfl
   | true =>
    refine iteF ⟨_,rfl,_,rfl,(by show 2≤sizeLine; decide),fun t ht=>k2 _ t ⟨l',o⟩ ((s3.trans s4).trans (Same.new ht)) (by rw [e,hn]; rfl) (Lt.of upd_same ((h3.mono s4.tups).mono (Same.new ht).tups))⟩
  refine ite2 (fun e=>?_) (fun e=>?_)
  ·have e' : l.take 1 = [126]:=of_decide_eq_true e
   refine ⟨_,rfl,_,rfl,a,_,rfl,(ha.mono s12.tups).tup,fun p3 H3 s3 h3=>?_⟩
   rw [cut_from,← List.map_drop] at h3
   refine rest p3 (l.drop 1) true H3 (s12.trans s3) (Wd.of h3) (by rw [List.length_drop]; omega) ?_
   rw [litOf_eq,if_pos e']
  ·have e' : ¬ l.take 1 = [126]:=fun z=>e (by rw [z]; rfl)
   refine rest a l false H2 s12 (ha.mono s12.tups) hlen ?_
   rw [litOf_eq,if_neg e']
end
end SC
end
section
set_option maxRecDepth 100000
set_option maxHeartbeats 4000000
namespace SC
open PySem L2 L3 Mo
abbrev sClauseInit : Stmt:=inClass (top 9) 0
abbrev sParseBody : Stmt:=top 46
abbrev sParseClause : Stmt:=top 47
abbrev sParseWeight : Stmt:=top 48
def HasCls (P : Program) (w : World) (K : PySem.W.Frag) (mg : Str→Option Value) (base : Heap) (k : Nat) (x : Str) (C : Addr) (ps : List Str) (sp : Sp) : Prop:=∃ f fd,Mk K C f∧FnOk P w K mg base CX0 k f fd ps sp∧mg x = some (.ref C)∧Binds K fd ps []
def ClsDef (K : PySem.W.Frag) (mg : Str→Option Value) (x q : Str) (st : Stmt) (C : Addr) (ps : List Str) : Prop:=∃ f fd,Mk K C f∧Fun K "__init__" q st f fd∧mg x = some (.ref C)∧Binds K fd ps []
theorem ClsDef.has {P : Program} {w : World} {K : PySem.W.Frag} {mg : Str→Option Value} {base : Heap} {x q : Str} {st : Stmt} {C : Addr} {ps : List Str} {sp : Sp} {k : Nat} (D : ClsDef K mg x q st C ps) (h : ∀ f fd,Fun K "__init__" q st f fd→FnOk P w K mg base CX0 k f fd ps sp) : HasCls P w K mg base k x C ps sp:=by
 obtain ⟨f,fd,M,F,m,b⟩:=D
 exact ⟨f,fd,M,h f fd F,m,b⟩
theorem pe_hasC {X : Cx} {k : Nat} {x : Str} {C : Addr} {ps : List Str} {sp : Sp} {e : Expr} {es : List Expr} {t : TA} {p pos : Pos} (h : HasCls X.prog X.w X.K X.mg X.base k x C ps sp) (hr : Room (k + 1) X.A) (hg : Gl X x) (ha : PA X (e :: es) t)
 (hdb : (x == ("__debug__" : Str)) = false:=by decide) (he : starEach (e :: es) X.env = (false,eval e X.env) :: starEach es X.env:=by rfl) (hpl : (backTo pos (starEach es X.env)).any (·.1) = false:=by rfl) :
 PE X (.Call (.Name x p) (e :: es) [] pos) (tMake C sp [] E0 t):=by
 obtain ⟨f,fd,M,F,m,b⟩:=h
 exact pe_make M F hr hg m b .nil pass0 ha hdb he hpl
theorem pe_hasC0 {X : Cx} {k : Nat} {x : Str} {C : Addr} {ps : List Str} {sp : Sp} {p pos : Pos} (h : HasCls X.prog X.w X.K X.mg X.base k x C ps sp) (hr : Room (k + 1) X.A) (hg : Gl X x) (hdb : (x == ("__debug__" : Str)) = false:=by decide) :
 PE X (.Call (.Name x p) [] [] pos) (tMake C sp [] E0 tNil):=by
 obtain ⟨f,fd,M,F,m,b⟩:=h
 exact pe_make0 M F hr hg m b .nil pass0 hdb
def clF (n b h : V) : List (Str × V):=putF "head" h (putF "body" b (putF "name" n []))
theorem n_nb : ¬ (("name" : Str) = "body"):=by decide +kernel
theorem n_nh : ¬ (("name" : Str) = "head"):=by decide +kernel
theorem n_bh : ¬ (("body" : Str) = "head"):=by decide +kernel
theorem clF_name (n b h : V) : (clF n b h).lookup ("name" : Str) = some n:=by unfold clF; rw [lookup_putF,if_neg n_nh,lookup_putF,if_neg n_nb,lookup_putF,if_pos rfl]
theorem clF_body (n b h : V) : (clF n b h).lookup ("body" : Str) = some b:=by unfold clF; rw [lookup_putF,if_neg n_bh,lookup_putF,if_pos rfl]
theorem clF_head (n b h : V) : (clF n b h).lookup ("head" : Str) = some h:=by unfold clF; rw [lookup_putF,if_pos rfl]
structure ClT (K : PySem.W.Frag) (C : Addr) : Prop where
 cl : Cls K C
 name : NoAttr K C "name"
 body : NoAttr K C "body"
 head : NoAttr K C "head"
def ClauseAt (C : Addr) (H : Hp) (r : Row) (a : Addr) : Prop:=∃ dx n b h,H a = some (.ins C dx (clF (.ref n) (.ref b) (.ref h)))∧Wd H r.name n∧Bd H r.body b∧Lt H r.head h
theorem ClauseAt.same {C : Addr} {H H' : Hp} {r : Row} {a : Addr} (h : ClauseAt C H r a) (s : Same H H') : ClauseAt C H' r a:=by
 obtain ⟨dx,n,b,hd,h1,h2,h3,h4⟩:=h
 exact ⟨dx,n,b,hd,s _ _ h1,h2.mono s.tups,h3.mono s.tups,h4.mono s.tups⟩
def spClauseInit (C : Addr) : Sp:=fun vs H Q _=>∃ (p dx : Addr) (n b h : V),vs = [.ref p,n,b,h]∧H p = some (.ins C dx [])∧Q .non (upd H p (.ins C dx (clF n b h)))
section
variable {P : Program} {w : World} {K : PySem.W.Frag} {mg : Str→Option Value} {base : Heap}
theorem sc_clauseInit : FnScope ["self","name","body","head"] ["self","name","body","head"] (defScope sClauseInit):=⟨rfl,rfl,rfl,by decide +kernel,rfl,by decide +kernel,by decide +kernel⟩
theorem ok_clause {C : Addr} (T : ClT K C) (D : ClsDef K mg "Clause" "Clause.__init__" sClauseInit C ["self","name","body","head"]) : HasCls P w K mg base 1 "Clause" C ["self","name","body","head"] (spClauseInit C):=D.has fun f fd F=>by
 refine F.ok sc_clauseInit (fun vs H Q E h=>?_) (fun cdv A outer s H vs Q E hr h=>?_)
 ·obtain ⟨p,dx,n,b,h,rfl,_⟩:=h
  rfl
 ·obtain ⟨p,dx,n,b,h,rfl,hp,k⟩:=h
  refine ⟨_,pss_cons (ps_fld (pv 0) (pv 1) rfl) (pss_cons (ps_fld (pv 0) (pv 2) rfl) (pss_one (ps_fld (pv 0) (pv 3) rfl))),?_⟩
  refine ⟨_,rfl,_,rfl,p,C,dx,_,rfl,hp,T.cl,T.name,(by show 0 < 1000; decide),_,rfl,_,rfl,p,C,dx,_,rfl,upd_same,T.cl,T.body,(by show 1 < 1000; decide),_,rfl,_,rfl,p,C,dx,_,rfl,upd_same,T.cl,T.head,?_,?_⟩
  ·have : (putF "body" b (putF "name" n [])) = ([("name",n),("body",b)] : List (Str × V)):=by
    show (if ("name" : Str) = "body" then _ else (("name" : Str),n) :: putF "body" b []) = _
    rw [if_neg n_nb]; rfl
   rw [this]; show 2 < 1000; decide
  ·show Q .non (upd (upd (upd H p _) p _) p (.ins C dx (clF n b h)))
   rw [upd_upd,upd_upd]
   exact k
theorem sc_parseBody : FnScope ["words","bare","body","word"] ["words"] (defScope sParseBody):=⟨rfl,rfl,rfl,by decide +kernel,rfl,by decide +kernel,by decide +kernel⟩
def spParseBody : Sp:=fun vs H Q _=>∃ (a : Addr) (ws : List Bytes) (ps : List Addr),vs = [.ref a]∧H a = some (.lst (ps.map V.ref))∧All2 (Wd H) ws ps∧(∀ x∈ws,x.length≤8300)∧ws.length≤8400 ∧
 (∀ H',Same H H'→ML.pBody ws = none→Q .non H')∧∀ H' p b,Same H H'→ML.pBody ws = some b→Bd H' b p→Q (.ref p) H'
def OL (H : Hp) (o : Option Lit) (v : V) : Prop:=match o with
 | none=>v = .non
 | some x=>∃ p,v = .ref p∧Lt H x p
theorem OL.mono {H H' : Hp} (t : Tups H H') : ∀ {o : Option Lit} {v : V},OL H o v→OL H' o v
 | none,_,h=>h
 | some _,_,⟨p,e,h⟩=>⟨p,e,h.mono t⟩
def dO : Option Lit→PyData
 | none=>.none
 | some x=>dL x
theorem OL.dp {H : Hp} : ∀ {o : Option Lit} {v : V},OL H o v→Dp K H v (dO o)
 | none,_,h=>by have h : _ = V.non:=h; rw [h]; exact .non
 | some _,_,⟨p,e,h⟩=>by rw [e]; exact h.dp
theorem dp_ol {H : Hp} : ∀ {os : List (Option Lit)} {vs : List V},Paired (OL H) os vs→DpAll K H vs (os.map dO)
 | _,_,.nil=>.nil
 | _,_,.cons r t=>.cons r.dp (dp_ol t)
theorem paired_mono {α β : Type} {R S : α→β→Prop} (h : ∀ x b,R x b→S x b) : ∀ {xs : List α} {bs : List β},Paired R xs bs→Paired S xs bs
 | _,_,.nil=>.nil
 | _,_,.cons r t=>.cons (h _ _ r) (paired_mono h t)
theorem paired_snoc {α β : Type} {R : α→β→Prop} {x : α} {b : β} (h : R x b) : ∀ {xs : List α} {bs : List β},Paired R xs bs→Paired R (xs ++ [x]) (bs ++ [b])
 | _,_,.nil=>.cons h .nil
 | _,_,.cons r t=>.cons r (paired_snoc h t)
theorem lay_dO : ∀ o,(dO o).canLay0 = true
 | none=>by simp [dO,PyData.canLay0]
 | some x=>lay_dL x
theorem eqv_dO : ∀ o,PyData.eqv (dO o) .none = o.isNone
 | none=>by simp [dO,PyData.eqv]
 | some x=>by simp [dO,dL,PyData.eqv]
theorem any_dO (os : List (Option Lit)) : ((os.map dO).any fun z=>PyData.eqv z .none) = os.any Option.isNone:=by
 rw [List.any_map]
 congr 1
 funext o
 exact eqv_dO o
theorem lits_of {H : Hp} : ∀ {b : List Lit} {vs : List V},Paired (OL H) (b.map some) vs→∃ bs,vs = bs.map V.ref∧All2 (Lt H) b bs
 | [],_,h=>by rw [List.map_nil] at h; cases h; exact ⟨[],rfl,.nil⟩
 | x :: b,_,h=>by
  rw [List.map_cons] at h
  cases h with
  | cons r t =>
   obtain ⟨p,rfl,hp⟩:=r
   obtain ⟨bs,rfl,al⟩:=lits_of t
   exact ⟨p :: bs,rfl,.cons hp al⟩
theorem drop_getLast (ws : List Bytes) : ws.drop (ws.length - 1) = ws.getLast?.toList:=by
 rcases List.eq_nil_or_concat ws with rfl | ⟨m,x,rfl⟩
 ·rfl
 ·rw [List.concat_eq_append,List.length_append,List.length_singleton,Nat.add_sub_cancel,List.drop_append_of_le_length (Nat.le_refl _),List.drop_length,List.nil_append,List.getLast?_append]
  rfl
theorem map_dropL (ps : List Addr) : (ps.map V.ref).drop ((ps.map V.ref).length - 1) = (ps.drop (ps.length - 1)).map V.ref:=by rw [List.length_map,List.map_drop]
theorem ok_parseBody (B : Bs mg) (G : ∃ t,mg "LONGEST_BODY" = some (.int 6 t)) (D : DefAt K mg "parse_body" sParseBody ["words"]) (hW : Has P w K mg base 2 "without_ending" ["word","sign"] spWoEnd) (hL : Has P w K mg base 4 "parse_literal" ["word"] spParseLit) :
 Has P w K mg base 5 "parse_body" ["words"] spParseBody:=D.has fun f fd F=>by
 refine F.ok sc_parseBody (fun vs H Q E h=>?_) (fun cdv A outer s H vs Q E hr h=>?_)
 ·obtain ⟨a,ws,ps,rfl,_⟩:=h
  rfl
 ·obtain ⟨a,ws,ps,rfl,ha,al,hwl,hwn,k1,k2⟩:=h
  obtain ⟨tg,htg⟩:=G
  refine ⟨_,pss_cons (ps_if (pt_cmpR op_gt (pe_callB call_len_seq rfl B.len boot_len' (pa_cons (pv 0) pa_nil)) (pe_glob (v:=.int 6) rfl htg ⟨tg,rfl⟩) (nomark _)) (pss_one (ps_ret pe_non)) pss_nil)
   (pss_cons (ps_set (i:=1) sc_parseBody.nd rfl (Or.inl rfl) (pe_op op_cat
    (pe_lc rfl sc_parseBody.nd (pi_seq (pe_slice sl_list (pv 0) po_none (po_some (pe_un un_neg pe_int)))) (blkOk_by (own:=[("word",3)]) (by show blkC ["words","bare","body","word"] (defScope sParseBody) _ _ = true; decide +kernel))
     (fun _ _ _ _ _=>pg_name (i:=3) sc_parseBody.nd rfl (Or.inl rfl)) (fun _ _ _ _ _=>pts_nil) (fun _ _ _ _ _=>pe_has hW (hr.mono (by decide)) rfl (pa_cons (pv 3) (pa_cons pe_str pa_nil))))
    (pe_slice sl_list (pv 0) (po_some (pe_un un_neg pe_int)) po_none)))
   (pss_cons (ps_setLc (i:=2) rfl sc_parseBody.nd rfl rfl (sw_true rfl rfl rfl (by rfl)) (pi_seq (pv 1)) (blkOk_by (own:=[("word",3)]) (by show blkC ["words","bare","body","word"] (defScope sParseBody) _ _ = true; decide +kernel))
    (fun _ _ _ _ _=>pg_name (i:=3) sc_parseBody.nd rfl (Or.inl rfl)) (fun _ _ _ _ _=>pts_nil) (fun _ _ _ _ _=>pe_has hL hr rfl (pa_cons (pv 3) pa_nil)))
   (pss_cons (ps_if (pt_cmpR (op_inD hr.units) pe_non (pv 2) (by rfl)) (pss_one (ps_ret pe_non)) pss_nil)
   (pss_one (ps_ret (pe_callTy call_tuple_of rfl B.tuple boot_tuple' (pa_cons (pv 2) pa_nil))))))),?_⟩
  have hlen:=al.len
  refine ⟨_,rfl,a,_,rfl,.inl (SqL.of ha),_,_,rfl,rfl,_,rfl,?_⟩
  rw [List.length_map]
  refine ite2 (fun h1=>?_) (fun h1=>?_)
  ·have e : (6 : Int) < ps.length:=of_decide_eq_true h1
   refine k1 H (Same.refl H) ?_
   unfold ML.pBody
   rw [if_pos (by omega)]
  ·have e : ¬ (6 : Int) < ps.length:=fun z=>h1 (decide_eq_true z)
   have ep : ML.pBody ws = ML.allSome ((ML.bare ws).map litOf):=by
    unfold ML.pBody
    rw [if_neg (by omega),ML.bodyOf_bare]
   rw [ep] at k1 k2
   refine ⟨_,rfl,_,rfl,_,rfl,a,_,rfl,SqL.of ha,fun c hc=>?_⟩
   have s1 : Same H (upd H c (.lst (cutV (ps.map V.ref) none (some (-1))))):=Same.new hc
   refine ⟨c,_,true,rfl,SqL.of upd_same,fun J S d hd=>?_⟩
   refine lc_map (S _ (SqL.of upd_same)) (fun i acc H'=>∃ qs,acc = qs.map V.ref∧All2 (Wd H') ((ws.dropLast.take i).map (ML.woEnd 44)) qs) (by rintro _ _ _ _ t ⟨qs,e,z⟩; exact ⟨qs,e,z.mono fun _ _ r=>r.mono t⟩) hd (lt_size (Nat.le_trans (cutV_length _ _ _) (by rw [List.length_map]; omega))) (fun _=>rfl) ⟨[],rfl,.nil⟩ ?_ ?_
   ·rintro i y acc H2 QA QB hi hy sm ⟨qs,rfl,rl⟩ ka kb
    rw [cut_init,← List.map_dropLast] at hy
    obtain ⟨b,hb,rfl⟩:=map_ref_get hy
    rw [List.dropLast_eq_take] at hb
    obtain ⟨x,hx,hxb⟩:=(al.take (ps.length - 1)).get hb
    have hx' : ws.dropLast[i]? = some x:=by rw [List.dropLast_eq_take,hlen]; exact hx
    refine ⟨_,rfl,b,x,("," : Str),44,rfl,rfl,hxb.mono (s1.trans sm).tups,fun p H3 s3 h3=>ka _ _ s3 ⟨qs ++ [p],by rw [List.map_append]; rfl,?_⟩⟩
    rw [← take_snoc hx',List.map_append]
    exact All2.snoc h3 (rl.mono fun _ _ r=>r.mono s3.tups)
   ·rintro ys H2 ⟨qs,rfl,rl⟩ hy sm
    have s12:=s1.trans sm
    have rl' : All2 (Wd H2) (ws.dropLast.map (ML.woEnd 44)) qs:=by
     rw [List.take_of_length_le] at rl
     ·exact rl
     ·rw [cut_init,List.length_dropLast,List.length_dropLast,List.length_map]; omega
    refine ⟨_,rfl,_,rfl,_,rfl,a,_,rfl,SqL.of (s12 _ _ ha),fun t ht=>?_⟩
    rw [show (-(1 : Int)) = -1 from rfl,cut_last,map_dropL]
    have nd : d≠t:=ne_of_none hy ht
    have lq : qs.length≤8500:=by rw [← rl'.len,List.length_map,List.length_dropLast]; omega
    refine ⟨d,t,_,_,rfl,rfl,by rw [upd_ne nd]; exact hy,upd_same,Nat.le_of_lt (lt_size (by rw [List.length_map,List.length_map,List.length_drop]; omega)),fun u hu=>?_⟩
    rw [← List.map_append]
    have s3 : Same H2 (upd (upd H2 t (.lst ((ps.drop (ps.length - 1)).map V.ref))) u (.lst ((qs ++ ps.drop (ps.length - 1)).map V.ref))):=(Same.new ht).trans (Same.new hu)
    generalize eH3 : upd (upd H2 t (.lst ((ps.drop (ps.length - 1)).map V.ref))) u (.lst ((qs ++ ps.drop (ps.length - 1)).map V.ref)) = H3 at s3 ⊢
    have hu3 : H3 u = some (.lst ((qs ++ ps.drop (ps.length - 1)).map V.ref)):=by rw [← eH3]; exact upd_same
    have s13:=s12.trans s3
    have alB : All2 (Wd H3) (ML.bare ws) (qs ++ ps.drop (ps.length - 1)):=by
     unfold ML.bare
     rw [← drop_getLast,hlen]
     exact All2.app (rl'.mono fun _ _ r=>r.mono s3.tups) ((al.drop _).mono fun _ _ r=>r.mono s13.tups)
    have lB : (ML.bare ws).length≤8500:=by
     unfold ML.bare
     rw [List.length_append,List.length_map,List.length_dropLast,← drop_getLast,List.length_drop]; omega
    have wB : ∀ x∈ML.bare ws,x.length≤8300:=by
     unfold ML.bare
     intro x hx
     rcases List.mem_append.mp hx with hx | hx
     ·obtain ⟨y,hy,rfl⟩:=List.mem_map.mp hx
      have:=hwl y (by rw [List.dropLast_eq_take] at hy; exact List.mem_of_mem_take hy)
      unfold ML.woEnd
      split
      ·rw [List.length_dropLast]; omega
      ·exact Nat.zero_le _
     ·rw [← drop_getLast] at hx
      exact hwl x (List.mem_of_mem_drop hx)
    refine ⟨_,rfl,u,_,true,rfl,SqL.of hu3,fun J2 S2 d2 hd2=>?_⟩
    have lenB : ((qs ++ ps.drop (ps.length - 1)).map V.ref).length = (ML.bare ws).length:=by rw [List.length_map]; exact alB.len.symm
    refine lc_map (S2 _ (SqL.of hu3)) (fun i acc H'=>Paired (OL H') (((ML.bare ws).take i).map litOf) acc) (fun _ _ _ _ t z=>paired_mono (fun _ _ r=>r.mono t) z) hd2 (lt_size (by rw [lenB]; omega)) (fun _=>rfl) .nil ?_ ?_
    ·rintro i y acc H4 QA QB hi hy4 sm4 rl4 ka kb
     obtain ⟨b,hb,rfl⟩:=map_ref_get hy4
     obtain ⟨x,hx,hxb⟩:=alB.get hb
     have up : ∀ {v : V} {H5 : Hp},Same H4 H5→OL H5 (litOf x) v→Paired (OL H5) (((ML.bare ws).take (i + 1)).map litOf) (acc ++ [v]):=fun s5 o=>by
      rw [← take_snoc hx,List.map_append]
      exact paired_snoc o (paired_mono (fun _ _ r=>r.mono s5.tups) rl4)
     refine ⟨_,rfl,b,x,rfl,hxb.mono sm4.tups,wB x (List.mem_of_getElem? hx),fun H5 s5 e5=>ka _ _ s5 (up s5 (by rw [e5]; rfl)),fun H5 p y s5 e5 h5=>ka _ _ s5 (up s5 (by rw [e5]; exact ⟨p,rfl,h5⟩))⟩
    ·rintro ys H4 rl4 hy4 sm4
     rw [lenB,List.take_length] at rl4
     have s14:=s13.trans sm4
     refine ⟨_,rfl,_,_,.non,.lst (SqL.of hy4) (dp_ol rl4),by simp [PyData.canLay0],by simp [PyData.depth],lay_map lay_dO _,_,rfl,?_⟩
     show if (((ML.bare ws).map litOf).map dO).any (fun z=>PyData.eqv z .none) = true then _ else _
     rw [any_dO]
     refine ite2 (fun h5=>?_) (fun h5=>?_)
     ·refine k1 H4 s14 (ML.allSome_none.mpr ?_)
      obtain ⟨o,ho,e⟩:=List.any_eq_true.mp h5
      cases o with
      | none=>exact ho
      | some _=>cases e
     ·cases hb : ML.allSome ((ML.bare ws).map litOf) with
      | none=>exact absurd (List.any_eq_true.mpr ⟨none,ML.allSome_none.mp hb,rfl⟩) h5
      | some b =>
       have eb:=ML.allSome_some.mp hb
       rw [eb] at rl4
       obtain ⟨bs,rfl,alL⟩:=lits_of rl4
       refine ⟨_,rfl,d2,_,rfl,.inl ⟨SqL.of hy4,fun l hl=>k2 _ l b (s14.trans (Same.new hl)) hb ⟨bs,upd_same,alL.mono fun _ _ r=>r.mono (Same.new hl).tups⟩⟩⟩
end
end SC
end
section
set_option maxRecDepth 100000
set_option maxHeartbeats 4000000
namespace SC
open PySem L2 L3 Mo
theorem atI_neg {α : Type} {xs : List α} {k : Nat} (h1 : 1≤k) (h2 : k≤xs.length) : atI xs (-(k : Int)) = xs[xs.length - k]?:=by
 unfold atI
 have e : ixN xs.length (-(k : Int)) = some (xs.length - k):=by
  unfold ixN
  rw [if_neg (by omega),if_pos (by omega)]
  congr 1; omega
 rw [e]
 rfl
structure Ws (H : Hp) (ws : List Bytes) (a : Addr) (ps : List Addr) : Prop where
 at_ : H a = some (.lst (ps.map V.ref))
 al : All2 (Wd H) ws ps
 wl : ∀ x∈ws,x.length≤8300
 wn : ws.length≤8400
theorem Ws.same {H H' : Hp} {ws : List Bytes} {a : Addr} {ps : List Addr} (h : Ws H ws a ps) (s : Same H H') : Ws H' ws a ps:=⟨s _ _ h.at_,h.al.mono fun _ _ r=>r.mono s.tups,h.wl,h.wn⟩
theorem Ws.get {H : Hp} {ws : List Bytes} {a : Addr} {ps : List Addr} (h : Ws H ws a ps) {i : Nat} (hi : i < ws.length) : ∃ b,(ps.map V.ref)[i]? = some (.ref b)∧Wd H (ws.getD i []) b∧(ws.getD i []).length≤8300:=by
 obtain ⟨b,h1,h2⟩:=h.al.get' (List.getElem?_eq_getElem hi)
 refine ⟨b,by rw [List.getElem?_map,h1]; rfl,?_,?_⟩
 ·rw [List.getD_eq_getElem?_getD,List.getElem?_eq_getElem hi]; exact h2
 ·rw [List.getD_eq_getElem?_getD,List.getElem?_eq_getElem hi]; exact h.wl _ (List.getElem_mem hi)
theorem Ws.len {H : Hp} {ws : List Bytes} {a : Addr} {ps : List Addr} (h : Ws H ws a ps) : (ps.map V.ref).length = ws.length:=by rw [List.length_map]; exact h.al.len.symm
theorem getD_some {ws : List Bytes} {i : Nat} (hi : i < ws.length) {x : Bytes} : ws[i]? = some x↔ws.getD i [] = x:=by
 rw [List.getD_eq_getElem?_getD,List.getElem?_eq_getElem hi]
 constructor
 ·intro h; exact Option.some.inj h
 ·intro h; exact congrArg some h
section
variable {P : Program} {w : World} {K : PySem.W.Frag} {mg : Str→Option Value} {base : Heap}
theorem sc_parseClause : FnScope ["words","arrow","name","body","head"] ["words","arrow"] (defScope sParseClause):=⟨rfl,rfl,rfl,by decide +kernel,rfl,by decide +kernel,by decide +kernel⟩
def spParseClause (C : Addr) : Sp:=fun vs H Q _=>∃ (a : Addr) (ws : List Bytes) (ps : List Addr) (x : Str),vs = [.ref a,.str x]∧x.cps.size≤100∧Ws H ws a ps ∧
 (∀ H',Same H H'→ML.pClause x.cps.toList ws = none→Q .non H')∧∀ H' p r,Same H H'→ML.pClause x.cps.toList ws = some r→ClauseAt C H' r p→Q (.ref p) H'
theorem ok_parseClause {C : Addr} (B : Bs mg) (D : DefAt K mg "parse_clause" sParseClause ["words","arrow"]) (hS : Has P w K mg base 1 "spell" ["text"] spSpell) (hW : Has P w K mg base 2 "without_ending" ["word","sign"] spWoEnd)
 (hN : Has P w K mg base 3 "is_name" ["word"] spIsName) (hL : Has P w K mg base 4 "parse_literal" ["word"] spParseLit) (hB : Has P w K mg base 5 "parse_body" ["words"] spParseBody) (hC : HasCls P w K mg base 1 "Clause" C ["self","name","body","head"] (spClauseInit C)) :
 Has P w K mg base 6 "parse_clause" ["words","arrow"] (spParseClause C):=D.has fun f fd F=>by
 refine F.ok sc_parseClause (fun vs H Q E h=>?_) (fun cdv A outer s H vs Q E hr h=>?_)
 ·obtain ⟨a,ws,ps,x,rfl,_⟩:=h
  rfl
 ·obtain ⟨a,ws,ps,x,rfl,hx,W,k1,k2⟩:=h
  refine ⟨_,pss_cons (ps_if (PW.pt (pw_or (pt_cmpR op_lt (pe_callB call_len_seq rfl B.len boot_len' (pa_cons (pv 0) pa_nil)) pe_int (nomark _))
   (pw_or1 (pt_cmpR (op_neD hr.units) (pe_ix ix_list (pv 0) (pe_un un_neg pe_int) (fun _ _=>rfl)) (pe_has hS (hr.mono (by decide)) rfl (pa_cons (pv 1) pa_nil)) (nomark _))))) (pss_one (ps_ret pe_non)) pss_nil)
   (pss_cons (ps_set (i:=2) sc_parseClause.nd rfl (Or.inl rfl) (pe_has hW (hr.mono (by decide)) rfl (pa_cons (pe_ix ix_list (pv 0) pe_int (fun _ _=>rfl)) (pa_cons pe_str pa_nil))))
   (pss_cons (ps_set (i:=3) sc_parseClause.nd rfl (Or.inl rfl) (pe_has hB hr rfl (pa_cons (pe_slice sl_list (pv 0) (po_some pe_int) (po_some (pe_un un_neg pe_int))) pa_nil)))
   (pss_cons (ps_set (i:=4) sc_parseClause.nd rfl (Or.inl rfl) (pe_has hL (hr.mono (by decide)) rfl (pa_cons (pe_ix ix_list (pv 0) (pe_un un_neg pe_int) (fun _ _=>rfl)) pa_nil)))
   (pss_cons (ps_if (PW.pt (pw_or (pt_not (pt_val (pe_has hN (hr.mono (by decide)) rfl (pa_cons (pv 2) pa_nil)))) (pw_or (pt_cmpR op_isN (pv 3) pe_non (nomark _)) (pw_or1 (pt_cmpR op_isN (pv 4) pe_non (nomark _)))))) (pss_one (ps_ret pe_non)) pss_nil)
   (pss_one (ps_ret (pe_hasC hC (hr.mono (by decide)) rfl (pa_cons (pv 2) (pa_cons (pv 3) (pa_cons (pv 4) pa_nil)))))))))),?_⟩
  refine ⟨_,rfl,a,_,rfl,.inl (SqL.of W.at_),_,_,rfl,rfl,_,rfl,?_⟩
  rw [W.len]
  refine ite2 (fun h1=>?_) (fun h1=>?_)
  ·have e : (ws.length : Int) < 4:=of_decide_eq_true h1
   refine iteT (k1 H (Same.refl H) ?_)
   unfold ML.pClause
   rw [if_pos (.inl (by omega))]
  ·have e : ¬ (ws.length : Int) < 4:=fun z=>h1 (decide_eq_true z)
   have h4 : 4≤ws.length:=by omega
   obtain ⟨b2,g2,w2,_⟩:=W.get (i:=ws.length - 2) (by omega)
   obtain ⟨b1,g1,w1,l1⟩:=W.get (i:=1) (by omega)
   obtain ⟨b0,g0,w0,l0⟩:=W.get (i:=ws.length - 1) (by omega)
   have at2 : atI (ps.map V.ref) (-(2 : Int)) = some (.ref b2):=by
    rw [show (-(2 : Int)) = -((2 : Nat) : Int) from rfl,atI_neg (by decide) (by rw [W.len]; omega),W.len]
    exact g2
   have at0 : atI (ps.map V.ref) (-(1 : Int)) = some (.ref b0):=by
    rw [show (-(1 : Int)) = -((1 : Nat) : Int) from rfl,atI_neg (by decide) (by rw [W.len]; omega),W.len]
    exact g0
   refine ⟨_,rfl,_,rfl,a,_,_,_,rfl,rfl,SqL.of W.at_,at2,?_⟩
   refine ⟨_,rfl,x,rfl,hx,fun q H1 s1 h1=>?_⟩
   refine ⟨_,_,(w2.mono s1.tups).dp,h1.dp,sh_dN _,sh_dN _,_,rfl,?_⟩
   rw [eqv_dN]
   refine ite2 (fun h2=>?_) (fun h2=>?_)
   ·refine k1 H1 s1 ?_
    have e2 : ¬ ws.getD (ws.length - 2) [] = x.cps.toList:=by simpa using h2
    unfold ML.pClause
    rw [if_pos (.inr fun z=>e2 ((getD_some (by omega)).mp z))]
   ·have e2 : ws.getD (ws.length - 2) [] = x.cps.toList:=by simpa using h2
    have ec : ML.pClause x.cps.toList ws = if isName (ML.woEnd 58 (ws.getD 1 [])) = true then (match ML.pBody ((ws.drop 2).take (ws.length - 4)),litOf (ws.getD (ws.length - 1) []) with
     | some b,some h=>some ⟨ML.woEnd 58 (ws.getD 1 []),b,h⟩
     | _,_=>none) else none:=by
     have eg : ws.getLast?.getD [] = ws.getD (ws.length - 1) []:=by rw [List.getLast?_eq_getElem?,List.getD_eq_getElem?_getD]
     unfold ML.pClause
     rw [if_neg (by rintro (z | z); omega; exact z ((getD_some (by omega)).mpr e2)),eg]
     all_goals rfl
    rw [ec] at k1 k2
    refine ⟨_,rfl,a,_,_,_,rfl,rfl,SqL.of (s1 _ _ W.at_),atI_nat (j:=1) g1,b1,ws.getD 1 [],(":" : Str),58,rfl,rfl,w1.mono s1.tups,fun n H2 s2 h2=>?_⟩
    have s12:=s1.trans s2
    have ln : (ML.woEnd 58 (ws.getD 1 [])).length≤8300:=by
     unfold ML.woEnd
     split
     ·rw [List.length_dropLast]; omega
     ·exact Nat.zero_le _
    refine ⟨_,rfl,_,rfl,_,rfl,_,rfl,a,_,rfl,SqL.of (s12 _ _ W.at_),fun c hc=>?_⟩
    rw [show (-(2 : Int)) = -2 from rfl,cut_mid _ (by rw [W.len]; exact h4),W.len,← List.map_drop,← List.map_take]
    have s3 : Same H2 (upd H2 c (.lst (((ps.drop 2).take (ws.length - 4)).map V.ref))):=Same.new hc
    have s13:=s12.trans s3
    refine ⟨c,(ws.drop 2).take (ws.length - 4),_,rfl,upd_same,(((W.al.drop 2).take _).mono fun _ _ r=>r.mono s13.tups),fun y hy=>W.wl y (List.mem_of_mem_drop (List.mem_of_mem_take hy)),by have:=W.wn; rw [List.length_take]; omega,?_⟩
    have rest : ∀ (H4 : Hp) (vb : V) (ob : Option (List Lit)),Same (upd H2 c (.lst (((ps.drop 2).take (ws.length - 4)).map V.ref))) H4→ob = ML.pBody ((ws.drop 2).take (ws.length - 4))→(match ob with | none=>vb = .non | some b=>∃ p,vb = .ref p∧Bd H4 b p) →
     tSeq (tAsg (tCall spParseLit [] E0 (tCons (tOp (rIxL K) (tVar 0) (tUn (rU fun i=>.int (-i)) (tC (.int 1)))) tNil)) (gName 4))
      (tSeq (tIfS (tOr (tNot (tB (tCall spIsName [] E0 (tCons (tVar 2) tNil)))) (tOr (tTest (tOp (fun x y H Q=>y = .non∧Q (.bl (decide (x = .non))) H) (tVar 3) (tC .non))) (tTest (tOp (fun x y H Q=>y = .non∧Q (.bl (decide (x = .non))) H) (tVar 4) (tC .non))))) (tRet (tC .non)) tNext)
       (tRet (tMake C (spClauseInit C) [] E0 (tCons (tVar 2) (tCons (tVar 3) (tCons (tVar 4) tNil)))))) { nx:=fun _ H'=>Q .non H',rt:=Q } [some (.ref a),some (.str x),some (.ref n),some vb,none] H4:=by
     intro H4 vb ob s4 eb hb
     have s14:=s13.trans s4
     have fin : ∀ (H5 : Hp) (vh : V) (oh : Option Lit),Same H4 H5→oh = litOf (ws.getD (ws.length - 1) [])→OL H5 oh vh →
      tSeq (tIfS (tOr (tNot (tB (tCall spIsName [] E0 (tCons (tVar 2) tNil)))) (tOr (tTest (tOp (fun x y H Q=>y = .non∧Q (.bl (decide (x = .non))) H) (tVar 3) (tC .non))) (tTest (tOp (fun x y H Q=>y = .non∧Q (.bl (decide (x = .non))) H) (tVar 4) (tC .non))))) (tRet (tC .non)) tNext)
       (tRet (tMake C (spClauseInit C) [] E0 (tCons (tVar 2) (tCons (tVar 3) (tCons (tVar 4) tNil))))) { nx:=fun _ H'=>Q .non H',rt:=Q } [some (.ref a),some (.str x),some (.ref n),some vb,some vh] H5:=by
      intro H5 vh oh s5 eh hh
      have s15:=s14.trans s5
      have s25 : Same H2 H5:=(s3.trans s4).trans s5
      refine ⟨_,rfl,n,_,rfl,h2.mono s25.tups,ln,fun H6 s6=>⟨_,rfl,?_⟩⟩
      have s16:=s15.trans s6
      cases hn : isName (ML.woEnd 58 (ws.getD 1 [])) with
      | false=>exact iteT (iteT (k1 H6 s16 (by rw [hn]; rfl)))
      | true =>
       refine iteF ⟨_,rfl,rfl,_,rfl,?_⟩
       cases ob with
       | none =>
        have hb : vb = .non:=hb
        subst hb
        refine iteT (iteT (k1 H6 s16 ?_))
        rw [hn,← eb]; rfl
       | some b =>
        obtain ⟨pb,rfl,hpb⟩:=hb
        refine iteF ⟨_,rfl,rfl,_,rfl,?_⟩
        cases oh with
        | none =>
         have hh : vh = .non:=hh
         subst hh
         refine iteT (k1 H6 s16 ?_)
         rw [hn,← eb,← eh]; rfl
        | some h =>
         obtain ⟨ph,rfl,hph⟩:=hh
         refine iteF ⟨_,rfl,_,rfl,_,rfl,fun o dx ho hdx hne=>⟨o,dx,_,_,_,rfl,upd_same,rfl,?_⟩⟩
         rw [upd_upd]
         have s7 : Same H6 (upd (upd H6 dx (.own o)) o (.ins C dx (clF (.ref n) (.ref pb) (.ref ph)))):=((Same.refl H6).set hdx).set ho
         refine k2 _ o ⟨_,b,h⟩ (s16.trans s7) (by rw [hn,← eb,← eh]; rfl) ⟨dx,n,pb,ph,upd_same,h2.mono ((s25.trans s6).trans s7).tups,hpb.mono ((s5.trans s6).trans s7).tups,hph.mono (s6.trans s7).tups⟩
     refine ⟨_,rfl,_,rfl,a,_,_,_,rfl,rfl,SqL.of (s14 _ _ W.at_),at0,b0,_,rfl,w0.mono s14.tups,l0,fun H5 s5 e5=>fin H5 .non none s5 e5.symm rfl,fun H5 p y s5 e5 h5=>fin H5 (.ref p) (some y) s5 e5.symm ⟨p,rfl,h5⟩⟩
    exact ⟨fun H4 s4 e4=>rest H4 .non none s4 e4.symm rfl,fun H4 p b s4 e4 h4=>rest H4 (.ref p) (some b) s4 e4.symm ⟨p,rfl,h4⟩⟩
theorem sc_parseWeight : FnScope ["words"] ["words"] (defScope sParseWeight):=⟨rfl,rfl,rfl,by decide +kernel,rfl,by decide +kernel,by decide +kernel⟩
def spParseWeight : Sp:=fun vs H Q _=>∃ (a : Addr) (ws : List Bytes) (ps : List Addr),vs = [.ref a]∧Ws H ws a ps ∧
 (∀ H',Same H H'→ML.pWeigh ws = none→Q .non H')∧∀ H' p x,Same H H'→ML.pWeigh ws = some x→Pr H' x p→Q (.ref p) H'
theorem ok_parseWeight (B : Bs mg) (G : ∃ t,mg "WEIGH_SIGN" = some (.str ">" t)) (D : DefAt K mg "parse_weight" sParseWeight ["words"]) (hS : Has P w K mg base 1 "spell" ["text"] spSpell) (hN : Has P w K mg base 3 "is_name" ["word"] spIsName) :
 Has P w K mg base 4 "parse_weight" ["words"] spParseWeight:=D.has fun f fd F=>by
 refine F.ok sc_parseWeight (fun vs H Q E h=>?_) (fun cdv A outer s H vs Q E hr h=>?_)
 ·obtain ⟨a,ws,ps,rfl,_⟩:=h
  rfl
 ·obtain ⟨a,ws,ps,rfl,W,k1,k2⟩:=h
  obtain ⟨tg,htg⟩:=G
  refine ⟨_,pss_cons (ps_if (PW.pt (pw_or (pt_cmpR op_ne (pe_callB call_len_seq rfl B.len boot_len' (pa_cons (pv 0) pa_nil)) pe_int (nomark _))
   (pw_or1 (pt_cmpR (op_neD hr.units) (pe_ix ix_list (pv 0) pe_int (fun _ _=>rfl)) (pe_has hS (hr.mono (by decide)) rfl (pa_cons (pe_glob (v:=.str ">") rfl htg ⟨tg,rfl⟩) pa_nil)) (nomark _))))) (pss_one (ps_ret pe_non)) pss_nil)
   (pss_cons (ps_if (PW.pt (pw_or (pt_not (pt_val (pe_has hN hr rfl (pa_cons (pe_ix ix_list (pv 0) pe_int (fun _ _=>rfl)) pa_nil)))) (pw_or1 (pt_not (pt_val (pe_has hN hr rfl (pa_cons (pe_ix ix_list (pv 0) pe_int (fun _ _=>rfl)) pa_nil))))))) (pss_one (ps_ret pe_non)) pss_nil)
   (pss_one (ps_ret (pe_tup (pa_cons (pe_ix ix_list (pv 0) pe_int (fun _ _=>rfl)) (pa_cons (pe_ix ix_list (pv 0) pe_int (fun _ _=>rfl)) pa_nil)))))),?_⟩
  refine ⟨_,rfl,a,_,rfl,.inl (SqL.of W.at_),rfl,_,rfl,?_⟩
  rw [W.len]
  refine ite2 (fun h1=>?_) (fun h1=>?_)
  ·have e : ¬ ws.length = 4:=fun z=>by rw [z] at h1; exact absurd h1 (by decide)
   refine iteT (k1 H (Same.refl H) ?_)
   unfold ML.pWeigh
   rw [if_pos (.inl e)]
  ·have e : ws.length = 4:=by
    have : decide (V.int (ws.length : Int) = V.int 4) = true:=by simpa using h1
    have:=of_decide_eq_true this
    injection this with this
    omega
   obtain ⟨b2,g2,w2,_⟩:=W.get (i:=2) (by omega)
   obtain ⟨b1,g1,w1,l1⟩:=W.get (i:=1) (by omega)
   obtain ⟨b3,g3,w3,l3⟩:=W.get (i:=3) (by omega)
   refine ⟨_,rfl,a,_,_,_,rfl,rfl,SqL.of W.at_,atI_nat (j:=2) g2,(">" : Str),rfl,by decide,fun q H1 s1 h1=>?_⟩
   refine ⟨_,_,(w2.mono s1.tups).dp,h1.dp,sh_dN _,sh_dN _,_,rfl,?_⟩
   rw [eqv_dN]
   refine ite2 (fun h2=>?_) (fun h2=>?_)
   ·refine k1 H1 s1 ?_
    have e2 : ¬ ws.getD 2 [] = (">" : Str).cps.toList:=by simpa using h2
    unfold ML.pWeigh
    rw [if_pos (.inr fun z=>e2 ((getD_some (by omega)).mp z))]
   ·have e2 : ws.getD 2 [] = [62]:=by
     have : ws.getD 2 [] = (">" : Str).cps.toList:=by simpa using h2
     exact this
    have ec : ML.pWeigh ws = if isName (ws.getD 1 []) = true∧isName (ws.getD 3 []) = true then some (ws.getD 1 [],ws.getD 3 []) else none:=by
     unfold ML.pWeigh
     rw [if_neg (by rintro (z | z); exact z e; exact z ((getD_some (by omega)).mpr e2))]
    rw [ec] at k1 k2
    have W1:=W.same s1
    refine ⟨_,rfl,a,_,_,_,rfl,rfl,SqL.of W1.at_,atI_nat (j:=1) g1,b1,_,rfl,w1.mono s1.tups,l1,fun H2 s2=>⟨_,rfl,?_⟩⟩
    have s12:=s1.trans s2
    have W2:=W.same s12
    cases hn1 : isName (ws.getD 1 []) with
    | false=>exact iteT (iteT (k1 H2 s12 (by rw [if_neg (by rw [hn1]; simp)])))
    | true =>
     refine iteF ⟨_,rfl,a,_,_,_,rfl,rfl,SqL.of W2.at_,atI_nat (j:=3) g3,b3,_,rfl,w3.mono s12.tups,l3,fun H3 s3=>⟨_,rfl,?_⟩⟩
     have s13:=s12.trans s3
     have W3:=W.same s13
     cases hn3 : isName (ws.getD 3 []) with
     | false=>exact iteT (k1 H3 s13 (by rw [if_neg (by rw [hn3]; simp)]))
     | true =>
      refine iteF ⟨_,rfl,a,_,_,_,rfl,rfl,SqL.of W3.at_,atI_nat (j:=1) g1,_,rfl,a,_,_,_,rfl,rfl,SqL.of W3.at_,atI_nat (j:=3) g3,(by show 2≤sizeLine; decide),fun t ht=>?_⟩
      exact k2 _ t _ (s13.trans (Same.new ht)) (by rw [if_pos ⟨hn1,hn3⟩]) (Pr.of upd_same (w1.mono (s13.trans (Same.new ht)).tups) (w3.mono (s13.trans (Same.new ht)).tups))
end
end SC
end
section
set_option maxRecDepth 100000
set_option maxHeartbeats 4000000
namespace SC
open PySem L2 L3 Mo
abbrev sCaseInit : Stmt:=inClass (top 10) 0
abbrev sLitAtoms : Stmt:=top 11
abbrev sRuleAtoms : Stmt:=top 12
abbrev sAddAtoms : Stmt:=top 13
abbrev sAddLaw : Stmt:=top 14
abbrev sAddRule : Stmt:=top 15
abbrev sAddWeight : Stmt:=top 16
abbrev sOwItself : Stmt:=top 17
abbrev sWhatFollows : Stmt:=top 20
abbrev sHasOpp : Stmt:=top 21
def csF (l r a w : V) : List (Str × V):=putF "weights" w (putF "atoms" a (putF "rules" r (putF "laws" l [])))
theorem n_lr : ¬ (("laws" : Str) = "rules"):=by decide +kernel
theorem n_la : ¬ (("laws" : Str) = "atoms"):=by decide +kernel
theorem n_lw : ¬ (("laws" : Str) = "weights"):=by decide +kernel
theorem n_ra : ¬ (("rules" : Str) = "atoms"):=by decide +kernel
theorem n_rw : ¬ (("rules" : Str) = "weights"):=by decide +kernel
theorem n_aw : ¬ (("atoms" : Str) = "weights"):=by decide +kernel
theorem csF_eq (l r a w : V) : csF l r a w = ([("laws",l),("rules",r),("atoms",a),("weights",w)] : List (Str × V)):=by
 unfold csF
 have e1 : putF "rules" r (putF "laws" l []) = ([("laws",l),("rules",r)] : List (Str × V)):=by
  show (if ("laws" : Str) = "rules" then _ else (("laws" : Str),l) :: putF "rules" r []) = _
  rw [if_neg n_lr]; rfl
 have e2 : putF "atoms" a ([("laws",l),("rules",r)] : List (Str × V)) = ([("laws",l),("rules",r),("atoms",a)] : List (Str × V)):=by
  show (if ("laws" : Str) = "atoms" then _ else (("laws" : Str),l) :: (if ("rules" : Str) = "atoms" then _ else (("rules" : Str),r) :: putF "atoms" a [])) = _
  rw [if_neg n_la,if_neg n_ra]; rfl
 rw [e1,e2]
 show (if ("laws" : Str) = "weights" then _ else (("laws" : Str),l) :: (if ("rules" : Str) = "weights" then _ else (("rules" : Str),r) :: (if ("atoms" : Str) = "weights" then _ else (("atoms" : Str),a) :: putF "weights" w []))) = _
 rw [if_neg n_lw,if_neg n_rw,if_neg n_aw]; rfl
theorem csF_laws (l r a w : V) : (csF l r a w).lookup ("laws" : Str) = some l:=by unfold csF; rw [lookup_putF,if_neg n_lw,lookup_putF,if_neg n_la,lookup_putF,if_neg n_lr,lookup_putF,if_pos rfl]
theorem csF_rules (l r a w : V) : (csF l r a w).lookup ("rules" : Str) = some r:=by unfold csF; rw [lookup_putF,if_neg n_rw,lookup_putF,if_neg n_ra,lookup_putF,if_pos rfl]
theorem csF_atoms (l r a w : V) : (csF l r a w).lookup ("atoms" : Str) = some a:=by unfold csF; rw [lookup_putF,if_neg n_aw,lookup_putF,if_pos rfl]
theorem csF_weights (l r a w : V) : (csF l r a w).lookup ("weights" : Str) = some w:=by unfold csF; rw [lookup_putF,if_pos rfl]
structure CsT (K : PySem.W.Frag) (C : Addr) : Prop where
 cl : Cls K C
 laws : NoAttr K C "laws"
 rules : NoAttr K C "rules"
 atoms : NoAttr K C "atoms"
 weights : NoAttr K C "weights"
structure CA where
 a : Addr
 dx : Addr
 la : Addr
 lr : Addr
 da : Addr
 dw : Addr
def CObj (Cc : Addr) (H : Hp) (A : CA) : Prop:=H A.a = some (.ins Cc A.dx (csF (.ref A.la) (.ref A.lr) (.ref A.da) (.ref A.dw)))
section
variable (P : Program) (w : World)
structure CaseAt (Cc C : Addr) (H : Hp) (c : Case) (A : CA) : Prop where
 ob : CObj Cc H A
 laws : ∃ ps,H A.la = some (.lst (ps.map V.ref))∧All2 (ClauseAt C H) c.laws ps
 rules : ∃ ps,H A.lr = some (.lst (ps.map V.ref))∧All2 (ClauseAt C H) c.rules ps
 atoms : ∃ ks : List Bytes,DAt nameD P w H A.da (ks.map nI)∧ks.Nodup∧∀ n,n∈ks↔n∈c.atoms
 wts : ∃ ks : List (Bytes × Bytes),DAt pairD P w H A.dw (ks.map pI)∧ks.Nodup∧∀ x y,(x,y)∈ks↔ML.Over c.weighs x y
 n1 : A.la≠A.lr
 n2 : A.da≠A.dw
end
theorem _root_.L3.DAt.stay {K : Type} [DecidableEq K] {D : KD K} {P : Program} {w : World} {H H' : Hp} {a : Addr} {ks : List K} (h : DAt D P w H a ks) (t : Tups H H') (e : H' a = H a) : DAt D P w H' a ks:=by
 obtain ⟨xs,h1,h2,h3,h4,h5⟩:=h
 exact ⟨xs,h1,by rw [e]; exact h2,fun x hx=>D.mono t (h3 x hx),h4,h5⟩
theorem _root_.L3.DAt.same {K : Type} [DecidableEq K] {D : KD K} {P : Program} {w : World} {H H' : Hp} {a : Addr} {ks : List K} (h : DAt D P w H a ks) (s : Same H H') : DAt D P w H' a ks:=by
 obtain ⟨xs,h1,h2,h3,h4,h5⟩:=id h
 exact ⟨xs,h1,s _ _ h2,fun x hx=>D.mono s.tups (h3 x hx),h4,h5⟩
theorem _root_.L3.DAt.some_ {K : Type} [DecidableEq K] {D : KD K} {P : Program} {w : World} {H : Hp} {a : Addr} {ks : List K} (h : DAt D P w H a ks) : ∃ xs,H a = some (DO D P w a xs):=let ⟨xs,_,h2,_⟩:=h; ⟨xs,h2⟩
def spCaseInit (P : Program) (w : World) (Cc : Addr) : Sp:=fun vs H Q _=>∃ (p dx : Addr),vs = [.ref p]∧H p = some (.ins Cc dx []) ∧
 ∀ (A : CA) (H' : Hp),A.a = p→A.dx = dx→CObj Cc H' A→H' A.la = some (.lst [])→H' A.lr = some (.lst [])→DAt nameD P w H' A.da []→DAt pairD P w H' A.dw []→A.la≠A.lr→A.da≠A.dw→H A.la = none→H A.lr = none→H A.da = none→H A.dw = none→(∀ b o,H b = some o→b≠p→H' b = some o)→Q .non H'
section
variable {P : Program} {w : World} {K : PySem.W.Frag} {mg : Str→Option Value} {base : Heap}
theorem sc_caseInit : FnScope ["self"] ["self"] (defScope sCaseInit):=⟨rfl,rfl,rfl,by decide +kernel,rfl,by decide +kernel,by decide +kernel⟩
theorem ok_case {Cc : Addr} (T : CsT K Cc) (D : ClsDef K mg "Case" "Case.__init__" sCaseInit Cc ["self"]) : HasCls P w K mg base 1 "Case" Cc ["self"] (spCaseInit P w Cc):=D.has fun f fd F=>by
 refine F.ok sc_caseInit (fun vs H Q E h=>?_) (fun cdv A outer s H vs Q E hr h=>?_)
 ·obtain ⟨p,dx,rfl,_⟩:=h
  rfl
 ·obtain ⟨p,dx,rfl,hp,k⟩:=h
  refine ⟨_,pss_cons (ps_fld (pv 0) (pe_lst pa_nil) rfl) (pss_cons (ps_fld (pv 0) (pe_lst pa_nil) rfl) (pss_cons (ps_fld (pv 0) (pe_dn nameD) rfl) (pss_one (ps_fld (pv 0) (pe_dn pairD) rfl)))),?_⟩
  refine ⟨Nat.zero_le _,fun l hl=>?_⟩
  have npl : p≠l:=ne_of_none hp hl
  refine ⟨_,rfl,p,Cc,dx,_,rfl,(by rw [upd_ne npl]; exact hp),T.cl,T.laws,(by show 0 < 1000; decide),?_⟩
  have a1 : (upd (upd H l (.lst [])) p (.ins Cc dx (putF "laws" (.ref l) []))) p = some (.ins Cc dx (putF "laws" (.ref l) [])):=upd_same
  have b1 : (upd (upd H l (.lst [])) p (.ins Cc dx (putF "laws" (.ref l) []))) l = some (.lst []):=by rw [upd_ne npl.symm]; exact upd_same
  have c1 : ∀ b,b≠p→b≠l→(upd (upd H l (.lst [])) p (.ins Cc dx (putF "laws" (.ref l) []))) b = H b:=fun b h1 h2=>by rw [upd_ne h1,upd_ne h2]
  generalize upd (upd H l (.lst [])) p (.ins Cc dx (putF "laws" (.ref l) [])) = H1 at a1 b1 c1 ⊢
  refine ⟨Nat.zero_le _,fun r hr2=>?_⟩
  have npr : p≠r:=ne_of_none a1 hr2
  have nlr : l≠r:=ne_of_none b1 hr2
  refine ⟨_,rfl,p,Cc,dx,_,rfl,(by rw [upd_ne npr]; exact a1),T.cl,T.rules,(by show 1 < 1000; decide),?_⟩
  have a2 : (upd (upd H1 r (.lst [])) p (.ins Cc dx (putF "rules" (.ref r) (putF "laws" (.ref l) [])))) p = some (.ins Cc dx (putF "rules" (.ref r) (putF "laws" (.ref l) []))):=upd_same
  have b2 : (upd (upd H1 r (.lst [])) p (.ins Cc dx (putF "rules" (.ref r) (putF "laws" (.ref l) [])))) l = some (.lst []):=by rw [upd_ne npl.symm,upd_ne nlr]; exact b1
  have d2 : (upd (upd H1 r (.lst [])) p (.ins Cc dx (putF "rules" (.ref r) (putF "laws" (.ref l) [])))) r = some (.lst []):=by rw [upd_ne npr.symm]; exact upd_same
  have c2 : ∀ b,b≠p→b≠l→b≠r→(upd (upd H1 r (.lst [])) p (.ins Cc dx (putF "rules" (.ref r) (putF "laws" (.ref l) [])))) b = H b:=fun b h1 h2 h3=>by rw [upd_ne h1,upd_ne h3]; exact c1 b h1 h2
  have r0 : H r = none:=by rw [← c1 r npr.symm nlr.symm]; exact hr2
  generalize upd (upd H1 r (.lst [])) p (.ins Cc dx (putF "rules" (.ref r) (putF "laws" (.ref l) []))) = H2 at a2 b2 c2 d2 ⊢
  intro d H3 hd dat e3
  have npd : p≠d:=ne_of_none a2 hd
  have nld : l≠d:=ne_of_none b2 hd
  have nrd : r≠d:=ne_of_none d2 hd
  have d0 : H d = none:=by rw [← c2 d npd.symm nld.symm nrd.symm]; exact hd
  have e2 : putF "rules" (.ref r) (putF "laws" (.ref l) []) = ([("laws",.ref l),("rules",.ref r)] : List (Str × V)):=by
   show (if ("laws" : Str) = "rules" then _ else (("laws" : Str),V.ref l) :: putF "rules" (.ref r) []) = _
   rw [if_neg n_lr]; rfl
  refine ⟨_,rfl,p,Cc,dx,_,rfl,(by rw [e3 _ npd]; exact a2),T.cl,T.atoms,(by rw [e2]; show 2 < 1000; decide),?_⟩
  have a3 : (upd H3 p (.ins Cc dx (putF "atoms" (.ref d) (putF "rules" (.ref r) (putF "laws" (.ref l) []))))) p = some (.ins Cc dx (putF "atoms" (.ref d) (putF "rules" (.ref r) (putF "laws" (.ref l) [])))):=upd_same
  have t3 : Tups H3 (upd H3 p (.ins Cc dx (putF "atoms" (.ref d) (putF "rules" (.ref r) (putF "laws" (.ref l) []))))):=tups_upd (by rw [e3 _ npd]; exact a2) (fun _ z=>by cases z)
  have dat3:=dat.stay t3 (upd_ne npd.symm)
  have c3 : ∀ b,b≠p→b≠d→(upd H3 p (.ins Cc dx (putF "atoms" (.ref d) (putF "rules" (.ref r) (putF "laws" (.ref l) []))))) b = H2 b:=fun b h1 h2=>by rw [upd_ne h1]; exact e3 b h2
  generalize upd H3 p (.ins Cc dx (putF "atoms" (.ref d) (putF "rules" (.ref r) (putF "laws" (.ref l) [])))) = H4 at a3 dat3 c3 ⊢
  intro d' H5 hd' dat' e5
  obtain ⟨xs3,hx3⟩:=dat3.some_
  have npd' : p≠d':=ne_of_none a3 hd'
  have ndd' : d≠d':=ne_of_none hx3 hd'
  have nld' : l≠d':=ne_of_none ((c3 l npl.symm nld).trans b2) hd'
  have nrd' : r≠d':=ne_of_none ((c3 r npr.symm nrd).trans d2) hd'
  have d0' : H d' = none:=by rw [← c2 d' npd'.symm nld'.symm nrd'.symm,← c3 d' npd'.symm ndd'.symm]; exact hd'
  have a5 : H5 p = some (.ins Cc dx (putF "atoms" (.ref d) (putF "rules" (.ref r) (putF "laws" (.ref l) [])))):=(e5 p npd').trans a3
  have e3' : putF "atoms" (.ref d) (putF "rules" (.ref r) (putF "laws" (.ref l) [])) = ([("laws",.ref l),("rules",.ref r),("atoms",.ref d)] : List (Str × V)):=by
   rw [e2]
   show (if ("laws" : Str) = "atoms" then _ else (("laws" : Str),V.ref l) :: (if ("rules" : Str) = "atoms" then _ else (("rules" : Str),V.ref r) :: putF "atoms" (.ref d) [])) = _
   rw [if_neg n_la,if_neg n_ra]; rfl
  refine ⟨_,rfl,p,Cc,dx,_,rfl,a5,T.cl,T.weights,(by rw [e3']; show 3 < 1000; decide),?_⟩
  have t5 : Tups H5 (upd H5 p (.ins Cc dx (csF (.ref l) (.ref r) (.ref d) (.ref d')))):=tups_upd a5 (fun _ z=>by cases z)
  have t4 : Tups H4 H5:=fun b xs e=>by rw [e5 b (ne_of_none e hd')]; exact e
  refine k ⟨p,dx,l,r,d,d'⟩ _ rfl rfl upd_same ?_ ?_ ((dat3.stay t4 (e5 d ndd')).stay t5 (upd_ne npd.symm)) (dat'.stay t5 (upd_ne npd'.symm)) nlr ndd' hl r0 d0 d0' fun b o e hb=>?_
  ·rw [upd_ne npl.symm,e5 l nld',c3 l npl.symm nld]; exact b2
  ·rw [upd_ne npr.symm,e5 r nrd',c3 r npr.symm nrd]; exact d2
  ·rw [upd_ne hb,e5 b (ne_of_none e d0'),c3 b hb (ne_of_none e d0),c2 b hb (ne_of_none e hl) (ne_of_none e r0)]; exact e
def litAtoms (r : Row) : List Bytes:=r.body.map Lit.atom ++ [r.head.atom]
def ruleAtoms (r : Row) : List Bytes:=litAtoms r ++ [r.name]
theorem sc_litAtoms : FnScope ["clause","literal"] ["clause"] (defScope sLitAtoms):=⟨rfl,rfl,rfl,by decide +kernel,rfl,by decide +kernel,by decide +kernel⟩
def spNames (C : Addr) (g : Row→List Bytes) : Sp:=fun vs H Q _=>∃ (a : Addr) (r : Row),vs = [.ref a]∧ClauseAt C H r a∧r.body.length≤6∧∀ H' p ps,Same H H'→H p = none→H' p = some (.lst (ps.map V.ref))→All2 (Wd H') (g r) ps→Q (.ref p) H'
theorem ok_litAtoms {C : Addr} (T : ClT K C) (D : DefAt K mg "literal_atoms" sLitAtoms ["clause"]) : Has P w K mg base 1 "literal_atoms" ["clause"] (spNames C litAtoms):=D.has fun f fd F=>by
 refine F.ok sc_litAtoms (fun vs H Q E h=>?_) (fun cdv A outer s H vs Q E hr h=>?_)
 ·obtain ⟨a,r,rfl,_⟩:=h
  rfl
 ·obtain ⟨a,r,rfl,⟨dx,n,b,hd,ha,hn,⟨bs,hb,alb⟩,hh⟩,hlen,k⟩:=h
  refine ⟨_,pss_one (ps_ret (pe_op op_cat
   (pe_lc rfl sc_litAtoms.nd (pi_seq (pe_fld (pv 0) rfl)) (blkOk_by (own:=[("literal",1)]) (by show blkC ["clause","literal"] (defScope sLitAtoms) _ _ = true; decide +kernel)) (fun _ _ _ _ _=>pg_name (i:=1) sc_litAtoms.nd rfl (Or.inl rfl)) (fun _ _ _ _ _=>pts_nil)
    (fun _ _ _ _ _=>pe_ix (r:=rIxT K) ix_tup (pv 1) pe_int (fun _ _=>rfl)))
   (pe_lst (pa_cons (pe_ix ix_tup (pe_fld (pv 0) rfl) pe_int (fun _ _=>rfl)) pa_nil)))),?_⟩
  have hl:=alb.len
  refine ⟨_,rfl,a,C,dx,_,_,rfl,ha,T.cl,T.body,clF_body _ _ _,b,_,false,rfl,SqT.of hb,fun J S d hd'=>?_⟩
  refine lc_map (S _ (SqT.of hb)) (fun i acc H'=>∃ qs,acc = qs.map V.ref∧All2 (Wd H') ((r.body.take i).map Lit.atom) qs) (by rintro _ _ _ _ t ⟨qs,e,z⟩; exact ⟨qs,e,z.mono fun _ _ r=>r.mono t⟩) hd' (lt_size (by rw [List.length_map]; omega)) (fun _=>rfl) ⟨[],rfl,.nil⟩ ?_ ?_
  ·rintro i y acc H2 QA QB hi hy sm ⟨qs,rfl,rl⟩ ka kb
   obtain ⟨q,hq,rfl⟩:=map_ref_get hy
   obtain ⟨x,hx,hxq⟩:=alb.get hq
   obtain ⟨c,hc,hcw⟩:=hxq.tup
   refine ⟨_,rfl,q,_,_,_,rfl,rfl,SqT.of (sm _ _ hc),atI_nat (j:=0) (v:=V.ref c) rfl,ka _ _ (Same.refl _) ⟨qs ++ [c],by rw [List.map_append]; rfl,?_⟩⟩
   rw [← take_snoc hx,List.map_append]
   exact All2.snoc (hcw.mono sm.tups) rl
  ·rintro ys H2 ⟨qs,rfl,rl⟩ hy sm
   rw [List.take_of_length_le (by rw [List.length_map]; omega)] at rl
   obtain ⟨c,hc,hcw⟩:=hh.tup
   refine ⟨_,rfl,a,C,dx,_,_,rfl,sm _ _ ha,T.cl,T.head,clF_head _ _ _,hd,_,_,_,rfl,rfl,SqT.of (sm _ _ hc),atI_nat (j:=0) (v:=V.ref c) rfl,(by show 1≤sizeLine; decide),fun t ht=>?_⟩
   have ndt : d≠t:=ne_of_none hy ht
   have lq : qs.length≤6:=by rw [← rl.len,List.length_map]; exact hlen
   refine ⟨d,t,_,_,rfl,rfl,by rw [upd_ne ndt]; exact hy,upd_same,Nat.le_of_lt (lt_size (by rw [List.length_map]; show qs.length + 1≤_; omega)),fun u hu=>?_⟩
   have s2 : Same H (upd (upd H2 t (.lst [.ref c])) u (.lst (qs.map V.ref ++ [.ref c]))):=(sm.trans (Same.new ht)).trans (Same.new hu)
   have u0 : H u = none:=(sm.trans (Same.new ht)).free hu
   refine k _ u (qs ++ [c]) s2 u0 (by rw [upd_same,List.map_append]; rfl) ?_
   refine All2.snoc (hcw.mono s2.tups) (rl.mono fun _ _ r=>r.mono ((Same.new ht).trans (Same.new hu)).tups)
theorem sc_ruleAtoms : FnScope ["rule"] ["rule"] (defScope sRuleAtoms):=⟨rfl,rfl,rfl,by decide +kernel,rfl,by decide +kernel,by decide +kernel⟩
theorem ok_ruleAtoms {C : Addr} (T : ClT K C) (D : DefAt K mg "rule_atoms" sRuleAtoms ["rule"]) (hL : Has P w K mg base 1 "literal_atoms" ["clause"] (spNames C litAtoms)) : Has P w K mg base 2 "rule_atoms" ["rule"] (spNames C ruleAtoms):=D.has fun f fd F=>by
 refine F.ok sc_ruleAtoms (fun vs H Q E h=>?_) (fun cdv A outer s H vs Q E hr h=>?_)
 ·obtain ⟨a,r,rfl,_⟩:=h
  rfl
 ·obtain ⟨a,r,rfl,hc,hlen,k⟩:=h
  obtain ⟨dx,n,b,hd,ha,hn,hb,hh⟩:=id hc
  refine ⟨_,pss_one (ps_ret (pe_op op_cat (pe_has hL hr rfl (pa_cons (pv 0) pa_nil)) (pe_lst (pa_cons (pe_fld (pv 0) rfl) pa_nil)))),?_⟩
  refine ⟨_,rfl,a,r,rfl,hc,hlen,fun H2 d qs sm hd0 hy rl=>?_⟩
  refine ⟨_,rfl,a,C,dx,_,_,rfl,sm _ _ ha,T.cl,T.name,clF_name _ _ _,(by show 1≤sizeLine; decide),fun t ht=>?_⟩
  have ndt : d≠t:=ne_of_none hy ht
  have lq : qs.length≤7:=by rw [← rl.len]; unfold litAtoms; rw [List.length_append,List.length_map]; show _ + 1≤7; omega
  refine ⟨d,t,_,_,rfl,rfl,by rw [upd_ne ndt]; exact hy,upd_same,Nat.le_of_lt (lt_size (by rw [List.length_map]; show qs.length + 1≤_; omega)),fun u hu=>?_⟩
  have s2 : Same H (upd (upd H2 t (.lst [.ref n])) u (.lst (qs.map V.ref ++ [.ref n]))):=(sm.trans (Same.new ht)).trans (Same.new hu)
  have u0 : H u = none:=(sm.trans (Same.new ht)).free hu
  refine k _ u (qs ++ [n]) s2 u0 (by rw [upd_same,List.map_append]; rfl) ?_
  exact All2.snoc (hn.mono s2.tups) (rl.mono fun _ _ r=>r.mono ((Same.new ht).trans (Same.new hu)).tups)
theorem sc_addAtoms : FnScope ["case","names","name"] ["case","names"] (defScope sAddAtoms):=⟨rfl,rfl,rfl,by decide +kernel,rfl,by decide +kernel,by decide +kernel⟩
def spAddAtoms (P : Program) (w : World) (Cc : Addr) : Sp:=fun vs H Q _=>∃ (A : CA) (l : Addr) (ps : List Addr) (ns ks : List Bytes),vs = [.ref A.a,.ref l]∧CObj Cc H A∧DAt nameD P w H A.da (ks.map nI)∧H l = some (.lst (ps.map V.ref))∧All2 (Wd H) ns ps∧ks.length + ns.length≤8500 ∧
 ∀ (H' : Hp) (ks' : List Bytes),(∀ b o,H b = some o→b≠A.da→H' b = some o)→DAt nameD P w H' A.da (ks'.map nI)→(∀ n,n∈ks'↔n∈ks∨n∈ns)→(ks.Nodup→ks'.Nodup)→Q .non H'
theorem room3 {k : Nat} {A : Around} (hr : Room k A) : A.units + 3 < cLine:=by have:=hr.un; omega
theorem ok_addAtoms {Cc : Addr} (T : CsT K Cc) (D : DefAt K mg "add_atoms" sAddAtoms ["case","names"]) : Has P w K mg base 1 "add_atoms" ["case","names"] (spAddAtoms P w Cc):=D.has fun f fd F=>by
 refine F.ok sc_addAtoms (fun vs H Q E h=>?_) (fun cdv A outer s H vs Q E hr h=>?_)
 ·obtain ⟨A,l,ps,ns,ks,rfl,_⟩:=h
  rfl
 ·obtain ⟨A,l,ps,ns,ks,rfl,ho,dat,hl,al,hn,k⟩:=h
  refine ⟨_,pss_one (ps_for PassesOwn.never rfl (pi_seq (pv 1)) (pg_name (i:=2) sc_addAtoms.nd rfl (Or.inl rfl)) (pss_one (ps_dn_put (D:=nameD) (room3 hr) (pe_fld (pv 0) rfl) (pv 2) pe_bl rfl))),?_⟩
  refine ⟨_,rfl,l,_,true,rfl,SqL.of hl,fun J S=>?_⟩
  obtain ⟨xs0,hx0⟩:=dat.some_
  have nl : l≠A.da:=ne_of hl hx0 (by intro z; cases z)
  have na : A.a≠A.da:=ne_of ho hx0 (by intro z; cases z)
  let H0 : Hp:=fun b=>if b = l then H l else none
  have s0 : ∀ H' : Hp,H' l = H l→Same H0 H':=fun H' e b o eb=>by
   have eb' : (if b = l then H l else none) = some o:=eb
   split at eb'
   ·rename_i e2; rw [e2,e]; exact eb'
   ·cases eb'
  refine for_gen (S H0 (SqL.of (show (if l = l then H l else none) = some (.lst (ps.map V.ref)) by rw [if_pos rfl]; exact hl))) (fun i σ H'=>∃ (v2 : Option V) (ks' : List Bytes),σ = [some (.ref A.a),some (.ref l),v2]∧(∀ b o,H b = some o→b≠A.da→H' b = some o)∧DAt nameD P w H' A.da (ks'.map nI)∧(∀ n,n∈ks'↔n∈ks∨n∈ns.take i)∧(ks.Nodup→ks'.Nodup)∧ks'.length≤ks.length + i) ?_ ?_ ?_ ?_
  ·rintro i σ H' ⟨v2,ks',_,kp,_⟩
   exact s0 H' (by rw [hl]; exact kp l _ hl nl)
  ·exact ⟨none,ks,rfl,fun b o e _=>e,dat,by simp,id,Nat.le_refl _⟩
  ·rintro i x σ H' hi hx ⟨v2,ks',rfl,kp,dat',hm,hnd,hlen⟩
   obtain ⟨q,hq,rfl⟩:=map_ref_get hx
   obtain ⟨n,hn',hnq⟩:=al.get hq
   have tu : Tups H H':=fun b xs e=>kp b _ e (ne_of e hx0 (by intro z; cases z))
   have hi' : i < ns.length:=(List.getElem?_eq_some_iff.mp hn').1
   refine ⟨_,rfl,A.a,Cc,A.dx,_,_,rfl,kp _ _ ho na,T.cl,T.atoms,csF_atoms _ _ _ _,_,rfl,A.da,q,ks'.map nI,nI n,rfl,rfl,rfl,dat',hnq.mono tu,lt_size (by rw [List.length_map]; omega),fun H4 d4 e4=>?_⟩
   have d4 : DAt nameD P w H4 A.da ((if n∈ks' then ks' else ks' ++ [n]).map nI):=by
    by_cases h : n∈ks'
    ·rw [if_pos (mem_nI.mpr h)] at d4
     rw [if_pos h]; exact d4
    ·rw [if_neg (fun z=>h (mem_nI.mp z))] at d4
     rw [if_neg h,List.map_append]; exact d4
   refine ⟨_,_,rfl,fun b o e hb=>by rw [e4 b hb]; exact kp b o e hb,d4,fun m=>?_,fun z=>?_,?_⟩
   ·rw [← take_snoc hn',List.mem_append,List.mem_singleton]
    by_cases h : n∈ks'
    ·rw [if_pos h,hm m]
     constructor
     ·rintro (z | z)
      ·exact .inl z
      ·exact .inr (.inl z)
     ·rintro (z | z | z)
      ·exact .inl z
      ·exact .inr z
      ·rw [z]; exact (hm n).mp h
    ·rw [if_neg h,List.mem_append,List.mem_singleton,hm m]
     constructor
     ·rintro ((z | z) | z)
      ·exact .inl z
      ·exact .inr (.inl z)
      ·exact .inr (.inr z)
     ·rintro (z | z | z)
      ·exact .inl (.inl z)
      ·exact .inl (.inr z)
      ·exact .inr z
   ·by_cases h : n∈ks'
    ·rw [if_pos h]; exact hnd z
    ·rw [if_neg h]
     exact List.nodup_append.mpr ⟨hnd z,by simp,fun a ha b hb=>by rw [List.mem_singleton.mp hb]; intro e; rw [e] at ha; exact h ha⟩
   ·by_cases h : n∈ks'
    ·rw [if_pos h]; omega
    ·rw [if_neg h,List.length_append,List.length_singleton]; omega
  ·rintro σ H' ⟨v2,ks',rfl,kp,dat',hm,hnd,hlen⟩
   rw [List.take_of_length_le (by rw [List.length_map,al.len]; exact Nat.le_refl _)] at hm
   exact k H' ks' kp dat' hm hnd
end
end SC
end
section
set_option maxRecDepth 100000
set_option maxHeartbeats 4000000
namespace SC
open PySem L2 L3 Mo
theorem dec_mp {p : Prop} {i : Decidable p} (h : @decide p i = true) : p:=@of_decide_eq_true p i h
theorem dec_mpr {p : Prop} {i : Decidable p} (h : p) : @decide p i = true:=@decide_eq_true p i h
def fixed : HO→Bool
 | .tup _=>true
 | .ins _ _ _=>true
 | _=>false
def Stay (H H' : Hp) : Prop:=∀ b o,H b = some o→fixed o = true→H' b = some o
theorem Stay.trans {H H1 H2 : Hp} (a : Stay H H1) (b : Stay H1 H2) : Stay H H2:=fun c o h f=>b c o (a c o h f) f
theorem Stay.of {H H' : Hp} (s : Same H H') : Stay H H':=fun b o h _=>s b o h
theorem Stay.tups {H H' : Hp} (s : Stay H H') : Tups H H':=fun b xs h=>s b _ h rfl
theorem Stay.but {H H' : Hp} {a : Addr} {u : HO} (h : H a = some u) (f : fixed u = false) (kp : ∀ b o,H b = some o→b≠a→H' b = some o) : Stay H H':=fun b o e g=>kp b o e (fun z=>by rw [z,h] at e; cases e; rw [f] at g; cases g)
theorem Stay.upd {H : Hp} {a : Addr} {u o : HO} (h : H a = some u) (f : fixed u = false) : Stay H (upd H a o):=Stay.but h f fun b o' e hb=>by rw [upd_ne hb]; exact e
theorem ClauseAt.stay {C : Addr} {H H' : Hp} {r : Row} {a : Addr} (h : ClauseAt C H r a) (s : Stay H H') : ClauseAt C H' r a:=by
 obtain ⟨dx,n,b,hd,h1,h2,h3,h4⟩:=h
 exact ⟨dx,n,b,hd,s _ _ h1 rfl,h2.mono s.tups,h3.mono s.tups,h4.mono s.tups⟩
theorem CObj.stay {Cc : Addr} {H H' : Hp} {A : CA} (h : CObj Cc H A) (s : Stay H H') : CObj Cc H' A:=s _ _ h rfl
def Frm (A : CA) (H H' : Hp) : Prop:=∀ b o,H b = some o→b≠A.la→b≠A.lr→b≠A.da→b≠A.dw→H' b = some o
theorem Frm.of {A : CA} {H H' : Hp} (s : Same H H') : Frm A H H':=fun b o h _ _ _ _=>s b o h
theorem Frm.trans {A : CA} {H H1 H2 : Hp} (a : Frm A H H1) (b : Frm A H1 H2) : Frm A H H2:=fun c o h h1 h2 h3 h4=>b c o (a c o h h1 h2 h3 h4) h1 h2 h3 h4
theorem CaseAt.same {P : Program} {w : World} {Cc C : Addr} {H H' : Hp} {c : Case} {A : CA} (h : CaseAt P w Cc C H c A) (s : Same H H') : CaseAt P w Cc C H' c A:=by
 obtain ⟨ob,⟨ls,l1,l2⟩,⟨rs,r1,r2⟩,⟨ks,a1,a2⟩,⟨ws,w1,w2⟩,n1,n2⟩:=h
 exact ⟨s _ _ ob,⟨ls,s _ _ l1,l2.mono fun _ _ r=>r.same s⟩,⟨rs,s _ _ r1,r2.mono fun _ _ r=>r.same s⟩,⟨ks,a1.same s,a2⟩,⟨ws,w1.same s,w2⟩,n1,n2⟩
theorem mem_litAtoms {r : Row} {n : Bytes} : n∈litAtoms r↔n∈r.atoms:=by
 unfold litAtoms Row.atoms
 simp [or_comm]
theorem atoms_law {c : Case} {r : Row} {n : Bytes} : n∈(c.add (.law r)).atoms↔n∈c.atoms∨n∈litAtoms r:=by
 rw [ML.mem_atoms,ML.mem_atoms,mem_litAtoms]
 unfold ML.told Case.add
 simp only [List.mem_append,List.mem_flatMap,List.mem_singleton]
 constructor
 ·rintro (⟨x,((h | rfl) | h),k⟩ | h)
  ·exact .inl (.inl ⟨x,.inl h,k⟩)
  ·exact .inr k
  ·exact .inl (.inl ⟨x,.inr h,k⟩)
  ·exact .inl (.inr h)
 ·rintro ((⟨x,(h | h),k⟩ | h) | h)
  ·exact .inl ⟨x,.inl (.inl h),k⟩
  ·exact .inl ⟨x,.inr h,k⟩
  ·exact .inr h
  ·exact .inl ⟨r,.inl (.inr rfl),h⟩
theorem atoms_rule {c : Case} {r : Row} {n : Bytes} : n∈(c.add (.rule r)).atoms↔n∈c.atoms∨n∈ruleAtoms r:=by
 unfold ruleAtoms
 rw [ML.mem_atoms,ML.mem_atoms,List.mem_append,mem_litAtoms]
 unfold ML.told Case.add
 simp only [List.mem_append,List.mem_flatMap,List.mem_singleton,List.map_append,List.map_cons,List.map_nil]
 constructor
 ·rintro (⟨x,(h | h | rfl),k⟩ | h | h)
  ·exact .inl (.inl ⟨x,.inl h,k⟩)
  ·exact .inl (.inl ⟨x,.inr h,k⟩)
  ·exact .inr (.inl k)
  ·exact .inl (.inr h)
  ·exact .inr (.inr h)
 ·rintro ((⟨x,(h | h),k⟩ | h) | h | h)
  ·exact .inl ⟨x,.inl h,k⟩
  ·exact .inl ⟨x,.inr (.inl h),k⟩
  ·exact .inr (.inl h)
  ·exact .inl ⟨r,.inr (.inr rfl),h⟩
  ·exact .inr (.inr h)
theorem ks_len {c : Case} {ks : List Bytes} (nd : ks.Nodup) (h : ∀ n,n∈ks↔n∈c.atoms) : ks.length = c.atoms.length:=ML.length_same nd (ML.nodup_atoms c) h
section
variable {P : Program} {w : World} {K : PySem.W.Frag} {mg : Str→Option Value} {base : Heap}
def spAdd (P : Program) (w : World) (Cc C : Addr) (ln : Row→Line) : Sp:=fun vs H Q _=>∃ (A : CA) (c : Case) (r : Row) (p : Addr),vs = [.ref A.a,.ref p]∧CaseAt P w Cc C H c A∧ClauseAt C H r p∧r.body.length≤6∧c.laws.length≤100∧c.rules.length≤100∧c.atoms.length≤100 ∧
 ∀ H',Frm A H H'→CaseAt P w Cc C H' (c.add (ln r)) A→Q .non H'
theorem sc_addLaw : FnScope ["case","law"] ["case","law"] (defScope sAddLaw):=⟨rfl,rfl,rfl,by decide +kernel,rfl,by decide +kernel,by decide +kernel⟩
theorem ok_addLaw {Cc C : Addr} (T : CsT K Cc) (D : DefAt K mg "add_law" sAddLaw ["case","law"]) (hL : Has P w K mg base 1 "literal_atoms" ["clause"] (spNames C litAtoms)) (hA : Has P w K mg base 1 "add_atoms" ["case","names"] (spAddAtoms P w Cc)) :
 Has P w K mg base 2 "add_law" ["case","law"] (spAdd P w Cc C .law):=D.has fun f fd F=>by
 refine F.ok sc_addLaw (fun vs H Q E h=>?_) (fun cdv A outer s H vs Q E hr h=>?_)
 ·obtain ⟨A,c,r,p,rfl,_⟩:=h
  rfl
 ·obtain ⟨A,c,r,p,rfl,hc,hp,hb,h1,h2,h3,k⟩:=h
  refine ⟨_,pss_cons (ps_expr (pe_bm PySem.F.plainAttrs_list PySem.F.slot_list_append PySem.F.type_list_append mt_append (pe_fld (pv 0) rfl) (pa_cons (pv 1) pa_nil)))
   (pss_one (ps_expr (pe_has hA hr rfl (pa_cons (pv 0) (pa_cons (pe_has hL hr rfl (pa_cons (pv 1) pa_nil)) pa_nil))))),?_⟩
  obtain ⟨ob,⟨ls,l1,l2⟩,⟨rs,r1,r2⟩,⟨ks,a1,a2,a3⟩,⟨ws,w1,w2,w3⟩,n1,n2⟩:=hc
  have ll:=l2.len
  refine ⟨_,rfl,A.a,Cc,A.dx,_,_,rfl,ob,T.cl,T.laws,csF_laws _ _ _ _,.inl ⟨rfl,_,SqL.of l1⟩,_,rfl,A.la,_,_,rfl,rfl,l1,lt_size (by rw [List.length_map]; omega),?_⟩
  have st : Stay H (upd H A.la (.lst (ls.map V.ref ++ [.ref p]))):=Stay.upd l1 rfl
  have kp1 : ∀ b o,H b = some o→b≠A.la→upd H A.la (.lst (ls.map V.ref ++ [.ref p])) b = some o:=fun b o e hb=>by rw [upd_ne hb]; exact e
  have la1 : upd H A.la (.lst (ls.map V.ref ++ [.ref p])) A.la = some (.lst (ls.map V.ref ++ [.ref p])):=upd_same
  generalize upd H A.la (.lst (ls.map V.ref ++ [.ref p])) = H1 at st kp1 la1 ⊢
  refine ⟨_,rfl,_,rfl,p,r,rfl,hp.stay st,hb,fun H2 q qs s2 q0 hq al=>?_⟩
  have st2:=st.trans (Stay.of s2)
  obtain ⟨xs,hx⟩:=a1.some_
  obtain ⟨ys,hy⟩:=w1.some_
  have nda : A.da≠A.la:=ne_of hx l1 (by intro z; cases z)
  have ndw : A.dw≠A.la:=ne_of hy l1 (by intro z; cases z)
  have a1' : DAt nameD P w H2 A.da (ks.map nI):=(a1.stay st.tups (by rw [hx]; exact kp1 _ _ hx nda)).same s2
  have hkl:=ks_len a2 a3
  have lal : (litAtoms r).length≤7:=by unfold litAtoms; rw [List.length_append,List.length_map]; show _ + 1≤7; omega
  refine ⟨A,q,qs,litAtoms r,ks,rfl,ob.stay st2,a1',hq,al,by omega,fun H3 ks' kp3 d3 m3 nd3=>?_⟩
  obtain ⟨xs2,hx2⟩:=a1'.some_
  have st3:=st2.trans (Stay.but hx2 rfl kp3)
  have nlr : A.lr≠A.da:=ne_of r1 hx (by intro z; cases z)
  have keep : ∀ b o,H b = some o→b≠A.la→b≠A.da→H3 b = some o:=fun b o e h1 h2=>kp3 b o (s2 b o (kp1 b o e h1)) h2
  refine k H3 (fun b o e h1 h2 h3 h4=>keep b o e h1 h3) ⟨ob.stay st3,⟨ls ++ [p],?_,?_⟩,⟨rs,keep _ _ r1 n1.symm nlr,r2.mono fun _ _ z=>z.stay st3⟩,⟨ks',d3,nd3 a2,fun n=>?_⟩,⟨ws,w1.stay st3.tups (by rw [hy]; exact keep _ _ hy ndw n2.symm),w2,w3⟩,n1,n2⟩
  ·rw [kp3 _ _ (s2 _ _ la1) nda.symm,List.map_append]; rfl
  ·exact All2.snoc (hp.stay st3) (l2.mono fun _ _ z=>z.stay st3)
  ·rw [m3,a3,atoms_law]
theorem sc_addRule : FnScope ["case","rule"] ["case","rule"] (defScope sAddRule):=⟨rfl,rfl,rfl,by decide +kernel,rfl,by decide +kernel,by decide +kernel⟩
theorem ok_addRule {Cc C : Addr} (T : CsT K Cc) (D : DefAt K mg "add_rule" sAddRule ["case","rule"]) (hL : Has P w K mg base 2 "rule_atoms" ["rule"] (spNames C ruleAtoms)) (hA : Has P w K mg base 1 "add_atoms" ["case","names"] (spAddAtoms P w Cc)) :
 Has P w K mg base 3 "add_rule" ["case","rule"] (spAdd P w Cc C .rule):=D.has fun f fd F=>by
 refine F.ok sc_addRule (fun vs H Q E h=>?_) (fun cdv A outer s H vs Q E hr h=>?_)
 ·obtain ⟨A,c,r,p,rfl,_⟩:=h
  rfl
 ·obtain ⟨A,c,r,p,rfl,hc,hp,hb,h1,h2,h3,k⟩:=h
  refine ⟨_,pss_cons (ps_expr (pe_bm PySem.F.plainAttrs_list PySem.F.slot_list_append PySem.F.type_list_append mt_append (pe_fld (pv 0) rfl) (pa_cons (pv 1) pa_nil)))
   (pss_one (ps_expr (pe_has hA (hr.mono (by decide)) rfl (pa_cons (pv 0) (pa_cons (pe_has hL hr rfl (pa_cons (pv 1) pa_nil)) pa_nil))))),?_⟩
  obtain ⟨ob,⟨ls,l1,l2⟩,⟨rs,r1,r2⟩,⟨ks,a1,a2,a3⟩,⟨ws,w1,w2,w3⟩,n1,n2⟩:=hc
  have ll:=r2.len
  refine ⟨_,rfl,A.a,Cc,A.dx,_,_,rfl,ob,T.cl,T.rules,csF_rules _ _ _ _,.inl ⟨rfl,_,SqL.of r1⟩,_,rfl,A.lr,_,_,rfl,rfl,r1,lt_size (by rw [List.length_map]; omega),?_⟩
  have st : Stay H (upd H A.lr (.lst (rs.map V.ref ++ [.ref p]))):=Stay.upd r1 rfl
  have kp1 : ∀ b o,H b = some o→b≠A.lr→upd H A.lr (.lst (rs.map V.ref ++ [.ref p])) b = some o:=fun b o e hb=>by rw [upd_ne hb]; exact e
  have la1 : upd H A.lr (.lst (rs.map V.ref ++ [.ref p])) A.lr = some (.lst (rs.map V.ref ++ [.ref p])):=upd_same
  generalize upd H A.lr (.lst (rs.map V.ref ++ [.ref p])) = H1 at st kp1 la1 ⊢
  refine ⟨_,rfl,_,rfl,p,r,rfl,hp.stay st,hb,fun H2 q qs s2 q0 hq al=>?_⟩
  have st2:=st.trans (Stay.of s2)
  obtain ⟨xs,hx⟩:=a1.some_
  obtain ⟨ys,hy⟩:=w1.some_
  have nda : A.da≠A.lr:=ne_of hx r1 (by intro z; cases z)
  have ndw : A.dw≠A.lr:=ne_of hy r1 (by intro z; cases z)
  have a1' : DAt nameD P w H2 A.da (ks.map nI):=(a1.stay st.tups (by rw [hx]; exact kp1 _ _ hx nda)).same s2
  have hkl:=ks_len a2 a3
  have lal : (ruleAtoms r).length≤8:=by unfold ruleAtoms litAtoms; rw [List.length_append,List.length_append,List.length_map]; show _ + 1 + 1≤8; omega
  refine ⟨A,q,qs,ruleAtoms r,ks,rfl,ob.stay st2,a1',hq,al,by omega,fun H3 ks' kp3 d3 m3 nd3=>?_⟩
  obtain ⟨xs2,hx2⟩:=a1'.some_
  have st3:=st2.trans (Stay.but hx2 rfl kp3)
  have nlr : A.la≠A.da:=ne_of l1 hx (by intro z; cases z)
  have keep : ∀ b o,H b = some o→b≠A.lr→b≠A.da→H3 b = some o:=fun b o e h1 h2=>kp3 b o (s2 b o (kp1 b o e h1)) h2
  refine k H3 (fun b o e h1 h2 h3 h4=>keep b o e h2 h3) ⟨ob.stay st3,⟨ls,keep _ _ l1 n1 nlr,l2.mono fun _ _ z=>z.stay st3⟩,⟨rs ++ [p],?_,?_⟩,⟨ks',d3,nd3 a2,fun n=>?_⟩,⟨ws,w1.stay st3.tups (by rw [hy]; exact keep _ _ hy ndw n2.symm),w2,w3⟩,n1,n2⟩
  ·rw [kp3 _ _ (s2 _ _ la1) nda.symm,List.map_append]; rfl
  ·exact All2.snoc (hp.stay st3) (r2.mono fun _ _ z=>z.stay st3)
  ·rw [m3,a3,atoms_rule]
theorem sc_owItself : FnScope ["case","over","under"] ["case","over","under"] (defScope sOwItself):=⟨rfl,rfl,rfl,by decide +kernel,rfl,by decide +kernel,by decide +kernel⟩
def spOwItself (P : Program) (w : World) (Cc C : Addr) : Sp:=fun vs H Q _=>∃ (A : CA) (c : Case) (x y : Bytes) (a b : Addr),vs = [.ref A.a,.ref a,.ref b]∧CaseAt P w Cc C H c A∧Wd H x a∧Wd H y b∧goesRound c.weighs = false ∧
 ∀ H' g,Same H H'→(g = true↔goesRound (c.weighs ++ [(x,y)]) = true)→Q (.bl g) H'
theorem ok_owItself {Cc C : Addr} (T : CsT K Cc) (D : DefAt K mg "outweighs_itself_with" sOwItself ["case","over","under"]) : Has P w K mg base 1 "outweighs_itself_with" ["case","over","under"] (spOwItself P w Cc C):=D.has fun f fd F=>by
 refine F.ok sc_owItself (fun vs H Q E h=>?_) (fun cdv A outer s H vs Q E hr h=>?_)
 ·obtain ⟨A,c,x,y,a,b,rfl,_⟩:=h
  rfl
 ·obtain ⟨A,c,x,y,a,b,rfl,hc,hx,hy,hg,k⟩:=h
  refine ⟨_,pss_one (ps_ret (pe_or (pe_cmpR (op_eqD hr.units) (pv 1) (pv 2) (nomark _)) (pe_one (pe_cmp (pc_dn_in (D:=pairD) (room3 hr) (pe_tup (pa_cons (pv 2) (pa_cons (pv 1) pa_nil))) (pe_fld (pv 0) rfl)) (by rfl))))),?_⟩
  refine ⟨_,rfl,_,rfl,_,_,hx.dp,hy.dp,sh_dN _,sh_dN _,_,rfl,?_⟩
  rw [eqv_dN]
  refine ite2 (fun h1=>?_) (fun h1=>?_)
  ·exact k H true (Same.refl H) ⟨fun _=>(ML.goesRound_snoc hg).mpr (.inl (by simpa using h1)),fun _=>rfl⟩
  ·have n1 : ¬ x = y:=by simpa using h1
   obtain ⟨ob,_,_,_,⟨ws,w1,w2,w3⟩,_,_⟩:=hc
   refine ⟨_,rfl,_,rfl,(by show 2≤sizeLine; decide),fun t ht=>?_⟩
   have s1 : Same H (upd H t (.tup [.ref b,.ref a])):=Same.new ht
   refine ⟨_,rfl,A.a,Cc,A.dx,_,_,rfl,s1 _ _ ob,T.cl,T.weights,csF_weights _ _ _ _,A.dw,t,_,pI (y,x),rfl,rfl,w1.same s1,Pr.of (p:=(y,x)) upd_same (hy.mono s1.tups) (hx.mono s1.tups),?_⟩
   refine k _ _ s1 ?_
   rw [ML.goesRound_snoc hg]
   exact ⟨fun z=>.inr ((w3 y x).mp (mem_pI.mp (dec_mp z))),fun z=>dec_mpr (mem_pI.mpr ((w3 y x).mpr (z.resolve_left n1)))⟩
end
end SC
end
section
set_option maxRecDepth 100000
set_option maxHeartbeats 4000000
namespace SC
open PySem L2 L3 Mo
theorem filter_snoc {α : Type} {p : α→Bool} {l : List α} {i : Nat} {c : α} (h : l[i]? = some c) : (l.take (i + 1)).filter p = (l.take i).filter p ++ (if p c = true then [c] else []):=by
 rw [← take_snoc h,List.filter_append]
 congr 1
 by_cases e : p c = true
 ·rw [if_pos e]; simp [e]
 ·rw [if_neg e]; simp [e]
section
variable {P : Program} {w : World} {K : PySem.W.Frag} {mg : Str→Option Value} {base : Heap}
theorem pr_keys {H : Hp} {xs : List ((List Int × List Int) × Addr)} {ks : List (Bytes × Bytes)} (e : xs.map (·.1) = ks.map pI) (h : ∀ x∈xs,pairD.at_ H x.1 x.2) {i : Nat} {k : List Int × List Int} {b : Addr} (hx : xs[i]? = some (k,b)) : ∃ p,ks[i]? = some p∧Pr H p b:=by
 have e1 : (xs.map (·.1))[i]? = some k:=by rw [List.getElem?_map,hx]; rfl
 rw [e,List.getElem?_map] at e1
 obtain ⟨p,hp,e2⟩:=Option.map_eq_some_iff.mp e1
 refine ⟨p,hp,?_⟩
 have:=h (k,b) (List.mem_of_getElem? hx)
 show PrAt H (pI p) b
 rw [e2]; exact this
theorem sc_addWeight : FnScope ["case","over","under","overs","unders","first","second","pair"] ["case","over","under"] (defScope sAddWeight):=⟨rfl,rfl,rfl,by decide +kernel,rfl,by decide +kernel,by decide +kernel⟩
def spAddWeight (P : Program) (w : World) (Cc C : Addr) : Sp:=fun vs H Q _=>∃ (A : CA) (c : Case) (x y : Bytes) (a b : Addr),vs = [.ref A.a,.ref a,.ref b]∧CaseAt P w Cc C H c A∧Wd H x a∧Wd H y b∧c.rules.length≤10∧ML.Among (c.rules.map Row.name) (c.weighs ++ [(x,y)]) ∧
 ∀ H',Frm A H H'→CaseAt P w Cc C H' (c.add (.weigh x y)) A→Q .non H'
theorem pairs_bound {names : List Bytes} {ks : List (Bytes × Bytes)} (nd : ks.Nodup) (h : ∀ p∈ks,p.1∈names∧p.2∈names) : ks.length≤names.length * names.length:=by
 have:=nd.length_le_of_subset (l₂:=names.flatMap fun x=>names.map fun y=>(x,y)) fun p hp=>by
  obtain ⟨h1,h2⟩:=h p hp
  exact List.mem_flatMap.mpr ⟨p.1,h1,List.mem_map.mpr ⟨p.2,h2,rfl⟩⟩
 rw [List.length_flatMap] at this
 have e : (names.map fun x=>(names.map fun y=>(x,y)).length) = names.map fun _=>names.length:=by
  apply List.map_congr_left; intro x _; rw [List.length_map]
 rw [e] at this
 have e2 : ∀ l : List Bytes,(l.map fun _=>names.length).sum = l.length * names.length:=fun l=>by
  induction l with
  | nil=>simp
  | cons x l ih=>rw [List.map_cons,List.sum_cons,ih,List.length_cons,Nat.add_mul,Nat.one_mul,Nat.add_comm]
 rw [e2] at this
 exact this
theorem unlock_same {H H' : Hp} {d : Addr} {od : Obj} {u : HO} (e : H d = some u) (s : Same (upd H d (.frz od u)) H') : Same H (upd H' d u):=fun b o h=>by
 by_cases hb : b = d
 ·rw [hb] at h ⊢; rw [upd_same,← e]; exact h
 ·rw [upd_ne hb]; exact s b o (by rw [upd_ne hb]; exact h)
def sel (s : Bool) (p : Bytes × Bytes) : Bytes:=if s = true then p.1 else p.2
def six (s : Bool) : Int:=if s = true then 0 else 1
theorem pr_sel {H : Hp} {p : Bytes × Bytes} {b : Addr} (h : Pr H p b) : ∃ xs,H b = some (.tup xs)∧∀ s,∃ c,atI xs (six s) = some (V.ref c)∧Wd H (sel s p) c:=by
 obtain ⟨c,d,h1,h2,h3⟩:=h.tup
 refine ⟨_,h1,fun s=>?_⟩
 cases s
 ·exact ⟨d,rfl,h3⟩
 ·exact ⟨c,rfl,h2⟩
theorem comp_w {Cc : Addr} (T : CsT K Cc) (s : Bool) {j : Nat} {σ : St} {H : Hp} {A : CA} {ws : List (Bytes × Bytes)} {y : Bytes} {b : Addr} {Q : VK} (hσ0 : σ[0]? = some (some (.ref A.a))) (hw : ∀ x,wipe ((wipe σ [7]).set 7 (some x)) [7] = wipe σ [7])
 (hj : ∀ x,((wipe σ [7]).set 7 (some x))[j]? = some (some (.ref b))) (h7 : ∀ x : V,((wipe σ [7]).set 7 (some x))[7]? = some (some x)) (ho : CObj Cc H A) (dat : DAt pairD P w H A.dw (ws.map pI)) (hn : ws.length≤100) (hy : Wd H y b)
 (k : ∀ H' D ps,Same H H'→H D = none→H' D = some (.lst (ps.map V.ref))→All2 (Wd H') ((ws.filter (fun p=>decide (sel (!s) p = y))).map (sel s)) ps→Q (.ref D) H') :
 tLockE (tLc (iDN pairD P w (tFld K (tVar 0) "weights")) (gName 7) (tTest (tOp (rEqD K) (tOp (rIxT K) (tVar 7) (tC (.int (six (!s))))) (tVar j))) (tOp (rIxT K) (tVar 7) (tC (.int (six s)))) [7]) σ H Q:=by
 obtain ⟨xs,e1,e2,e3,e4,e5⟩:=dat
 refine ⟨A.dw,_,e2,trivial,fun od=>?_⟩
 have na : A.a≠A.dw:=ne_of ho e2 (by intro z; cases z)
 have tu : Tups H (upd H A.dw (.frz od (DO pairD P w A.dw xs))):=tups_upd e2 (fun _ z=>by cases z)
 have hl : xs.length = ws.length:=by have:=congrArg List.length e1; rw [List.length_map,List.length_map] at this; exact this
 refine ⟨_,hσ0,A.a,Cc,A.dx,_,_,rfl,by rw [upd_ne na]; exact ho,T.cl,T.weights,csF_weights _ _ _ _,A.dw,od,xs,rfl,upd_same,e5,fun D hD=>?_⟩
 have hD0 : H D = none:=by
  have : D≠A.dw:=fun z=>by rw [z,upd_same] at hD; cases hD
  rw [upd_ne this] at hD; exact hD
 refine lc_map (src_dn upd_same) (fun i acc H'=>∃ qs,acc = qs.map V.ref∧All2 (Wd H') (((ws.take i).filter (fun p=>decide (sel (!s) p = y))).map (sel s)) qs) (by rintro _ _ _ _ t ⟨qs,e,z⟩; exact ⟨qs,e,z.mono fun _ _ r=>r.mono t⟩) hD (lt_size (by omega)) hw ⟨[],rfl,.nil⟩ ?_ ?_
 ·rintro i v acc H2 QA QB hi ⟨kk,q,hx,rfl⟩ sm ⟨qs,rfl,rl⟩ ka kb
  obtain ⟨p,hp,hpr⟩:=pr_keys e1 (fun x hx=>pairD.mono (tu.trans sm.tups) (e3 x hx)) hx
  obtain ⟨ys,hys,hsel⟩:=pr_sel hpr
  obtain ⟨c1,at1,w1⟩:=hsel (!s)
  obtain ⟨c2,at2,w2⟩:=hsel s
  have hy2 : Wd H2 y b:=hy.mono (tu.trans sm.tups)
  refine ⟨_,h7 _,q,_,_,_,rfl,rfl,SqT.of hys,at1,_,hj _,_,_,w1.dp,hy2.dp,sh_dN _,sh_dN _,_,rfl,?_⟩
  rw [eqv_dN]
  refine ite2 (fun h=>?_) (fun h=>?_)
  ·refine ⟨_,h7 _,q,_,_,_,rfl,rfl,SqT.of hys,at2,ka _ _ (Same.refl _) ⟨qs ++ [c2],by rw [List.map_append]; rfl,?_⟩⟩
   rw [filter_snoc hp,if_pos h,List.map_append]
   exact All2.snoc w2 rl
  ·refine kb _ (Same.refl _) ⟨qs,rfl,?_⟩
   rw [filter_snoc hp,if_neg h,List.append_nil]
   exact rl
 ·rintro ys H2 ⟨qs,rfl,rl⟩ hy2 sm
  rw [hl,List.take_length] at rl
  have nD : D≠A.dw:=fun z=>by rw [z] at hD0; rw [hD0] at e2; cases e2
  have hlk : H2 A.dw = some (.frz od (DO pairD P w A.dw xs)):=sm _ _ upd_same
  refine ⟨hlk,k _ D qs (unlock_same e2 sm) hD0 (by rw [upd_ne nD]; exact hy2) (rl.mono fun _ _ r=>r.mono (tups_upd hlk (fun _ z=>by cases z)))⟩
theorem over_mem {w : Weighs} {ws : List (Bytes × Bytes)} (h : ∀ x y,(x,y)∈ws↔ML.Over w x y) {x z : Bytes} : z∈x :: (ws.filter (fun p=>decide (sel false p = x))).map (sel true)↔z = x∨ML.Over w z x:=by
 rw [List.mem_cons]
 constructor
 ·rintro (e | e)
  ·exact .inl e
  ·obtain ⟨p,hp,rfl⟩:=List.mem_map.mp e
   obtain ⟨h1,h2⟩:=List.mem_filter.mp hp
   have h2 : p.2 = x:=by simpa [sel] using h2
   right
   rw [← h,← h2]
   exact h1
 ·rintro (e | e)
  ·exact .inl e
  ·exact .inr (List.mem_map.mpr ⟨(z,x),List.mem_filter.mpr ⟨(h z x).mpr e,by simp [sel]⟩,rfl⟩)
theorem under_mem {w : Weighs} {ws : List (Bytes × Bytes)} (h : ∀ x y,(x,y)∈ws↔ML.Over w x y) {x z : Bytes} : z∈x :: (ws.filter (fun p=>decide (sel true p = x))).map (sel false)↔z = x∨ML.Over w x z:=by
 rw [List.mem_cons]
 constructor
 ·rintro (e | e)
  ·exact .inl e
  ·obtain ⟨p,hp,rfl⟩:=List.mem_map.mp e
   obtain ⟨h1,h2⟩:=List.mem_filter.mp hp
   have h2 : p.1 = x:=by simpa [sel] using h2
   right
   rw [← h,← h2]
   exact h1
 ·rintro (e | e)
  ·exact .inl e
  ·exact .inr (List.mem_map.mpr ⟨(x,z),List.mem_filter.mpr ⟨(h x z).mpr e,by simp [sel]⟩,rfl⟩)
theorem ok_addWeight {Cc C : Addr} (T : CsT K Cc) (D : DefAt K mg "add_weight" sAddWeight ["case","over","under"]) : Has P w K mg base 1 "add_weight" ["case","over","under"] (spAddWeight P w Cc C):=D.has fun f fd F=>by
 refine F.ok sc_addWeight (fun vs H Q E h=>?_) (fun cdv A outer s H vs Q E hr h=>?_)
 ·obtain ⟨A,c,x,y,a,b,rfl,_⟩:=h
  rfl
 ·obtain ⟨A,c,x,y,a,b,rfl,hc,hx,hy,hrl,ham,k⟩:=h
  refine ⟨_,pss_cons (ps_set (i:=3) sc_addWeight.nd rfl (Or.inl rfl) (pe_op op_cat (pe_lst (pa_cons (pv 1) pa_nil))
   (pe_lock (pe_lc rfl sc_addWeight.nd (pi_dn (D:=pairD) (pe_fld (pv 0) rfl)) (blkOk_by (own:=[("pair",7)]) (by show blkC ["case","over","under","overs","unders","first","second","pair"] (defScope sAddWeight) _ _ = true; decide +kernel))
    (fun _ _ _ _ _=>pg_name (i:=7) sc_addWeight.nd rfl (Or.inl rfl)) (fun _ _ _ _ _=>pts_one (pt_cmpR (r:=rEqD K) (op_eqD hr.units) (pe_ix (r:=rIxT K) ix_tup (pv 7) pe_int (fun _ _=>rfl)) (pv 1) (nomark _)))
    (fun _ _ _ _ _=>pe_ix (r:=rIxT K) ix_tup (pv 7) pe_int (fun _ _=>rfl))))))
   (pss_cons (ps_set (i:=4) sc_addWeight.nd rfl (Or.inl rfl) (pe_op op_cat (pe_lst (pa_cons (pv 2) pa_nil))
    (pe_lock (pe_lc rfl sc_addWeight.nd (pi_dn (D:=pairD) (pe_fld (pv 0) rfl)) (blkOk_by (own:=[("pair",7)]) (by show blkC ["case","over","under","overs","unders","first","second","pair"] (defScope sAddWeight) _ _ = true; decide +kernel))
     (fun _ _ _ _ _=>pg_name (i:=7) sc_addWeight.nd rfl (Or.inl rfl)) (fun _ _ _ _ _=>pts_one (pt_cmpR (r:=rEqD K) (op_eqD hr.units) (pe_ix (r:=rIxT K) ix_tup (pv 7) pe_int (fun _ _=>rfl)) (pv 2) (nomark _)))
     (fun _ _ _ _ _=>pe_ix (r:=rIxT K) ix_tup (pv 7) pe_int (fun _ _=>rfl))))))
   (pss_one (ps_for PassesOwn.never rfl (pi_seq (pv 3)) (pg_name (i:=5) sc_addWeight.nd rfl (Or.inl rfl))
    (pss_one (ps_for PassesOwn.never rfl (pi_seq (pv 4)) (pg_name (i:=6) sc_addWeight.nd rfl (Or.inl rfl))
     (pss_one (ps_dn_put (D:=pairD) (room3 hr) (pe_fld (pv 0) rfl) (pe_tup (pa_cons (pv 5) (pa_cons (pv 6) pa_nil))) pe_bl rfl))))))),?_⟩
  obtain ⟨ob,hlaws,hrules,hat,⟨ws,w1,w2,w3⟩,n1,n2⟩:=id hc
  have wbound : ∀ (ks : List (Bytes × Bytes)),ks.Nodup→(∀ u v,(u,v)∈ks→ML.Over (c.weighs ++ [(x,y)]) u v)→ks.length≤100:=fun ks nd hk=>by
   have:=pairs_bound nd (names:=c.rules.map Row.name) fun p hp=>(hk p.1 p.2 hp).among ham
   rw [List.length_map] at this
   exact Nat.le_trans this (Nat.mul_le_mul hrl hrl)
  have wlen : ws.length≤100:=wbound ws w2 fun u v huv=>((w3 u v).mp huv).mono fun p hp=>List.mem_append_left _ hp
  refine ⟨_,rfl,(by show 1≤sizeLine; decide),fun l1 hl1=>?_⟩
  have s1 : Same H (upd H l1 (.lst [.ref a])):=Same.new hl1
  have g1 : upd H l1 (.lst [.ref a]) l1 = some (.lst [.ref a]):=upd_same
  generalize upd H l1 (.lst [.ref a]) = H1 at s1 g1 ⊢
  refine comp_w T true rfl (fun _=>rfl) (fun _=>rfl) (fun _=>rfl) (s1 _ _ ob) (w1.same s1) wlen (hx.mono s1.tups) fun H2 D1 ps1 s2 hD1 hD1' al1=>?_
  have lf : ∀ (p : (Bytes × Bytes)→Bool),(ws.filter p).length≤100:=fun p=>Nat.le_trans (List.length_filter_le _ _) wlen
  have lp1 : ps1.length≤100:=by rw [← al1.len,List.length_map]; exact lf _
  refine ⟨l1,D1,_,_,rfl,rfl,s2 _ _ g1,hD1',Nat.le_of_lt (lt_size (by rw [List.length_map]; show 1 + ps1.length≤_; omega)),fun o1 ho1=>?_⟩
  have s3 : Same H (upd H2 o1 (.lst ([.ref a] ++ ps1.map V.ref))):=(s1.trans s2).trans (Same.new ho1)
  have o10 : H o1 = none:=(s1.trans s2).free ho1
  have g2 : upd H2 o1 (.lst ([.ref a] ++ ps1.map V.ref)) o1 = some (.lst ((a :: ps1).map V.ref)):=upd_same
  have al1' : All2 (Wd (upd H2 o1 (.lst ([.ref a] ++ ps1.map V.ref)))) (x :: (ws.filter (fun p=>decide (sel false p = x))).map (sel true)) (a :: ps1):=.cons (hx.mono s3.tups) (al1.mono fun _ _ r=>r.mono (Same.new ho1).tups)
  generalize upd H2 o1 (.lst ([.ref a] ++ ps1.map V.ref)) = H3 at s3 g2 al1' ⊢
  refine ⟨_,rfl,(by show 1≤sizeLine; decide),fun l2 hl2=>?_⟩
  have s4 : Same H3 (upd H3 l2 (.lst [.ref b])):=Same.new hl2
  have g3 : upd H3 l2 (.lst [.ref b]) l2 = some (.lst [.ref b]):=upd_same
  generalize upd H3 l2 (.lst [.ref b]) = H4 at s4 g3 ⊢
  have s04:=s3.trans s4
  refine comp_w T false rfl (fun _=>rfl) (fun _=>rfl) (fun _=>rfl) (s04 _ _ ob) (w1.same s04) wlen (hy.mono s04.tups) fun H5 D2 ps2 s5 hD2 hD2' al2=>?_
  have lp2 : ps2.length≤100:=by rw [← al2.len,List.length_map]; exact lf _
  refine ⟨l2,D2,_,_,rfl,rfl,s5 _ _ g3,hD2',Nat.le_of_lt (lt_size (by rw [List.length_map]; show 1 + ps2.length≤_; omega)),fun o2 ho2=>?_⟩
  have s6 : Same H (upd H5 o2 (.lst ([.ref b] ++ ps2.map V.ref))):=(s04.trans s5).trans (Same.new ho2)
  have s36 : Same H3 (upd H5 o2 (.lst ([.ref b] ++ ps2.map V.ref))):=(s4.trans s5).trans (Same.new ho2)
  have o20 : H o2 = none:=(s04.trans s5).free ho2
  have g4 : upd H5 o2 (.lst ([.ref b] ++ ps2.map V.ref)) o2 = some (.lst ((b :: ps2).map V.ref)):=upd_same
  have al2' : All2 (Wd (upd H5 o2 (.lst ([.ref b] ++ ps2.map V.ref)))) (y :: (ws.filter (fun p=>decide (sel true p = y))).map (sel false)) (b :: ps2):=.cons (hy.mono s6.tups) (al2.mono fun _ _ r=>r.mono (Same.new ho2).tups)
  generalize upd H5 o2 (.lst ([.ref b] ++ ps2.map V.ref)) = H6 at s6 s36 g4 al2' ⊢
  have g2':=s36 _ _ g2
  have al1'':=al1'.mono (fun _ _ r=>Wd.mono s36.tups r)
  generalize eO : x :: (ws.filter (fun p=>decide (sel false p = x))).map (sel true) = os at al1''
  generalize eU : y :: (ws.filter (fun p=>decide (sel true p = y))).map (sel false) = us at al2'
  have mO : ∀ z,z∈os↔z = x∨ML.Over c.weighs z x:=fun z=>by rw [← eO]; exact over_mem w3
  have mU : ∀ z,z∈us↔z = y∨ML.Over c.weighs y z:=fun z=>by rw [← eU]; exact under_mem w3
  have lo : os.length≤101:=by rw [← eO,List.length_cons,List.length_map]; have:=lf (fun p=>decide (sel false p = x)); omega
  have lu : us.length≤101:=by rw [← eU,List.length_cons,List.length_map]; have:=lf (fun p=>decide (sel true p = y)); omega
  have w16:=w1.same s6
  obtain ⟨xs6,hx6⟩:=w16.some_
  have nO : o1≠A.dw:=ne_of g2' hx6 (by intro z; cases z)
  have nU : o2≠A.dw:=ne_of g4 hx6 (by intro z; cases z)
  have nA : A.a≠A.dw:=ne_of (s6 _ _ ob) hx6 (by intro z; cases z)
  let Kp : Hp→Prop:=fun H'=>∀ b o,H6 b = some o→b≠A.dw→H' b = some o
  have kpT : ∀ H',Kp H'→Tups H6 H':=fun H' kp b xs e=>kp b _ e (ne_of e hx6 (by intro z; cases z))
  let Ho : Hp:=fun q=>if q = A.dw then none else H6 q
  have so : ∀ H',Kp H'→Same Ho H':=fun H' kp q o e=>by
   have e' : (if q = A.dw then none else H6 q) = some o:=e
   split at e'
   ·cases e'
   ·rename_i hq; exact kp q o e' hq
  have hoO : Ho o1 = some (.lst ((a :: ps1).map V.ref)):=by show (if o1 = A.dw then none else H6 o1) = _; rw [if_neg nO]; exact g2'
  have hoU : Ho o2 = some (.lst ((b :: ps2).map V.ref)):=by show (if o2 = A.dw then none else H6 o2) = _; rw [if_neg nU]; exact g4
  let Done : Nat→Nat→List (Bytes × Bytes)→Prop:=fun i j ks=>ks.Nodup∧∀ u v,(u,v)∈ks↔(u,v)∈ws∨(u∈os.take i∧v∈us)∨(os[i]? = some u∧v∈us.take j)
  have okD : ∀ i j ks,Done i j ks→ks.length≤100:=fun i j ks h=>wbound ks h.1 fun u v huv=>by
   rw [ML.over_snoc]
   rcases (h.2 u v).mp huv with z | ⟨z1,z2⟩ | ⟨z1,z2⟩
   ·exact .inl ((w3 u v).mp z)
   ·exact .inr ⟨(mO u).mp (List.mem_of_mem_take z1),(mU v).mp z2⟩
   ·exact .inr ⟨(mO u).mp (List.mem_of_getElem? z1),(mU v).mp (List.mem_of_mem_take z2)⟩
  refine ⟨_,rfl,o1,_,true,rfl,SqL.of g2',fun J1 S1=>?_⟩
  refine for_gen (S1 Ho (SqL.of hoO)) (fun i σ H'=>∃ (v5 v6 : Option V) (ks : List (Bytes × Bytes)),σ = [some (.ref A.a),some (.ref a),some (.ref b),some (.ref o1),some (.ref o2),v5,v6,none]∧Kp H'∧DAt pairD P w H' A.dw (ks.map pI)∧Done i 0 ks) ?_ ?_ ?_ ?_
  ·rintro i σ H' ⟨_,_,_,_,kp,_⟩
   exact so H' kp
  ·exact ⟨none,none,ws,rfl,fun b o e _=>e,w16,w2,fun u v=>by simp⟩
  ·rintro i v σ H' hi hv ⟨v5,v6,ks,rfl,kp,dat,dn⟩
   obtain ⟨q1,hq1,rfl⟩:=map_ref_get hv
   obtain ⟨u1,hu1,hw1⟩:=al1''.get hq1
   refine ⟨_,rfl,o2,_,true,rfl,SqL.of (kp _ _ g4 nU),fun J2 S2=>?_⟩
   refine for_gen (S2 Ho (SqL.of hoU)) (fun j σ H'=>∃ (v6 : Option V) (ks : List (Bytes × Bytes)),σ = [some (.ref A.a),some (.ref a),some (.ref b),some (.ref o1),some (.ref o2),some (.ref q1),v6,none]∧Kp H'∧DAt pairD P w H' A.dw (ks.map pI)∧Done i j ks) ?_ ?_ ?_ ?_
   ·rintro j σ H' ⟨_,_,_,kp,_⟩
    exact so H' kp
   ·exact ⟨v6,ks,rfl,kp,dat,dn⟩
   ·rintro j v σ H' hj hv ⟨v6,ks,rfl,kp,dat,dn⟩
    obtain ⟨q2,hq2,rfl⟩:=map_ref_get hv
    obtain ⟨u2,hu2,hw2⟩:=al2'.get hq2
    have hkl:=okD i j ks dn
    refine ⟨_,rfl,A.a,Cc,A.dx,_,_,rfl,kp _ _ (s6 _ _ ob) nA,T.cl,T.weights,csF_weights _ _ _ _,_,rfl,_,rfl,(by show 2≤sizeLine; decide),fun t ht=>?_⟩
    have st : Same H' (upd H' t (.tup [.ref q1,.ref q2])):=Same.new ht
    have tt:=(kpT H' kp).trans st.tups
    refine ⟨A.dw,t,ks.map pI,pI (u1,u2),rfl,rfl,rfl,dat.same st,Pr.of (p:=(u1,u2)) upd_same (hw1.mono tt) (hw2.mono tt),lt_size (by rw [List.length_map]; omega),fun H9 d9 e9=>?_⟩
    have d9 : DAt pairD P w H9 A.dw ((if (u1,u2)∈ks then ks else ks ++ [(u1,u2)]).map pI):=by
     by_cases h : (u1,u2)∈ks
     ·rw [if_pos (mem_pI.mpr h)] at d9
      rw [if_pos h]; exact d9
     ·rw [if_neg (fun z=>h (mem_pI.mp z))] at d9
      rw [if_neg h,List.map_append]; exact d9
    refine ⟨_,_,rfl,fun b o e hb=>by rw [e9 b hb]; exact st _ _ (kp b o e hb),d9,?_,fun u v=>?_⟩
    ·by_cases h : (u1,u2)∈ks
     ·rw [if_pos h]; exact dn.1
     ·rw [if_neg h]
      exact List.nodup_append.mpr ⟨dn.1,by simp,fun a ha b hb=>by rw [List.mem_singleton.mp hb]; intro e; rw [e] at ha; exact h ha⟩
    ·have mem : (u,v)∈(if (u1,u2)∈ks then ks else ks ++ [(u1,u2)])↔(u,v)∈ks∨(u,v) = (u1,u2):=by
      by_cases h : (u1,u2)∈ks
      ·rw [if_pos h]
       exact ⟨.inl,fun z=>z.elim id fun z=>by rw [z]; exact h⟩
      ·rw [if_neg h,List.mem_append,List.mem_singleton]
     rw [mem,dn.2 u v,← take_snoc hu2,List.mem_append,List.mem_singleton,hu1,Prod.mk.injEq]
     constructor
     ·rintro ((z | z | ⟨z1,z2⟩) | ⟨z1,z2⟩)
      ·exact .inl z
      ·exact .inr (.inl z)
      ·exact .inr (.inr ⟨z1,.inl z2⟩)
      ·exact .inr (.inr ⟨by rw [z1],.inr z2⟩)
     ·rintro (z | z | ⟨z1,z2 | z2⟩)
      ·exact .inl (.inl z)
      ·exact .inl (.inr (.inl z))
      ·exact .inl (.inr (.inr ⟨z1,z2⟩))
      ·exact .inr ⟨(Option.some.inj z1).symm,z2⟩
   ·rintro σ H' ⟨v6,ks,rfl,kp,dat,dn⟩
    refine ⟨_,_,ks,rfl,kp,dat,dn.1,fun u v=>?_⟩
    have lenU : ((b :: ps2).map V.ref).length = us.length:=by rw [List.length_map]; exact al2'.len.symm
    have:=dn.2 u v
    rw [lenU,List.take_length] at this
    rw [this,← take_snoc hu1,List.mem_append,List.mem_singleton,hu1,List.take_zero]
    constructor
    ·rintro (z | z | ⟨z1,z2⟩)
     ·exact .inl z
     ·exact .inr (.inl ⟨.inl z.1,z.2⟩)
     ·exact .inr (.inl ⟨.inr (Option.some.inj z1).symm,z2⟩)
    ·rintro (z | ⟨z1 | z1,z2⟩ | ⟨_,z2⟩)
     ·exact .inl z
     ·exact .inr (.inl ⟨z1,z2⟩)
     ·exact .inr (.inr ⟨by rw [z1],z2⟩)
     ·cases z2
  ·rintro σ H' ⟨v5,v6,ks,rfl,kp,dat,dn⟩
   have lenO : ((a :: ps1).map V.ref).length = os.length:=by rw [List.length_map]; exact al1''.len.symm
   have keep : ∀ b o,H b = some o→b≠A.dw→H' b = some o:=fun b o e hb=>kp b o (s6 b o e) hb
   obtain ⟨xsw,hxw⟩:=w1.some_
   have st : Stay H H':=Stay.but hxw rfl keep
   obtain ⟨ls,l1,l2⟩:=hlaws
   obtain ⟨rs,r1,r2⟩:=hrules
   obtain ⟨as,a1,a2⟩:=hat
   obtain ⟨xsa,hxa⟩:=a1.some_
   refine k H' (fun b o e _ _ _ h4=>keep b o e h4) ⟨ob.stay st,⟨ls,keep _ _ l1 (ne_of l1 hxw (by intro z; cases z)),l2.mono fun _ _ z=>z.stay st⟩,⟨rs,keep _ _ r1 (ne_of r1 hxw (by intro z; cases z)),r2.mono fun _ _ z=>z.stay st⟩,⟨as,a1.stay st.tups (by rw [hxa]; exact keep _ _ hxa n2),a2⟩,⟨ks,dat,dn.1,fun u v=>?_⟩,n1,n2⟩
   have:=dn.2 u v
   rw [lenO,List.take_length,List.take_zero] at this
   show (u,v)∈ks↔ML.Over (c.weighs ++ [(x,y)]) u v
   rw [this,ML.over_snoc,w3,mO,mU]
   constructor
   ·rintro (z | z | ⟨_,z⟩)
    ·exact .inl z
    ·exact .inr z
    ·cases z
   ·rintro (z | z)
    ·exact .inl z
    ·exact .inr (.inl z)
end
end SC
end
section
set_option maxRecDepth 100000
set_option maxHeartbeats 4000000
namespace SC
open PySem L2 L3 Mo
def tInD {K : Type} [DecidableEq K] (P : Program) (w : World) (D : KD K) (b : Bool) (ty td : TE) : TE:=fun σ H Q=>ty σ H fun y H1=>td σ H1 fun x H2=>∃ a c ks k,x = .ref a∧y = .ref c∧DAt D P w H2 a ks∧D.at_ H2 k c∧Q (.bl (if b = true then decide (k∈ks) else !decide (k∈ks))) H2
def tInL {K : Type} [DecidableEq K] (P : Program) (w : World) (D : KD K) (ty tdd : TE) : TE:=fun σ H Q=>ty σ H fun y H1=>tdd σ H1 fun x H2=>∃ a c od xs k,x = .ref a∧y = .ref c∧H2 a = some (.frz od (DO D P w a xs))∧(∀ x∈xs,D.at_ H2 x.1 x.2)∧(a == sysModules) = false∧D.at_ H2 k c∧Q (.bl (decide (k∈xs.map (·.1)))) H2
theorem dec_lI {x : Lit} {ks : List Lit} {i : Decidable (lI x∈ks.map lI)} : @decide _ i = decide (x∈ks):=by
 by_cases h : x∈ks
 ·rw [decide_eq_true h]; exact dec_mpr (mem_lI.mpr h)
 ·rw [decide_eq_false h]
  cases e : @decide _ i with
  | false=>rfl
  | true=>exact absurd (mem_lI.mp (dec_mp e)) h
theorem _root_.L3.VAt.same {K : Type} [DecidableEq K] {D : KD K} {P : Program} {w : World} {H H' : Hp} {a : Addr} {kvs : List (K × V)} (h : VAt D P w H a kvs) (s : Same H H') : VAt D P w H' a kvs:=by
 obtain ⟨xs,h1,h2,h3,h4⟩:=h
 exact ⟨xs,h1,s _ _ h2,fun x hx=>D.mono s.tups (h3 x hx),h4⟩
def PlOk (H : Hp) (kvs : List ((List Int × Int) × V)) (f : Lit→List Nat) : Prop:=∀ x,(valK kvs (lI x) = none∧f x = [])∨∃ q,valK kvs (lI x) = some (.ref q)∧H q = some (.lst ((f x).map vI))
theorem PlOk.same {H H' : Hp} {kvs : List ((List Int × Int) × V)} {f : Lit→List Nat} (h : PlOk H kvs f) (s : ∀ q ys,H q = some (.lst ys)→H' q = some (.lst ys)) : PlOk H' kvs f:=fun x=>by
 rcases h x with e | ⟨q,e1,e2⟩
 ·exact .inl e
 ·exact .inr ⟨q,e1,s _ _ e2⟩
theorem PlOk.congr {H : Hp} {kvs : List ((List Int × Int) × V)} {f g : Lit→List Nat} (e : ∀ x,f x = g x) (h : PlOk H kvs f) : PlOk H kvs g:=fun x=>by rw [← e x]; exact h x
def idxB (rows : List Row) (i : Nat) (b : List Lit) (x : Lit) : List Nat:=WF.idx rows i x ++ if x∈b then [i] else []
theorem idxB_out {rows : List Row} {i : Nat} {b : List Lit} {x : Lit} (h : x∉b) : idxB rows i b x = WF.idx rows i x:=by unfold idxB; rw [if_neg h,List.append_nil]
theorem idxB_in {rows : List Row} {i : Nat} {b : List Lit} {x : Lit} (h : x∈b) : idxB rows i b x = WF.idx rows i x ++ [i]:=by unfold idxB; rw [if_pos h]
section
variable {P : Program} {w : World} {K : PySem.W.Frag} {mg : Str→Option Value} {base : Heap}
abbrev sPlaces : Stmt:=top 19
theorem sc_places : FnScope ["clauses","places","place","clause","literal"] ["clauses"] (defScope sPlaces):=⟨rfl,rfl,rfl,by decide +kernel,rfl,by decide +kernel,by decide +kernel⟩
def spPlaces (P : Program) (w : World) (C : Addr) : Sp:=fun vs H Q _=>∃ (l : Addr) (ps : List Addr) (rows : List Row),vs = [.ref l]∧H l = some (.lst (ps.map V.ref))∧All2 (ClauseAt C H) rows ps∧rows.length≤200∧(∀ r∈rows,r.body.length≤6∧r.body.Nodup) ∧
 ∀ (H' : Hp) (d : Addr) (kvs : List ((List Int × Int) × V)),Same H H'→H d = none→VAt litD P w H' d kvs→PlOk H' kvs (WF.idx rows rows.length)→Q (.ref d) H'
theorem ok_places {C : Addr} (Be : mg "enumerate" = none) (T : ClT K C) (D : DefAt K mg "places_by_literal" sPlaces ["clauses"]) : Has P w K mg base 1 "places_by_literal" ["clauses"] (spPlaces P w C):=D.has fun f fd F=>by
 refine F.ok sc_places (fun vs H Q E h=>?_) (fun cdv A outer s H vs Q E hr h=>?_)
 ·obtain ⟨l,ps,rows,rfl,_⟩:=h
  rfl
 ·obtain ⟨l,ps,rows,rfl,hl,al,hn,hb,k⟩:=h
  refine ⟨_,pss_cons (ps_set (i:=1) sc_places.nd rfl (Or.inl rfl) (pe_vn litD))
   (pss_cons (ps_for PassesOwn.never rfl (pi_enum rfl Be (pa_cons (pv 0) pa_nil)) (pg_tup rfl (pgs_cons (pg_name (i:=2) sc_places.nd rfl (Or.inl rfl)) (pgs_cons (pg_name (i:=3) sc_places.nd rfl (Or.inl rfl)) pgs_nil)))
    (pss_one (ps_for PassesOwn.never rfl (pi_seq (pe_fld (pv 3) rfl)) (pg_name (i:=4) sc_places.nd rfl (Or.inl rfl))
     (pss_one (ps_vput (D:=litD) (room3 hr) (pv 1) (pv 4) (pe_op op_cat (pe_vget2 (D:=litD) (room3 hr) (pv 1) (pv 4) (pe_lst pa_nil) ⟨rfl,rfl,rfl,rfl⟩) (pe_lst (pa_cons (pv 2) pa_nil))) rfl)))))
   (pss_one (ps_ret (pv 1)))),?_⟩
  intro d H1 hd0 dat1 e1
  have s1 : Same H H1:=fun b o e=>by rw [e1 b (ne_of_none e hd0)]; exact e
  have lenP : ((ps.map V.ref).length) = rows.length:=by rw [List.length_map]; exact al.len.symm
  refine ⟨_,rfl,l,ps.map V.ref,rfl,SqL.of (s1 _ _ hl),?_⟩
  refine for_enum (xs:=ps.map V.ref) (fun i σ H'=>∃ (v2 v3 v4 : Option V) (kvs : List ((List Int × Int) × V)),σ = [some (.ref l),some (.ref d),v2,v3,v4]∧Same H H'∧VAt litD P w H' d kvs∧kvs.length≤6 * i∧PlOk H' kvs (WF.idx rows i)) ?_ ?_ ?_ ?_
  ·exact ⟨none,none,none,[],rfl,s1,dat1,Nat.le_refl _,fun x=>.inl ⟨rfl,rfl⟩⟩
  ·rintro i σ H' ⟨_,_,_,_,_,s,_⟩
   exact SqL.of (s _ _ hl)
  ·rintro i v σ H2 T0 hv ⟨v2,v3,v4,kvs,rfl,s2,dat2,len2,pl2⟩ hT
   obtain ⟨p,hp,rfl⟩:=map_ref_get hv
   obtain ⟨r,hr3,hrp⟩:=al.get hp
   have hrm : r∈rows:=List.mem_of_getElem? hr3
   have hi : i < rows.length:=(List.getElem?_eq_some_iff.mp hr3).1
   have sT : Same H2 (upd H2 T0 (.tup [.int (i : Nat),.ref p])):=Same.new hT
   have s3:=s2.trans sT
   obtain ⟨dx,n,b,h,h1,h2,h3,h4⟩:=hrp
   obtain ⟨bs,hbs,alb⟩:=id h3
   refine ⟨_,rfl,p,C,dx,_,_,rfl,s3 _ _ h1,T.cl,T.body,clF_body _ _ _,b,_,false,rfl,SqT.of (s3 _ _ hbs),fun J S=>?_⟩
   refine for_gen (S H (SqT.of hbs)) (fun j σ H'=>∃ (v4 : Option V) (kvs : List ((List Int × Int) × V)),σ = [some (.ref l),some (.ref d),some (.int (i : Nat)),some (.ref p),v4]∧Same H H'∧VAt litD P w H' d kvs∧kvs.length≤6 * i + j∧PlOk H' kvs (idxB rows i (r.body.take j))) ?_ ?_ ?_ ?_
   ·rintro j σ H' ⟨_,_,_,s,_⟩
    exact s
   ·exact ⟨v4,kvs,rfl,s3,dat2.same sT,len2,(pl2.same fun q ys e=>sT _ _ e).congr fun x=>by rw [List.take_zero,idxB_out (by simp)]⟩
   ·rintro j y σ H3 hj hy ⟨v4,kvs,rfl,s4,dat4,len4,pl4⟩
    obtain ⟨q,hq,rfl⟩:=map_ref_get hy
    obtain ⟨x,hx,hxq⟩:=alb.get hq
    have hxq4:=hxq.mono s4.tups
    have hj6 : j < r.body.length:=(List.getElem?_eq_some_iff.mp hx).1
    have hb6:=(hb r hrm).1
    have hnt : x∉r.body.take j:=fun z=>by
     obtain ⟨m,hm,e⟩:=List.mem_iff_getElem.mp z
     rw [List.length_take] at hm
     rw [List.getElem_take] at e
     have e2 : r.body[j] = x:=by rw [List.getElem?_eq_getElem hj6] at hx; exact Option.some.inj hx
     have:=(List.getElem_inj (hb r hrm).2).mp (e.trans e2.symm)
     omega
    refine ⟨_,rfl,d,kvs,rfl,dat4,_,rfl,(by show 0≤sizeLine; exact Nat.zero_le _),fun l0 hl0=>?_⟩
    have sl0 : Same H3 (upd H3 l0 (.lst [])):=Same.new hl0
    refine ⟨q,kvs,lI x,rfl,dat4.same sl0,hxq4.mono sl0.tups,_,rfl,(by show 1≤sizeLine; decide),fun l1 hl1=>?_⟩
    have sl1 : Same (upd H3 l0 (.lst [])) (upd (upd H3 l0 (.lst [])) l1 (.lst [.int (i : Nat)])):=Same.new hl1
    have got : ∃ g : Addr,(valK kvs (lI x)).getD (.ref l0) = .ref g∧(upd (upd H3 l0 (.lst [])) l1 (.lst [.int (i : Nat)])) g = some (.lst ((WF.idx rows i x).map vI)):=by
     rcases pl4 x with ⟨e1,e2⟩ | ⟨g,e1,e2⟩
     ·rw [idxB_out hnt] at e2
      refine ⟨l0,by rw [e1]; rfl,?_⟩
      rw [e2]
      exact sl1 _ _ upd_same
     ·rw [idxB_out hnt] at e2
      exact ⟨g,by rw [e1]; rfl,sl1 _ _ (sl0 _ _ e2)⟩
    obtain ⟨g,eg,hg⟩:=got
    rw [eg]
    refine ⟨g,l1,_,_,rfl,rfl,hg,upd_same,?_,fun pn hpn=>?_⟩
    ·rw [List.length_map,List.length_singleton]
     have:=WF.idx_len rows i x
     exact Nat.le_of_lt (lt_size (by omega))
    have sl2:=(sl0.trans sl1).trans (Same.new (o:=.lst ((WF.idx rows i x).map vI ++ [.int (i : Nat)])) hpn)
    refine ⟨_,rfl,_,rfl,d,q,kvs,lI x,rfl,rfl,dat4.same sl2,hxq4.mono sl2.tups,lt_size (by omega),fun H5 d5 e5=>?_⟩
    have keep : ∀ a ys,H3 a = some (.lst ys)→H5 a = some (.lst ys):=fun a ys e=>by
     have hne : a≠d:=fun z=>by
      obtain ⟨xs,_,f2,_⟩:=dat4
      rw [z,f2] at e; cases e
     rw [e5 a hne]; exact sl2 _ _ e
    refine ⟨_,_,rfl,fun a o e=>?_,d5,?_,fun y=>?_⟩
    ·rw [e5 a (ne_of_none e hd0)]
     exact sl2 _ _ (s4 _ _ e)
    ·have:=putVK_len (kvs:=kvs) (k:=lI x) (v:=V.ref pn)
     omega
    ·rw [valK_put]
     by_cases ey : y = x
     ·subst ey
      rw [if_pos rfl]
      refine .inr ⟨pn,rfl,?_⟩
      have hne : pn≠d:=fun z=>by
       obtain ⟨xs,_,f2,_⟩:=dat4
       have:=(sl0.trans sl1) _ _ f2
       rw [z,this] at hpn; cases hpn
      rw [e5 pn hne,upd_same]
      have : y∈r.body.take (j + 1):=by rw [← take_snoc hx]; simp
      rw [idxB_in this,List.map_append]
      rfl
     ·rw [if_neg (fun z=>ey (lI_inj z))]
      have e2 : (y∈r.body.take (j + 1))↔y∈r.body.take j:=by rw [← take_snoc hx,List.mem_append,List.mem_singleton]; exact ⟨fun z=>z.elim id fun z=>absurd z ey,.inl⟩
      have e3 : idxB rows i (r.body.take (j + 1)) y = idxB rows i (r.body.take j) y:=by unfold idxB; simp only [e2]
      rw [e3]
      exact (pl4.same keep) y
   ·rintro σ H3 ⟨v4,kvs,rfl,s4,dat4,len4,pl4⟩
    have eb : (bs.map V.ref).length = r.body.length:=by rw [List.length_map]; exact alb.len.symm
    have hb6:=(hb r hrm).1
    refine ⟨_,_,_,kvs,rfl,s4,dat4,by rw [eb] at len4; omega,pl4.congr fun x=>?_⟩
    rw [eb,List.take_length,WF.idx_succ hr3]
    rfl
  ·rintro σ H' ⟨v2,v3,v4,kvs,rfl,s2,dat2,len2,pl2⟩
   rw [lenP] at pl2
   exact ⟨_,rfl,k H' d kvs s2 hd0 dat2 pl2⟩
def only (g : Addr) (o : HO) : Hp:=fun b=>if b = g then some o else none
theorem only_at (g : Addr) (o : HO) : only g o g = some o:=if_pos rfl
theorem only_same {g : Addr} {o : HO} {H : Hp} (h : H g = some o) : Same (only g o) H:=fun b u e=>by
 unfold only at e
 by_cases z : b = g
 ·rw [if_pos z] at e; rw [z,h]; exact e
 ·rw [if_neg z] at e; cases e
theorem _root_.L3.VAt.keep {K : Type} [DecidableEq K] {D : KD K} {P : Program} {w : World} {H H' : Hp} {a : Addr} {kvs : List (K × V)} (h : VAt D P w H a kvs) (s : ∀ o,H a = some o→H' a = some o) (t : Tups H H') : VAt D P w H' a kvs:=by
 obtain ⟨xs,h1,h2,h3,h4⟩:=h
 exact ⟨xs,h1,s _ h2,fun x hx=>D.mono t (h3 x hx),h4⟩
theorem _root_.L3.DAt.keep {K : Type} [DecidableEq K] {D : KD K} {P : Program} {w : World} {H H' : Hp} {a : Addr} {ks : List K} (h : DAt D P w H a ks) (s : ∀ o,H a = some o→H' a = some o) (t : Tups H H') : DAt D P w H' a ks:=by
 obtain ⟨xs,h1,h2,h3,h4⟩:=h
 exact ⟨xs,h1,s _ h2,fun x hx=>D.mono t (h3 x hx),h4⟩
def But (as : List Addr) (H H' : Hp) : Prop:=∀ b o,b∉as→H b = some o→H' b = some o
theorem But.trans {as : List Addr} {H H1 H2 : Hp} (a : But as H H1) (b : But as H1 H2) : But as H H2:=fun c o n e=>b c o n (a c o n e)
theorem But.of_same {as : List Addr} {H H1 : Hp} (a : Same H H1) : But as H H1:=fun c o _ e=>a c o e
theorem But.upd {as : List Addr} {H : Hp} {a : Addr} {o : HO} (h : a∈as) : But as H (upd H a o):=fun c u n e=>by rw [upd_ne (fun z=>n (by rw [z]; exact h))]; exact e
theorem But.of_eq {as : List Addr} {H H1 : Hp} {a : Addr} (h : a∈as) (e : ∀ c,c≠a→H1 c = H c) : But as H H1:=fun c u n q=>by rw [e c (fun z=>n (by rw [z]; exact h))]; exact q
theorem But.tups {as : List Addr} {H H' : Hp} (h : But as H H') (n : ∀ a∈as,∀ xs,H a≠some (.tup xs)) : Tups H H':=fun b xs e=>h b _ (fun z=>n b z xs e) e
def rLen (K : PySem.W.Frag) : List V→Hp→VK→Prop:=fun xs H Q=>∃ p ys,xs = [.ref p]∧(SqL K H p ys∨SqT K H p ys)∧Q (.int ys.length) H
theorem all2_snoc_inv {α : Type} {R : α→Addr→Prop} {xs : List α} {x : α} {ps : List Addr} (h : All2 R (xs ++ [x]) ps) : ∃ qs q,ps = qs ++ [q]∧All2 R xs qs∧R x q:=by
 induction xs generalizing ps with
 | nil =>
  cases h with
  | cons r t=>cases t; exact ⟨[],_,rfl,.nil,r⟩
 | cons y xs ih =>
  cases h with
  | cons r t =>
   obtain ⟨qs,q,e,h1,h2⟩:=ih t
   exact ⟨_ :: qs,q,by rw [e]; rfl,.cons r h1,h2⟩
theorem ixN_of {n j : Nat} (hj : j < n) : ixN n (j : Int) = some j:=by
 unfold ixN
 rw [if_pos (by omega),if_pos (by omega),Int.toNat_natCast]
theorem dec_vI0 {n : Nat} : decide (V.int (n : Int) = V.int 0) = decide (n = 0):=by
 by_cases h : n = 0
 ·subst h; rfl
 ·rw [decide_eq_false h,decide_eq_false (fun z=>h (by have:=V.int.inj z; omega))]
abbrev NWF : List Str:=["clauses","places","missing","coming","held","literal","place","clause"]
theorem sc_whatFollows : FnScope NWF ["clauses"] (defScope sWhatFollows):=⟨rfl,rfl,rfl,by decide +kernel,rfl,by decide +kernel,by decide +kernel⟩
def spWhatFollows (P : Program) (w : World) (C : Addr) : Sp:=fun vs H Q _=>∃ (l : Addr) (ps : List Addr) (rows : List Row),vs = [.ref l]∧H l = some (.lst (ps.map V.ref))∧All2 (ClauseAt C H) rows ps∧rows.length≤200∧(∀ r∈rows,r.body.length≤6∧r.body.Nodup) ∧
 ∀ (H' : Hp) (d : Addr) (ks : List Lit),Same H H'→H d = none→DAt litD P w H' d (ks.map lI)→ks.length≤200→(∀ x,x∈ks↔ML.LawDer rows x)→Q (.ref d) H'
theorem ok_whatFollows {C : Addr} (B : Bs mg) (T : ClT K C) (D : DefAt K mg "what_follows" sWhatFollows ["clauses"]) (hP : Has P w K mg base 1 "places_by_literal" ["clauses"] (spPlaces P w C)) : Has P w K mg base 2 "what_follows" ["clauses"] (spWhatFollows P w C):=D.has fun f fd F=>by
 refine F.ok sc_whatFollows (fun vs H Q E h=>?_) (fun cdv A outer s H vs Q E hr h=>?_)
 ·obtain ⟨l,ps,rows,rfl,_⟩:=h
  rfl
 ·obtain ⟨l,ps,rows,rfl,hl,al,hn,hb,k⟩:=h
  refine ⟨_,pss_cons (ps_set (i:=1) sc_whatFollows.nd rfl (Or.inl rfl) (pe_has hP hr rfl (pa_cons (pv 0) pa_nil)))
   (pss_cons (ps_setLc (i:=2) rfl sc_whatFollows.nd rfl rfl (sw_true rfl rfl rfl (by rfl)) (pi_seq (pv 0)) (blkOk_by (own:=[("clause",7)]) (by show blkC NWF (defScope sWhatFollows) _ _ = true; decide +kernel)) (fun _ _ _ _ _=>pg_name (i:=7) sc_whatFollows.nd rfl (Or.inl rfl)) (fun _ _ _ _ _=>pts_nil) (fun _ _ _ _ _=>show PE _ _ (tCB (rLen K) (tCons (tFld K (tVar 7) "body") tNil)) from pe_callB call_len_seq rfl B.len boot_len' (pa_cons (pe_fld (pv 7) rfl) pa_nil)))
   (pss_cons (ps_setLc (i:=3) rfl sc_whatFollows.nd rfl rfl (sw_true rfl rfl rfl (by rfl)) (pi_seq (pv 0)) (blkOk_by (own:=[("clause",7)]) (by show blkC NWF (defScope sWhatFollows) _ _ = true; decide +kernel)) (fun _ _ _ _ _=>pg_name (i:=7) sc_whatFollows.nd rfl (Or.inl rfl)) (fun _ _ _ _ _=>pts_one (pt_cmpR op_eq (show PE _ _ (tCB (rLen K) (tCons (tFld K (tVar 7) "body") tNil)) from pe_callB call_len_seq rfl B.len boot_len' (pa_cons (pe_fld (pv 7) rfl) pa_nil)) pe_int (nomark _))) (fun _ _ _ _ _=>show PE _ _ (tFld K (tVar 7) "head") from pe_fld (pv 7) rfl))
   (pss_cons (ps_set (i:=4) sc_whatFollows.nd rfl (Or.inl rfl) (pe_dn litD))
   (pss_cons (ps_while PassesOwn.never (pt_cmpR op_gt (pe_callB call_len_seq rfl B.len boot_len' (pa_cons (pv 3) pa_nil)) pe_int (nomark _))
    (pss_cons (ps_set (i:=5) sc_whatFollows.nd rfl (Or.inl rfl) (pe_bm0 PySem.F.plainAttrs_list PySem.F.slot_list_pop PySem.F.type_list_pop mt_pop (pv 3)))
    (pss_one (ps_if (pt_cmp (pc_dn_notin (D:=litD) (room3 hr) (pv 5) (pv 4)) (by rfl))
     (pss_cons (ps_dn_put (D:=litD) (room3 hr) (pv 4) (pv 5) pe_bl rfl)
     (pss_one (ps_for PassesOwn.never rfl (pi_seq (pe_vget2 (D:=litD) (room3 hr) (pv 1) (pv 5) (pe_lst pa_nil) ⟨rfl,rfl,rfl,rfl⟩)) (pg_name (i:=6) sc_whatFollows.nd rfl (Or.inl rfl))
      (pss_cons (ps_augS (pv 2) (pv 6) get_list pe_int ip_sub set_list)
      (pss_one (ps_if (pt_cmpR op_eq (pe_ix (r:=rIxL K) ix_list (pv 2) (pv 6) (fun _ _=>rfl)) pe_int (nomark _))
       (pss_one (ps_expr (pe_bm PySem.F.plainAttrs_list PySem.F.slot_list_append PySem.F.type_list_append mt_append (pv 3) (pa_cons (pe_fld (pe_ix (r:=rIxL K) ix_list (pv 0) (pv 6) (fun _ _=>rfl)) rfl) pa_nil))))
       pss_nil))))))
     pss_nil))))
   (pss_one (ps_ret (pv 4))))))),?_⟩
  have lenP : ((ps.map V.ref).length) = rows.length:=by rw [List.length_map]; exact al.len.symm
  refine ⟨_,rfl,l,ps,rows,rfl,hl,al,hn,hb,fun H1 dp kvs s1 hdp vat1 pl1=>?_⟩
  refine ⟨_,rfl,l,_,true,rfl,SqL.of (s1 _ _ hl),fun J S lm hlm=>?_⟩
  refine lc_map (S _ (SqL.of (s1 _ _ hl))) (fun i acc _=>acc = ((rows.take i).map fun r=>r.body.length).map vI) (fun _ _ _ _ _ z=>z) hlm (lt_size (by rw [lenP]; omega)) (fun _=>rfl) rfl ?_ ?_
  ·rintro i v acc H2 QA QB hi hv sm rfl ka kb
   obtain ⟨p,hp,rfl⟩:=map_ref_get hv
   obtain ⟨r,hr3,hrp⟩:=al.get hp
   obtain ⟨dx,n,b,h,h1,h2,h3,h4⟩:=hrp.same (s1.trans sm)
   obtain ⟨bs,hbs,alb⟩:=id h3
   refine ⟨_,rfl,p,C,dx,_,_,rfl,h1,T.cl,T.body,clF_body _ _ _,b,_,rfl,.inr (SqT.of hbs),ka _ _ (Same.refl _) ?_⟩
   rw [← take_snoc hr3,List.map_append,List.map_append,List.length_map,← alb.len]
   rfl
  rintro ys H2 rfl hlm2 sm2
  rw [lenP,List.take_length] at hlm2
  have s2:=s1.trans sm2
  refine ⟨_,rfl,l,_,true,rfl,SqL.of (s2 _ _ hl),fun J S lc hlc=>?_⟩
  refine lc_map (S _ (SqL.of (s2 _ _ hl))) (fun i acc H'=>∃ qs,acc = qs.map V.ref∧All2 (Lt H') (((rows.take i).filter fun r=>decide (r.body.length = 0)).map Row.head) qs) (by rintro _ _ _ _ t ⟨qs,e,z⟩; exact ⟨qs,e,z.mono fun _ _ r=>r.mono t⟩) hlc (lt_size (by rw [lenP]; omega)) (fun _=>rfl) ⟨[],rfl,.nil⟩ ?_ ?_
  ·rintro i v acc H3 QA QB hi hv sm ⟨qs,rfl,rl⟩ ka kb
   obtain ⟨p,hp,rfl⟩:=map_ref_get hv
   obtain ⟨r,hr3,hrp⟩:=al.get hp
   obtain ⟨dx,n,b,h,h1,h2,h3,h4⟩:=hrp.same (s2.trans sm)
   obtain ⟨bs,hbs,alb⟩:=id h3
   refine ⟨_,rfl,p,C,dx,_,_,rfl,h1,T.cl,T.body,clF_body _ _ _,b,_,rfl,.inr (SqT.of hbs),rfl,_,rfl,?_⟩
   have e0 : decide (V.int ((bs.map V.ref).length : Int) = V.int 0) = decide (r.body.length = 0):=by
    rw [List.length_map,← alb.len]
    exact dec_vI0
   rw [e0]
   refine ite2 (fun hz=>?_) (fun hz=>?_)
   ·refine ⟨_,rfl,p,C,dx,_,_,rfl,h1,T.cl,T.head,clF_head _ _ _,ka _ _ (Same.refl _) ⟨qs ++ [h],by rw [List.map_append]; rfl,?_⟩⟩
    rw [filter_snoc hr3,if_pos hz,List.map_append]
    exact All2.snoc h4 rl
   ·refine kb _ (Same.refl _) ⟨qs,rfl,?_⟩
    rw [filter_snoc hr3,if_neg hz,List.append_nil]
    exact rl
  rintro ys H3 ⟨qs0,rfl,rl0⟩ hlc3 sm3
  rw [lenP,List.take_length] at rl0
  have s3:=s2.trans sm3
  intro d H4 hd4 dat4 e4
  have s34 : Same H3 H4:=fun b o e=>by rw [e4 b (ne_of_none e hd4)]; exact e
  have s4:=s3.trans s34
  have pl4 : PlOk H4 kvs (WF.idx rows rows.length):=pl1.same fun q ys e=>s34 _ _ (sm3 _ _ (sm2 _ _ e))
  have vat4 : VAt litD P w H4 dp kvs:=((vat1.same sm2).same sm3).same s34
  have hm4 : H4 lm = some (.lst ((rows.map fun r=>r.body.length).map vI)):=s34 _ _ (sm3 _ _ hlm2)
  have hc4 : H4 lc = some (.lst (qs0.map V.ref)):=s34 _ _ hlc3
  have nlm : ∀ b o,H b = some o→b≠lm:=fun b o e=>ne_of_none (s1 _ _ e) hlm
  have nlc : ∀ b o,H b = some o→b≠lc:=fun b o e=>ne_of_none (s2 _ _ e) hlc
  have nd4 : ∀ b o,H b = some o→b≠d:=fun b o e=>ne_of_none (s3 _ _ e) hd4
  have hdn : H d = none:=by
   cases z : H d with
   | none=>rfl
   | some o=>exact absurd rfl (nd4 d o z)
  have mc : lm≠lc:=ne_of_none hlm2 hlc
  have md : lm≠d:=ne_of_none (sm3 _ _ hlm2) hd4
  have cd : lc≠d:=ne_of_none hlc3 hd4
  have pm : dp≠lm:=by obtain ⟨xs,_,f2,_⟩:=vat1; exact ne_of_none f2 hlm
  have pc : dp≠lc:=by obtain ⟨xs,_,f2,_⟩:=vat1; exact ne_of_none (sm2 _ _ f2) hlc
  have pd : dp≠d:=by obtain ⟨xs,_,f2,_⟩:=vat1; exact ne_of_none (sm3 _ _ (sm2 _ _ f2)) hd4
  have hdT : ∀ xs,H4 d≠some (.tup xs):=fun xs z=>by obtain ⟨ys,_,f2,_⟩:=dat4; rw [f2] at z; cases z
  have butT : ∀ {H'},But [lm,lc,d] H4 H'→Tups H4 H':=fun {H'} b=>b.tups fun a ha xs z=>by
   rcases List.mem_cons.mp ha with e | ha
   ·rw [e,hm4] at z; cases z
   ·rcases List.mem_cons.mp ha with e | ha
    ·rw [e,hc4] at z; cases z
    ·rw [List.mem_singleton.mp ha] at z; exact hdT xs z
  have butS : ∀ {H'},But [lm,lc,d] H4 H'→Same H H':=fun {H'} b c o e=>b c o (by simp [nlm c o e,nlc c o e,nd4 c o e]) (s4 _ _ e)
  have klen : ∀ {ks : List Lit},ks.Nodup→(∀ x∈ks,ML.LawDer rows x)→ks.length≤200:=fun {ks} nd sd=>by
   have:=nd.length_le_of_subset (l₂:=rows.map Row.head) fun x hx=>by
    cases sd x hx with
    | law hr _=>exact List.mem_map.mpr ⟨_,hr,rfl⟩
   rw [List.length_map] at this
   omega
  refine ⟨fun m σ H'=>∃ (v5 v6 : Option V) (ks cs : List Lit) (ms : List Nat) (qs : List Addr),σ = [some (.ref l),some (.ref dp),some (.ref lm),some (.ref lc),some (.ref d),v5,v6,none]∧But [lm,lc,d] H4 H'∧DAt litD P w H' d (ks.map lI)∧H' lm = some (.lst (ms.map vI))∧H' lc = some (.lst (qs.map V.ref))∧All2 (Lt H') cs qs∧WF.Stt rows ks cs [] ks ms∧m = cs.length + WF.pos ms∧m≤200,
   ⟨_,none,none,[],_,_,qs0,rfl,fun b o _ e=>e,dat4,hm4,hc4,rl0.mono (fun _ _ r=>r.mono s34.tups),WF.st_start rows,rfl,by rw [WF.pos_start]; exact hn⟩,?_⟩
  rintro m σ H5 ⟨v5,v6,ks,cs,ms,qs,rfl,b5,dat5,hm5,hc5,al5,st5,em,mb⟩
  refine ⟨_,rfl,lc,_,rfl,.inl (SqL.of hc5),_,_,rfl,rfl,_,rfl,?_⟩
  have lcs:=al5.len
  refine ite2 (fun hgt=>?_) (fun hgt=>?_)
  rotate_left
  ·have e0 : cs = []:=by
    cases cs with
    | nil=>rfl
    | cons c cs =>
     exfalso
     refine hgt (decide_eq_true ?_)
     rw [List.length_map,← lcs,List.length_cons]
     show (0 : Int) < _
     omega
   subst e0
   exact ⟨_,rfl,k H5 d ks (butS b5) hdn dat5 (klen st5.nd st5.dk) (WF.st_done st5)⟩
  ·have hpos : 0 < cs.length:=by
    have z : (0 : Int) < ((qs.map V.ref).length : Int):=of_decide_eq_true hgt
    rw [List.length_map,← lcs] at z
    omega
   obtain ⟨cs',x,rfl⟩ : ∃ cs' x,cs = cs' ++ [x]:=⟨cs.dropLast,cs.getLast (by intro z; rw [z] at hpos; cases hpos),(List.dropLast_concat_getLast _).symm⟩
   obtain ⟨qs',q,rfl,al6,hxq⟩ : ∃ qs' q,qs = qs' ++ [q]∧All2 (Lt H5) cs' qs'∧Lt H5 x q:=all2_snoc_inv al5
   rw [List.length_append,List.length_singleton] at em
   refine ⟨fun σ' H'=>∃ m',m' < m∧∃ (v5 v6 : Option V) (ks cs : List Lit) (ms : List Nat) (qs : List Addr),σ' = [some (.ref l),some (.ref dp),some (.ref lm),some (.ref lc),some (.ref d),v5,v6,none]∧But [lm,lc,d] H4 H'∧DAt litD P w H' d (ks.map lI)∧H' lm = some (.lst (ms.map vI))∧H' lc = some (.lst (qs.map V.ref))∧All2 (Lt H') cs qs∧WF.Stt rows ks cs [] ks ms∧m' = cs.length + WF.pos ms∧m'≤200,fun σ' H' h=>h,?_⟩
   refine ⟨_,rfl,.inl ⟨rfl,_,SqL.of hc5⟩,lc,_,.ref q,rfl,rfl,hc5,(by rw [List.map_append,List.length_append]; simp),?_⟩
   have edl : ((qs' ++ [q]).map V.ref).dropLast = qs'.map V.ref:=by rw [List.map_append]; simp
   rw [edl]
   have b6 : But [lm,lc,d] H5 (upd H5 lc (.lst (qs'.map V.ref))):=But.upd (by simp)
   have t6 : Tups H5 (upd H5 lc (.lst (qs'.map V.ref))):=tups_upd hc5 fun _ z=>by cases z
   have dat6 : DAt litD P w (upd H5 lc (.lst (qs'.map V.ref))) d (ks.map lI):=dat5.keep (fun o e=>by rw [upd_ne (Ne.symm cd)]; exact e) t6
   have hm6 : (upd H5 lc (.lst (qs'.map V.ref))) lm = some (.lst (ms.map vI)):=by rw [upd_ne mc]; exact hm5
   generalize hH6 : upd H5 lc (.lst (qs'.map V.ref)) = H6 at b6 t6 dat6 hm6
   have hc6 : H6 lc = some (.lst (qs'.map V.ref)):=by rw [← hH6]; exact upd_same
   have al6' : All2 (Lt H6) cs' qs':=al6.mono fun _ _ r=>r.mono t6
   refine ⟨_,rfl,_,rfl,d,q,ks.map lI,lI x,rfl,rfl,dat6,hxq.mono t6,!decide (x∈ks),(by rw [if_neg Bool.false_ne_true,dec_lI]),?_⟩
   cases hh : decide (x∈ks) with
   | true =>
    exact iteF ⟨cs'.length + WF.pos ms,by omega,_,_,ks,cs',ms,qs',rfl,b5.trans b6,dat6,hm6,hc6,al6',WF.st_pop_old st5 (of_decide_eq_true hh),rfl,by omega⟩
   | false =>
    have hx : x∉ks:=of_decide_eq_false hh
    refine iteT ⟨_,rfl,_,rfl,d,q,ks.map lI,lI x,rfl,rfl,rfl,dat6,hxq.mono t6,lt_size (by have:=klen st5.nd st5.dk; rw [List.length_map]; omega),fun H7 d7 e7=>?_⟩
    have d7 : DAt litD P w H7 d ((ks ++ [x]).map lI):=by
     rw [if_neg (fun z=>hx (mem_lI.mp z))] at d7
     rw [List.map_append]; exact d7
    have b7 : But [lm,lc,d] H6 H7:=But.of_eq (a:=d) (by simp) e7
    have t7 : Tups H6 H7:=fun b xs e=>by
     rw [e7 b (fun z=>by obtain ⟨ys,_,f2,_⟩:=dat6; rw [z,f2] at e; cases e)]; exact e
    have b47:=(b5.trans b6).trans b7
    have vat7 : VAt litD P w H7 dp kvs:=vat4.keep (fun o e=>b47 _ _ (by simp [pm,pc,pd]) e) (butT b47)
    have hxq7 : Lt H7 x q:=(hxq.mono t6).mono t7
    refine ⟨_,rfl,dp,kvs,rfl,vat7,_,rfl,(by show 0≤sizeLine; exact Nat.zero_le _),fun l0 hl0=>?_⟩
    have sl0 : Same H7 (upd H7 l0 (.lst [])):=Same.new hl0
    have t8:=sl0.tups
    have hm8 : (upd H7 l0 (.lst [])) lm = some (.lst (ms.map vI)):=sl0 _ _ (by rw [e7 lm md]; exact hm6)
    have hc8 : (upd H7 l0 (.lst [])) lc = some (.lst (qs'.map V.ref)):=sl0 _ _ (by rw [e7 lc cd]; exact hc6)
    have d8 : DAt litD P w (upd H7 l0 (.lst [])) d ((ks ++ [x]).map lI):=d7.same sl0
    have got : ∃ g : Addr,(valK kvs (lI x)).getD (.ref l0) = .ref g∧(upd H7 l0 (.lst [])) g = some (.lst ((WF.idx rows rows.length x).map vI))∧g≠lm∧g≠lc:=by
     rcases pl1 x with ⟨z1,z2⟩ | ⟨g,z1,z2⟩
     ·refine ⟨l0,by rw [z1]; rfl,by rw [z2]; exact upd_same,?_,?_⟩
      ·exact Ne.symm (ne_of_none (by rw [e7 lm md]; exact hm6) hl0)
      ·exact Ne.symm (ne_of_none (by rw [e7 lc cd]; exact hc6) hl0)
     ·have g1 : g≠lm:=ne_of_none z2 hlm
      have g2 : g≠lc:=ne_of_none (sm2 _ _ z2) hlc
      have g3 : g≠d:=ne_of_none (sm3 _ _ (sm2 _ _ z2)) hd4
      exact ⟨g,by rw [z1]; rfl,sl0 _ _ (b47 _ _ (by simp [g1,g2,g3]) (s34 _ _ (sm3 _ _ (sm2 _ _ z2)))),g1,g2⟩
    obtain ⟨g,eg,hg,gm,gc⟩:=got
    refine ⟨q,kvs,lI x,rfl,vat7.same sl0,hxq7.mono t8,?_⟩
    rw [eg]
    have b8:=b47.trans (But.of_same sl0)
    generalize hH8 : upd H7 l0 (.lst []) = H8 at hm8 hc8 d8 hg b8 t8
    refine ⟨g,_,true,rfl,SqL.of hg,fun J S=>?_⟩
    have al8 : All2 (Lt H8) cs' qs':=al6'.mono fun _ _ r=>(r.mono t7).mono t8
    refine for_gen (S (only g (.lst ((WF.idx rows rows.length x).map vI))) (SqL.of (only_at _ _))) (fun j σ H'=>∃ (v6 : Option V) (cs : List Lit) (ms : List Nat) (qs : List Addr),σ = [some (.ref l),some (.ref dp),some (.ref lm),some (.ref lc),some (.ref d),some (.ref q),v6,none]∧But [lm,lc] H8 H'∧H' lm = some (.lst (ms.map vI))∧H' lc = some (.lst (qs.map V.ref))∧All2 (Lt H') cs qs∧WF.Stt rows (ks ++ [x]) cs ((WF.idx rows rows.length x).take j) ks ms∧cs.length + WF.pos ms + 1 = m) ?_ ?_ ?_ ?_
    ·rintro j σ H' ⟨_,_,_,_,_,b,_⟩
     exact only_same (b g _ (by simp [gm,gc]) hg)
    ·exact ⟨v6,cs',ms,qs',rfl,fun _ _ _ e=>e,hm8,hc8,al8,by rw [List.take_zero]; exact WF.st_pop_new st5 hx,by omega⟩
    ·rintro j y σ H9 hj hy ⟨v6,cs,ms,qs,rfl,b9,hm9,hc9,al9,st9,em9⟩
     obtain ⟨i,hi,rfl⟩:=map_vI_get hy
     have him:=WF.mem_idx.mp (List.mem_of_getElem? hi)
     have hr3 : rows[i]? = some rows[i]:=List.getElem?_eq_getElem him.1
     generalize rows[i] = r at hr3
     have hrm : r∈rows:=List.mem_of_getElem? hr3
     have hxb : x∈r.body:=by have z:=him.2; rw [WF.at_some hr3] at z; exact of_decide_eq_true z
     have hin : i∉(WF.idx rows rows.length x).take j:=fun z=>by
      obtain ⟨m',hm',e⟩:=List.mem_iff_getElem.mp z
      rw [List.length_take] at hm'
      rw [List.getElem_take] at e
      have hjl : j < (WF.idx rows rows.length x).length:=(List.getElem?_eq_some_iff.mp hi).1
      have e2 : (WF.idx rows rows.length x)[j] = i:=by rw [List.getElem?_eq_getElem hjl] at hi; exact Option.some.inj hi
      have:=(List.getElem_inj (WF.idx_nodup rows rows.length x)).mp (e.trans e2.symm)
      omega
     obtain ⟨v,e1,st10⟩:=WF.st_step hx hr3 hxb hin st9
     rw [take_snoc hi] at st10
     have hps:=WF.pos_set e1
     have hil : i < ms.length:=(List.getElem?_eq_some_iff.mp e1).1
     obtain ⟨p,hp,hrp⟩:=al.get' hr3
     refine ⟨_,rfl,_,rfl,lm,_,i,vI (v + 1),rfl,rfl,hm9,(by rw [List.getElem?_map,e1]; rfl),_,_,rfl,rfl,lm,_,_,i,rfl,rfl,hm9,ixN_of (by rw [List.length_map]; exact hil),?_⟩
     have ev : (ms.map vI).set i (.int (((v + 1 : Nat) : Int) - 1)) = (ms.set i v).map vI:=by
      rw [List.map_set]
      congr 1
      show V.int _ = V.int _
      congr 1
      omega
     rw [ev]
     have b10 : But [lm,lc] H9 (upd H9 lm (.lst ((ms.set i v).map vI))):=But.upd (by simp)
     have t10 : Tups H9 (upd H9 lm (.lst ((ms.set i v).map vI))):=tups_upd hm9 fun _ z=>by cases z
     have hm10 : (upd H9 lm (.lst ((ms.set i v).map vI))) lm = some (.lst ((ms.set i v).map vI)):=upd_same
     have hc10 : (upd H9 lm (.lst ((ms.set i v).map vI))) lc = some (.lst (qs.map V.ref)):=by rw [upd_ne (Ne.symm mc)]; exact hc9
     generalize hH10 : upd H9 lm (.lst ((ms.set i v).map vI)) = H10 at b10 t10 hm10 hc10
     have al10 : All2 (Lt H10) cs qs:=al9.mono fun _ _ r=>r.mono t10
     refine ⟨_,rfl,_,rfl,lm,_,_,vI v,rfl,rfl,SqL.of hm10,atI_nat (by rw [List.getElem?_map,List.getElem?_set_self hil]; rfl),rfl,_,rfl,?_⟩
     have e0 : decide (vI v = V.int 0) = decide (v = 0):=dec_vI0
     rw [e0]
     have b810:=b9.trans b10
     have bb : But [lm,lc,d] H8 H10:=fun b o n e=>b810 b o (fun z=>n (by simp at z ⊢; rcases z with z | z <;> simp [z])) e
     have sH:=butS (b8.trans bb)
     refine ite2 (fun hz=>?_) (fun hz=>?_)
     ·have hz' : v = 0:=of_decide_eq_true hz
      rw [if_pos hz'] at st10 hps
      obtain ⟨dx,n,b,h,h1,h2,h3,h4⟩:=hrp.same sH
      refine ⟨_,rfl,.inl ⟨rfl,_,SqL.of hc10⟩,_,rfl,_,rfl,l,_,_,.ref p,rfl,rfl,SqL.of (sH _ _ hl),atI_nat (by rw [List.getElem?_map,hp]; rfl),p,C,dx,_,_,rfl,h1,T.cl,T.head,clF_head _ _ _,lc,_,.ref h,rfl,rfl,hc10,lt_size (by rw [List.length_map,← al10.len]; omega),?_⟩
      have t11 : Tups H10 (upd H10 lc (.lst (qs.map V.ref ++ [.ref h]))):=tups_upd hc10 fun _ z=>by cases z
      refine ⟨_,cs ++ [r.head],ms.set i v,qs ++ [h],rfl,b810.trans (But.upd (by simp)),by rw [upd_ne mc]; exact hm10,by rw [List.map_append]; exact upd_same,All2.snoc (h4.mono t11) (al10.mono fun _ _ r=>r.mono t11),st10,?_⟩
      rw [List.length_append,List.length_singleton]
      omega
     ·have hz' : ¬ v = 0:=fun z=>hz (decide_eq_true z)
      rw [if_neg hz'] at st10 hps
      exact ⟨_,cs,ms.set i v,qs,rfl,b810,hm10,hc10,al10,st10,by omega⟩
    ·rintro σ H9 ⟨v6,cs,ms,qs,rfl,b9,hm9,hc9,al9,st9,em9⟩
     rw [List.length_map,List.take_length] at st9
     have t9 : Tups H8 H9:=b9.tups fun a ha xs z=>by
      rcases List.mem_cons.mp ha with e | ha
      ·rw [e,hm8] at z; cases z
      ·rw [List.mem_singleton.mp ha,hc8] at z; cases z
     refine ⟨cs.length + WF.pos ms,by omega,_,_,ks ++ [x],cs,ms,qs,rfl,b8.trans (fun b o n e=>b9 b o (fun z=>n (by simp at z ⊢; rcases z with z | z <;> simp [z])) e),d8.keep (fun o e=>b9 _ _ (by simp [Ne.symm md,Ne.symm cd]) e) t9,hm9,hc9,al9,WF.st_close hx (fun r hr=>(hb r hr).2) st9,rfl,by omega⟩
def opp (x : Lit) : Lit:=⟨x.atom,!x.no⟩
theorem noI_opp (x : Lit) : noI (opp x) = 1 - noI x:=by unfold opp noI; cases x.no <;> rfl
theorem sc_hasOpp : FnScope ["literals","literal"] ["literals"] (defScope sHasOpp):=⟨rfl,rfl,rfl,by decide +kernel,rfl,by decide +kernel,by decide +kernel⟩
def spHasOpp (P : Program) (w : World) : Sp:=fun vs H Q _=>∃ (d : Addr) (ks : List Lit),vs = [.ref d]∧DAt litD P w H d (ks.map lI)∧ks.length≤1000∧∀ H' g,Same H H'→(g = true↔∃ a,(⟨a,false⟩ : Lit)∈ks∧(⟨a,true⟩ : Lit)∈ks)→Q (.bl g) H'
theorem lt_keys {H : Hp} {xs : List ((List Int × Int) × Addr)} {ks : List Lit} (e : xs.map (·.1) = ks.map lI) (h : ∀ x∈xs,litD.at_ H x.1 x.2) {i : Nat} {k : List Int × Int} {b : Addr} (hx : xs[i]? = some (k,b)) : ∃ p,ks[i]? = some p∧Lt H p b:=by
 have e1 : (xs.map (·.1))[i]? = some k:=by rw [List.getElem?_map,hx]; rfl
 rw [e,List.getElem?_map] at e1
 obtain ⟨p,hp,e2⟩:=Option.map_eq_some_iff.mp e1
 refine ⟨p,hp,?_⟩
 have:=h (k,b) (List.mem_of_getElem? hx)
 show LtAt H (lI p) b
 rw [e2]; exact this
theorem any_opp {ks : List Lit} : (ks.map fun x=>decide (opp x∈ks)).any id = true↔∃ a,(⟨a,false⟩ : Lit)∈ks∧(⟨a,true⟩ : Lit)∈ks:=by
 rw [List.any_map,List.any_eq_true]
 constructor
 ·rintro ⟨⟨a,n⟩,hx,h⟩
  have h : opp ⟨a,n⟩∈ks:=of_decide_eq_true h
  cases n with
  | false=>exact ⟨a,hx,h⟩
  | true=>exact ⟨a,h,hx⟩
 ·rintro ⟨a,h1,h2⟩
  exact ⟨⟨a,false⟩,h1,decide_eq_true h2⟩
theorem ok_hasOpp (B : Bs mg) (D : DefAt K mg "has_opposites" sHasOpp ["literals"]) : Has P w K mg base 1 "has_opposites" ["literals"] (spHasOpp P w):=D.has fun f fd F=>by
 refine F.ok sc_hasOpp (fun vs H Q E h=>?_) (fun cdv A outer s H vs Q E hr h=>?_)
 ·obtain ⟨d,ks,rfl,_⟩:=h
  rfl
 ·obtain ⟨d,ks,rfl,⟨xs,e1,e2,e3,e4,e5⟩,hn,k⟩:=h
  refine ⟨_,pss_one (ps_ret (pe_lock (pe_callB (cr_any rfl) rfl B.any boot_any' (pa_cons
   (pe_lc rfl sc_hasOpp.nd (pi_dn (D:=litD) (pv 0)) (blkOk_by (own:=[("literal",1)]) (by show blkC ["literals","literal"] (defScope sHasOpp) _ _ = true; decide +kernel)) (fun _ _ _ _ _=>pg_name (i:=1) sc_hasOpp.nd rfl (Or.inl rfl)) (fun _ _ _ _ _=>pts_nil)
    (fun _ _ _ _ _=>show PE _ _ (tInL P w litD (tTup (tCons (tOp (rIxT K) (tVar 1) (tC (.int 0))) (tCons (tOp (rI0 fun i j=>.int (i - j)) (tC (.int 1)) (tOp (rIxT K) (tVar 1) (tC (.int 1)))) tNil))) (tVar 0)) from
     pe_cmp (pc_dn_inL (D:=litD) (room3 hr) (pe_tup (pa_cons (pe_ix (r:=rIxT K) ix_tup (pv 1) pe_int (fun _ _=>rfl)) (pa_cons (pe_op op_sub pe_int (pe_ix (r:=rIxT K) ix_tup (pv 1) pe_int (fun _ _=>rfl))) pa_nil))) (pv 0)) (by rfl))) pa_nil)))),?_⟩
  refine ⟨d,_,e2,trivial,fun od=>?_⟩
  have tu : Tups H (upd H d (.frz od (DO litD P w d xs))):=tups_upd e2 (fun _ z=>by cases z)
  have hl : xs.length = ks.length:=by have:=congrArg List.length e1; rw [List.length_map,List.length_map] at this; exact this
  refine ⟨_,rfl,d,od,xs,rfl,upd_same,e5,fun D hD=>?_⟩
  refine lc_map (src_dn upd_same) (fun i acc _=>acc = (ks.take i).map fun x=>V.bl (decide (opp x∈ks))) (fun _ _ _ _ _ z=>z) hD (lt_size (by omega)) (fun _=>rfl) rfl ?_ ?_
  ·rintro i v acc H2 QA QB hi ⟨kk,q,hx,rfl⟩ sm rfl ka kb
   obtain ⟨p,hp,hpr⟩:=lt_keys e1 (fun x hx=>litD.mono (tu.trans sm.tups) (e3 x hx)) hx
   obtain ⟨c,hc,hcw⟩:=hpr.tup
   refine ⟨_,rfl,q,_,_,_,rfl,rfl,SqT.of hc,atI_nat (j:=0) (v:=V.ref c) rfl,_,rfl,q,_,_,_,rfl,rfl,SqT.of hc,atI_nat (j:=1) (v:=V.int (noI p)) rfl,_,_,rfl,rfl,(by show 2≤sizeLine; decide),fun t ht=>?_⟩
   have st : Same H2 (upd H2 t (.tup [.ref c,.int (1 - noI p)])):=Same.new ht
   have sd : (upd H2 t (.tup [.ref c,.int (1 - noI p)])) d = some (.frz od (DO litD P w d xs)):=st _ _ (sm _ _ upd_same)
   refine ⟨_,rfl,d,t,od,xs,lI (opp p),rfl,rfl,sd,fun x hx=>litD.mono ((tu.trans sm.tups).trans st.tups) (e3 x hx),e5,Lt.of (l:=opp p) (by rw [noI_opp]; exact upd_same) (hcw.mono st.tups),ka _ _ st ?_⟩
   rw [← take_snoc hp,List.map_append]
   congr 2
   show V.bl _ = V.bl _
   congr 1
   have : ∀ {l : List (List Int × Int)} {i : Decidable (lI (opp p)∈l)},l = ks.map lI→@decide _ i = decide (opp p∈ks):=fun {l i} e=>by subst e; exact dec_lI
   exact this e1
  ·rintro ys H2 rfl hy sm
   rw [hl,List.take_length] at hy
   have hlk : H2 d = some (.frz od (DO litD P w d xs)):=sm _ _ upd_same
   exact ⟨D,ks.map fun x=>decide (opp x∈ks),rfl,SqL.of (by rw [hy,List.map_map]; rfl),hlk,k _ _ (unlock_same e2 sm) any_opp⟩
end
end SC
end
section
set_option maxRecDepth 100000
set_option maxHeartbeats 4000000
namespace SC
open PySem L2 L3 Mo KL
theorem lex_below : ∀ a b : Bytes,PyProof.Rows.lexLt PyProof.Rows.itemOrd (KS.inls (nI a)) (KS.inls (nI b)) = below a b
 | [],[]=>rfl
 | [],_ :: _=>rfl
 | _ :: _,[]=>rfl
 | x :: a,y :: b=>by
  have ih:=lex_below a b
  rw [Bool.eq_iff_iff]
  show PyProof.Rows.lexLt PyProof.Rows.itemOrd (Sum.inl (x : Int) :: KS.inls (nI a)) (Sum.inl (y : Int) :: KS.inls (nI b)) = true↔(decide (x < y) || (x == y && below a b)) = true
  rw [PyProof.Rows.lex_true,ih]
  show (decide ((x : Int) < (y : Int)) = true∨decide ((y : Int) < (x : Int)) = false∧below a b = true)↔_
  simp only [Bool.or_eq_true,Bool.and_eq_true,decide_eq_true_eq,decide_eq_false_iff_not,beq_iff_eq]
  constructor
  ·rintro (h | ⟨h,k⟩)
   ·exact .inl (by omega)
   ·by_cases q : x < y
    ·exact .inl q
    ·exact .inr ⟨by omega,k⟩
  ·rintro (h | ⟨h,k⟩)
   ·exact .inl (by omega)
   ·exact .inr ⟨by omega,k⟩
theorem perm_map_inv {α β : Type} {f : α→β} : ∀ {l : List β} {m : List α},l.Perm (m.map f)→∃ l' : List α,l'.Perm m∧l = l'.map f
 | [],m,p=>by
  have:=List.nil_perm.mp p
  rw [List.map_eq_nil_iff] at this
  subst this
  exact ⟨[],.refl _,rfl⟩
 | b :: l,m,p=>by
  have hb : b∈m.map f:=p.mem_iff.mp List.mem_cons_self
  obtain ⟨a,ha,rfl⟩:=List.mem_map.mp hb
  obtain ⟨s,t,rfl⟩:=List.append_of_mem ha
  have p2 : l.Perm ((s ++ t).map f):=by
   rw [List.map_append,List.map_cons] at p
   have:=p.trans (List.perm_middle)
   have:=(List.perm_cons _).mp this
   rw [List.map_append]; exact this
  obtain ⟨l',q1,q2⟩:=perm_map_inv p2
  exact ⟨a :: l',(q1.cons a).trans List.perm_middle.symm,by rw [q2]; rfl⟩
theorem zip_all2 {α : Type} {R : α→Addr→Prop} : ∀ {xs : List α} {ps : List Addr},All2 R xs ps→∀ y∈xs.zip ps,R y.1 y.2
 | _,_,.nil,y,hy=>by cases hy
 | _,_,.cons r t,y,hy=>by
  rcases List.mem_cons.mp hy with e | hy
  ·rw [e]; exact r
  ·exact zip_all2 t y hy
theorem all2_of {α : Type} {R : α→Addr→Prop} : ∀ {ys : List (α × Addr)},(∀ y∈ys,R y.1 y.2)→All2 R (ys.map (·.1)) (ys.map (·.2))
 | [],_=>.nil
 | y :: ys,h=>.cons (h y List.mem_cons_self) (all2_of fun z hz=>h z (List.mem_cons_of_mem _ hz))
theorem zip_fst {α : Type} {R : α→Addr→Prop} : ∀ {xs : List α} {ps : List Addr},All2 R xs ps→(xs.zip ps).map (·.1) = xs
 | _,_,.nil=>rfl
 | x :: _,_,.cons _ t=>by rw [List.zip_cons_cons,List.map_cons,zip_fst t]
theorem sorted_rows {C : Addr} {H : Hp} {rows : List Row} {ps : List Addr} {zs : List (List Int × Addr)} (al : All2 (ClauseAt C H) rows ps) (nd : (rows.map Row.name).Nodup) (p : zs.Perm ((rows.map fun r=>nI r.name).zip ps)) (so : SortedBy zs) :
 ∃ qs,(zs.map fun z=>V.ref z.2) = qs.map V.ref∧All2 (ClauseAt C H) (rows.foldl (fun (l : List Row) (r : Row)=>insertRow r l) []) qs:=by
 have e : (rows.map fun r=>nI r.name).zip ps = (rows.zip ps).map fun y=>(nI y.1.name,y.2):=by rw [List.zip_map_left]; rfl
 rw [e] at p
 obtain ⟨ys,p1,rfl⟩:=perm_map_inv p
 have hm : ∀ y∈ys,ClauseAt C H y.1 y.2:=fun y hy=>zip_all2 al y (p1.mem_iff.mp hy)
 have pf : (ys.map (·.1)).Perm rows:=by have:=p1.map (·.1); rw [zip_fst al] at this; exact this
 have nd2 : ((ys.map (·.1)).map Row.name).Nodup:=(pf.map Row.name).nodup_iff.mpr nd
 have rise : ML.RowsRise (ys.map (·.1)):=by
  have h1 : ys.Pairwise fun p q=>below q.1.name p.1.name = false:=by
   have:=List.pairwise_map.mp so
   exact this.imp fun {a b} z=>by rw [← lex_below]; exact z
  have h2 : ys.Pairwise fun p q=>p.1.name≠q.1.name:=by
   have:=nd2
   rw [List.map_map] at this
   exact List.pairwise_map.mp this
  rw [ML.RowsRise,List.pairwise_map]
  exact (h1.and h2).imp fun {a b} z=>by
   rcases ML.below_total z.2 with q | q
   ·exact q
   ·rw [z.1] at q; cases q
 refine ⟨ys.map (·.2),by rw [List.map_map,List.map_map]; rfl,?_⟩
 rw [← ML.ord_of_sorted nd rise pf]
 exact all2_of hm
def FunC (K : PySem.W.Frag) (x qual : Str) (st : Stmt) (f : Addr) (fd : FuncData) (c : Addr) : Prop:=∃ (oc : Value) (od : Option Addr) (kV doc pm : Value) (an : Option Addr) (ct : Value) (osl : Array (Option Value)),
 fd = PySem.W.fnOf x qual (defArgs st) (defBody st) (defScope st) .none kV doc pm an (.ref c) ct∧K.lookup f = some ⟨oc,od,.func fd,osl⟩∧PySem.W.codeIn K (.ref c) qual = true∧PySem.W.keepIn K (.ref f) = true
def DefC (K : PySem.W.Frag) (mg : Str→Option Value) (x : Str) (st : Stmt) (ps : List Str) (c : Addr) : Prop:=∃ f fd,FunC K x x st f fd c∧Binds K fd ps []∧mg x = some (.ref f)
structure TabOk (mg : Str→Option Value) (base : Heap) (c Pt : Addr) : Prop where
 hd : PySem.W.CodeHd base c Pt
 blt : base.BuiltinsAt mg Pt
 ne : mainGlobals≠Pt
section
variable {P : Program} {w : World} {K : PySem.W.Frag} {mg : Str→Option Value} {base : Heap}
theorem FunC.ok {x qual : Str} {st : Stmt} {f c : Addr} {fd : FuncData} {N ps : List Str} {k : Nat} {sp : Sp} (F : FunC K x qual st f fd c) (S : FnScope N ps (defScope st)) (len : ∀ vs H Q E,sp vs H Q E→vs.length = ps.length)
 (hbody : ∀ (A : Around) (outer : List Env) (s : Shared) (H : Hp) (vs : List V) (Q : VK) (E : XK),Room k (A.deeper (PyProof.Rows.envOfC qual (defScope st) s.heap.objs.size f (.ref c)))→sp vs H Q E →
  ∃ t,PSs (cxOf CX0 P w K mg base N qual (defScope st) f (.ref c) A outer s H E).nox (defBody st) t∧t { nx:=fun _ H'=>Q .non H',rt:=Q } (start N vs) H) : FnOk P w K mg base CX0 (k + 1) f fd ps sp:=by
 obtain ⟨oc,od,kV,doc,pm,an,ct,osl,rfl,lk,hcd,_⟩:=F
 refine fn_of lk hcd S len fun A outer s H vs Q E hr hsp=>?_
 obtain ⟨t,h,q⟩:=hbody A outer s H vs Q E hr hsp
 exact ⟨t,h.nox,q⟩
theorem DefC.has {x : Str} {st : Stmt} {ps : List Str} {sp : Sp} {k : Nat} {c : Addr} (D : DefC K mg x st ps c) (h : ∀ f fd,FunC K x x st f fd c→FnOk P w K mg base CX0 k f fd ps sp) : Has P w K mg base k x ps sp:=by
 obtain ⟨f,fd,F,b,m⟩:=D
 obtain ⟨_,_,_,_,_,_,_,_,_,_,_,kp⟩:=id F
 exact ⟨f,fd,h f fd F,b,m,kp⟩
abbrev sPutOrder : Stmt:=top 18
theorem sc_putOrder : FnScope ["case"] ["case"] (defScope sPutOrder):=⟨rfl,rfl,rfl,by decide +kernel,rfl,by decide +kernel,by decide +kernel⟩
def spPutOrder (P : Program) (w : World) (Cc C Pt : Addr) : Sp:=fun vs H Q _=>∃ (A : CA) (c : Case),vs = [.ref A.a]∧CaseAt P w Cc C H c A∧ML.Good c∧(∀ r∈c.laws ++ c.rules,r.name≠[])∧H Pt = some (.tbl #[]) ∧
 ∀ (H' : Hp) (la lr : Addr),(∀ b o,b≠A.a→b≠Pt→H b = some o→H' b = some o)→CaseAt P w Cc C H' (ML.ordC c) { A with la:=la,lr:=lr }→Q .non H'
theorem csF_set_laws (l l' r a w : V) : putF "laws" l' (csF l r a w) = csF l' r a w:=by
 rw [csF_eq,csF_eq]
 show (if ("laws" : Str) = "laws" then _ else _) = _
 rw [if_pos rfl]
theorem csF_set_rules (l r r' a w : V) : putF "rules" r' (csF l r a w) = csF l r' a w:=by
 rw [csF_eq,csF_eq]
 show (if ("laws" : Str) = "rules" then _ else (("laws" : Str),l) :: (if ("rules" : Str) = "rules" then _ else _)) = _
 rw [if_neg n_lr,if_pos rfl]
theorem attrs_of {C : Addr} {H : Hp} : ∀ {rows : List Row} {ps : List Addr},All2 (ClauseAt C H) rows ps→Paired (AttrAt C "name" H) (rows.map fun r=>nI r.name) ps
 | _,_,.nil=>.nil
 | _,_,.cons r t=>.cons (let ⟨dx,n,b,h,h1,h2,_⟩:=r; ⟨dx,_,n,h1,clF_name _ _ _,h2⟩) (attrs_of t)
theorem clause_ne_case {C Cc : Addr} {H : Hp} {r : Row} {p : Addr} {A : CA} (h : ClauseAt C H r p) (ho : CObj Cc H A) : p≠A.a:=fun z=>by
 obtain ⟨dx,n,b,hd,h1,_⟩:=h
 have ho : H A.a = some (.ins Cc A.dx (csF (.ref A.la) (.ref A.lr) (.ref A.da) (.ref A.dw))):=ho
 rw [z,ho] at h1
 injection h1 with h1
 injection h1 with _ _ e
 have e2:=congrArg List.length e
 rw [csF_eq] at e2
 have l1:=length_putF "head" (V.ref hd) (putF "body" (V.ref b) (putF "name" (V.ref n) []))
 have l2:=length_putF "body" (V.ref b) (putF "name" (V.ref n) [])
 have l3:=length_putF "name" (V.ref n) []
 have e3 : 4 = (putF "head" (V.ref hd) (putF "body" (V.ref b) (putF "name" (V.ref n) []))).length:=e2
 have e4 : ([] : List (Str × V)).length = 0:=rfl
 omega
theorem ok_putOrder {Cc C c Pt : Addr} (Bs : mg "sorted" = none) (T : CsT K Cc) (TC : ClT K C) (TB : TabOk mg base c Pt) (D : DefC K mg "put_in_order" sPutOrder ["case"] c) : Has P w K mg base 1 "put_in_order" ["case"] (spPutOrder P w Cc C Pt):=D.has fun f fd F=>by
 refine F.ok sc_putOrder (fun vs H Q E h=>?_) (fun A_ outer s H vs Q E hr h=>?_)
 ·obtain ⟨A,c,rfl,_⟩:=h
  rfl
 ·obtain ⟨A,cs,rfl,hc,gd,hnm,hP,k⟩:=h
  have L : LamAt (cxOf CX0 P w K mg base ["case"] "put_in_order" (defScope sPutOrder) f (.ref c) A_ outer s H E).nox c Pt:=⟨rfl,TB.hd,TB.blt,TB.ne⟩
  have hu : (cxOf CX0 P w K mg base ["case"] "put_in_order" (defScope sPutOrder) f (.ref c) A_ outer s H E).nox.A.depth + 1 < recursionLimit:=by
   have:=hr.dp
   show (A_.deeper (PyProof.Rows.envOfC "put_in_order" (defScope sPutOrder) s.heap.objs.size f (.ref c))).depth + 1 < recursionLimit
   omega
  refine ⟨_,pss_cons (ps_fld (pv 0) (pe_sortedK (x:="law") (f:="name") L hu rfl Bs (pe_fld (pv 0) rfl) rfl rfl rfl rfl rfl rfl (by decide) (fun _ _ _ _ _=>rfl) (fun _=>rfl) rfl) rfl)
   (pss_one (ps_fld (pv 0) (pe_sortedK (x:="rule") (f:="name") L hu rfl Bs (pe_fld (pv 0) rfl) rfl rfl rfl rfl rfl rfl (by decide) (fun _ _ _ _ _=>rfl) (fun _=>rfl) rfl) rfl)),?_⟩
  obtain ⟨ob,⟨ls,l1,l2⟩,⟨rs,r1,r2⟩,⟨ka,a1,a2,a3⟩,⟨kw,w1,w2,w3⟩,n1,n2⟩:=id hc
  refine ⟨_,rfl,A.a,Cc,A.dx,_,_,rfl,ob,T.cl,T.laws,csF_laws _ _ _ _,A.la,C,_,ls,#[],rfl,l1,TC.cl,TC.name,attrs_of l2,?_,hP,trivial,rfl,fun H1 D1 zs v1 hD1 e1 kp1 hP1 pm1 so1=>?_⟩
  ·intro q hq
   obtain ⟨r,hr',rfl⟩:=List.mem_map.mp hq
   intro z
   have:=hnm r (List.mem_append_left _ hr')
   exact this (by unfold nI at z; exact List.map_eq_nil_iff.mp z)
  have nP : ∀ b o,H b = some o→(∀ q,o≠.tbl q)→b≠Pt:=fun b o e nt z=>by rw [z,hP] at e; cases e; exact nt _ rfl
  have kp1' : ∀ b o,b≠Pt→H b = some o→H1 b = some o:=fun b o hb e=>by rw [kp1 b (ne_of_none e hD1) hb]; exact e
  have aP : A.a≠Pt:=nP _ _ ob fun _ z=>by cases z
  refine ⟨_,rfl,A.a,Cc,A.dx,_,rfl,kp1' _ _ aP ob,T.cl,T.laws,(by rw [csF_eq]; show 4 < 1000; decide),?_⟩
  rw [csF_set_laws]
  have aD1 : A.a≠D1:=ne_of_none ob hD1
  have t1 : Tups H H1:=fun b xs e=>kp1' b _ (nP _ _ e fun _ z=>by cases z) e
  have kp2 : ∀ b o,b≠A.a→b≠Pt→H b = some o→(upd H1 A.a (.ins Cc A.dx (csF (.ref D1) (.ref A.lr) (.ref A.da) (.ref A.dw)))) b = some o:=fun b o ha hb e=>by rw [upd_ne ha]; exact kp1' b o hb e
  have ob2 : (upd H1 A.a (.ins Cc A.dx (csF (.ref D1) (.ref A.lr) (.ref A.da) (.ref A.dw)))) A.a = some (.ins Cc A.dx (csF (.ref D1) (.ref A.lr) (.ref A.da) (.ref A.dw))):=upd_same
  have hP2 : (upd H1 A.a (.ins Cc A.dx (csF (.ref D1) (.ref A.lr) (.ref A.da) (.ref A.dw)))) Pt = _:=(upd_ne (Ne.symm aP)).trans hP1
  have hD2 : (upd H1 A.a (.ins Cc A.dx (csF (.ref D1) (.ref A.lr) (.ref A.da) (.ref A.dw)))) D1 = _:=(upd_ne (Ne.symm aD1)).trans e1
  generalize upd H1 A.a (.ins Cc A.dx (csF (.ref D1) (.ref A.lr) (.ref A.da) (.ref A.dw))) = H2 at kp2 ob2 hP2 hD2
  have t2 : Tups H H2:=fun b xs e=>kp2 b _ (ne_of e ob fun z=>by cases z) (nP _ _ e fun _ z=>by cases z) e
  have cl2 : ∀ r p,ClauseAt C H r p→ClauseAt C H2 r p:=fun r p h=>by
   have hne:=clause_ne_case h ob
   obtain ⟨dx,n,b,hd,h1,h2,h3,h4⟩:=h
   exact ⟨dx,n,b,hd,kp2 _ _ hne (nP _ _ h1 fun _ z=>by cases z) h1,h2.mono t2,h3.mono t2,h4.mono t2⟩
  have lra : A.lr≠A.a:=ne_of r1 ob fun z=>by cases z
  have lrP : A.lr≠Pt:=nP _ _ r1 fun _ z=>by cases z
  refine ⟨_,rfl,A.a,Cc,A.dx,_,_,rfl,ob2,T.cl,T.rules,csF_rules _ _ _ _,A.lr,C,_,rs,_,rfl,kp2 _ _ lra lrP r1,TC.cl,TC.name,attrs_of (r2.mono cl2),?_,hP2,trivial,rfl,fun H3 D3 ys v3 hD3 e3 kp3 hP3 pm3 so3=>?_⟩
  ·intro q hq
   obtain ⟨r,hr',rfl⟩:=List.mem_map.mp hq
   intro z
   have:=hnm r (List.mem_append_right _ hr')
   exact this (by unfold nI at z; exact List.map_eq_nil_iff.mp z)
  have aD3 : A.a≠D3:=ne_of_none ob2 hD3
  refine ⟨_,rfl,A.a,Cc,A.dx,_,rfl,(kp3 _ aD3 aP).trans ob2,T.cl,T.rules,(by rw [csF_eq]; show 4 < 1000; decide),?_⟩
  rw [csF_set_rules]
  have kp4 : ∀ b o,b≠A.a→b≠Pt→H b = some o→(upd H3 A.a (.ins Cc A.dx (csF (.ref D1) (.ref D3) (.ref A.da) (.ref A.dw)))) b = some o:=fun b o ha hb e=>by
   have e2:=kp2 b o ha hb e
   rw [upd_ne ha,kp3 b (ne_of_none e2 hD3) hb]; exact e2
  have t4 : Tups H (upd H3 A.a (.ins Cc A.dx (csF (.ref D1) (.ref D3) (.ref A.da) (.ref A.dw)))):=fun b xs e=>kp4 b _ (ne_of e ob fun z=>by cases z) (nP _ _ e fun _ z=>by cases z) e
  have cl4 : ∀ r p,ClauseAt C H r p→ClauseAt C (upd H3 A.a (.ins Cc A.dx (csF (.ref D1) (.ref D3) (.ref A.da) (.ref A.dw)))) r p:=fun r p h=>by
   have hne:=clause_ne_case h ob
   obtain ⟨dx,n,b,hd,h1,h2,h3,h4⟩:=h
   exact ⟨dx,n,b,hd,kp4 _ _ hne (nP _ _ h1 fun _ z=>by cases z) h1,h2.mono t4,h3.mono t4,h4.mono t4⟩
  have d13 : D1≠D3:=ne_of_none hD2 hD3
  have d1P : D1≠Pt:=fun z=>by rw [z,hP] at hD1; cases hD1
  obtain ⟨qs1,eq1,aq1⟩:=sorted_rows l2 (ML.good_law_names gd) pm1 so1
  obtain ⟨qs3,eq3,aq3⟩:=sorted_rows r2 (ML.good_rule_names gd) pm3 so3
  obtain ⟨xa,hxa⟩:=a1.some_
  obtain ⟨xw,hxw⟩:=w1.some_
  refine k _ D1 D3 kp4 ⟨upd_same,⟨qs1,?_,aq1.mono cl4⟩,⟨qs3,?_,aq3.mono cl4⟩,⟨ka,a1.keep (fun o e=>kp4 _ _ (ne_of hxa ob fun z=>by cases z) (nP _ _ hxa fun _ z=>by cases z) e) t4,a2,fun n=>by rw [ML.atoms_ord]; exact a3 n⟩,⟨kw,w1.keep (fun o e=>kp4 _ _ (ne_of hxw ob fun z=>by cases z) (nP _ _ hxw fun _ z=>by cases z) e) t4,w2,w3⟩,d13,n2⟩
  ·show (upd H3 A.a _) D1 = _
   rw [upd_ne (Ne.symm aD1),kp3 D1 d13 d1P,hD2,eq1]
  ·show (upd H3 A.a _) D3 = _
   rw [upd_ne (Ne.symm aD3),e3,eq3]
end
end SC
end
section
set_option maxRecDepth 100000
set_option maxHeartbeats 4000000
namespace SC
open PySem L2 L3 Mo
abbrev sNameTaken : Stmt:=top 65
abbrev sSameClause : Stmt:=top 66
abbrev sTooMany : Stmt:=top 67
abbrev sClauseFault : Stmt:=top 68
abbrev sLawFault : Stmt:=top 69
abbrev sRuleFault : Stmt:=top 70
abbrev sWeightFault : Stmt:=top 71
theorem room8 {k : Nat} {A : Around} (hr : Room k A) : A.units + 8 < cLine:=by have:=hr.un; omega
theorem all2_zs {H : Hp} : ∀ {ns : List Bytes} {ps : List Addr},All2 (Wd H) ns ps→∃ zs : List (List Int × Addr),zs.map (·.1) = ns.map nI∧zs.map (·.2) = ps∧∀ y∈zs,NmAt H y.1 y.2
 | _,_,.nil=>⟨[],rfl,rfl,fun y hy=>by cases hy⟩
 | n :: ns,p :: ps,.cons r t=>by
  obtain ⟨zs,h1,h2,h3⟩:=all2_zs t
  refine ⟨(nI n,p) :: zs,by rw [List.map_cons,h1]; rfl,by rw [List.map_cons,h2],fun y hy=>?_⟩
  rcases List.mem_cons.mp hy with rfl | hy
  ·exact r
  ·exact h3 y hy
theorem all2_ls {H : Hp} : ∀ {b : List Lit} {ps : List Addr},All2 (Lt H) b ps→∃ zs : List ((List Int × Int) × Addr),zs.map (·.1) = b.map lI∧zs.map (·.2) = ps∧∀ y∈zs,LtAt H y.1 y.2
 | _,_,.nil=>⟨[],rfl,rfl,fun y hy=>by cases hy⟩
 | n :: ns,p :: ps,.cons r t=>by
  obtain ⟨zs,h1,h2,h3⟩:=all2_ls t
  refine ⟨(lI n,p) :: zs,by rw [List.map_cons,h1]; rfl,by rw [List.map_cons,h2],fun y hy=>?_⟩
  rcases List.mem_cons.mp hy with rfl | hy
  ·exact r
  ·exact h3 y hy
theorem nodup_map {α β : Type} {f : α→β} (hf : ∀ x y,f x = f y→x = y) {l : List α} (h : l.Nodup) : (l.map f).Nodup:=List.Pairwise.map f (fun a b (n : a≠b)=>(fun z=>n (hf a b z) : f a≠f b)) h
theorem shorter {α : Type} [DecidableEq α] : ∀ {l : List α},¬ l.Nodup→∃ m : List α,m.length < l.length∧∀ x∈l,x∈m
 | [],h=>absurd List.nodup_nil h
 | x :: l,h=>by
  by_cases e : x∈l
  ·exact ⟨l,Nat.lt_succ_self _,fun y hy=>(List.mem_cons.mp hy).elim (fun z=>by rw [z]; exact e) id⟩
  ·have : ¬ l.Nodup:=fun z=>h (List.nodup_cons.mpr ⟨e,z⟩)
   obtain ⟨m,h1,h2⟩:=shorter this
   exact ⟨x :: m,Nat.succ_lt_succ h1,fun y hy=>(List.mem_cons.mp hy).elim (fun z=>List.mem_cons.mpr (.inl z)) fun z=>List.mem_cons.mpr (.inr (h2 y z))⟩
theorem size_less {α β : Type} [DecidableEq α] [DecidableEq β] {f : α→β} (hf : ∀ x y,f x = f y→x = y) {ks : List β} {l : List α} (nd : ks.Nodup) (h : ∀ k,k∈ks↔k∈l.map f) : ks.length < l.length↔¬ l.Nodup:=by
 constructor
 ·intro z nl
  have e:=ML.length_same nd (nodup_map hf nl) h
  rw [List.length_map] at e
  omega
 ·intro z
  obtain ⟨m,h1,h2⟩:=shorter z
  have:=nd.length_le_of_subset (l₂:=m.map f) fun x hx=>by
   obtain ⟨y,hy,e⟩:=List.mem_map.mp ((h x).mp hx)
   exact List.mem_map.mpr ⟨y,h2 y hy,e⟩
  rw [List.length_map] at this
  omega
section
variable {P : Program} {w : World} {K : PySem.W.Frag} {mg : Str→Option Value} {base : Heap}
theorem sc_nameTaken : FnScope ["case","name","clause"] ["case","name"] (defScope sNameTaken):=⟨rfl,rfl,rfl,by decide +kernel,rfl,by decide +kernel,by decide +kernel⟩
def spNameTaken (P : Program) (w : World) (Cc C : Addr) : Sp:=fun vs H Q _=>∃ (A : CA) (c : Case) (x : Bytes) (a : Addr),vs = [.ref A.a,.ref a]∧CaseAt P w Cc C H c A∧Wd H x a∧c.laws.length≤100∧c.rules.length≤100 ∧
 ∀ H' g,Same H H'→(g = true↔x∈c.names)→Q (.bl g) H'
theorem ok_nameTaken {Cc C : Addr} (B : Bs mg) (T : CsT K Cc) (TC : ClT K C) (D : DefAt K mg "name_is_taken" sNameTaken ["case","name"]) : Has P w K mg base 1 "name_is_taken" ["case","name"] (spNameTaken P w Cc C):=D.has fun f fd F=>by
 refine F.ok sc_nameTaken (fun vs H Q E h=>?_) (fun cdv A outer s H vs Q E hr h=>?_)
 ·obtain ⟨A,c,x,a,rfl,_⟩:=h
  rfl
 ·obtain ⟨A,c,x,a,rfl,⟨ob,⟨ls,l1,l2⟩,⟨rs,r1,r2⟩,_,_,_,_⟩,hx,n1,n2,k⟩:=h
  refine ⟨_,pss_one (ps_ret (pe_callB (cr_any rfl) rfl B.any boot_any' (pa_cons (pe_lc rfl sc_nameTaken.nd (pi_seq (pe_op op_cat (pe_fld (pv 0) rfl) (pe_fld (pv 0) rfl))) (blkOk_by (own:=[("clause",2)]) (by show blkC ["case","name","clause"] (defScope sNameTaken) _ _ = true; decide +kernel))
   (fun _ _ _ _ _=>pg_name (i:=2) sc_nameTaken.nd rfl (Or.inl rfl)) (fun _ _ _ _ _=>pts_nil) (fun _ _ _ _ _=>show PE _ _ (tOp (rEqD K) (tFld K (tVar 2) "name") (tVar 1)) from pe_cmpR (op_eqD hr.units) (pe_fld (pv 2) rfl) (pv 1) (nomark _))) pa_nil))),?_⟩
  have e1:=l2.len
  have e2:=r2.len
  refine ⟨_,rfl,A.a,Cc,A.dx,_,_,rfl,ob,T.cl,T.laws,csF_laws _ _ _ _,_,rfl,A.a,Cc,A.dx,_,_,rfl,ob,T.cl,T.rules,csF_rules _ _ _ _,A.la,A.lr,_,_,rfl,rfl,l1,r1,Nat.le_of_lt (lt_size (by rw [List.length_map,List.length_map]; omega)),fun p hp=>?_⟩
  rw [← List.map_append]
  have s1 : Same H (upd H p (.lst ((ls ++ rs).map V.ref))):=Same.new hp
  have al:=All2.app l2 r2
  refine ⟨p,_,true,rfl,SqL.of upd_same,fun J S d hd=>?_⟩
  have hlen : ((ls ++ rs).map V.ref).length = (c.laws ++ c.rules).length:=by rw [List.length_map]; exact al.len.symm
  refine lc_map (S _ (SqL.of upd_same)) (fun i acc _=>acc = ((c.laws ++ c.rules).take i).map fun r=>V.bl (decide (r.name = x))) (fun _ _ _ _ _ z=>z) hd (lt_size (by rw [hlen,List.length_append]; omega)) (fun _=>rfl) rfl ?_ ?_
  ·rintro i y acc H2 QA QB hi hy sm rfl ka kb
   obtain ⟨q,hq,rfl⟩:=map_ref_get hy
   obtain ⟨r,hr2,hrq⟩:=al.get hq
   obtain ⟨dx,n,b,h,h1,h2,h3,h4⟩:=hrq.same (s1.trans sm)
   refine ⟨_,rfl,q,C,dx,_,_,rfl,h1,TC.cl,TC.name,clF_name _ _ _,_,rfl,_,_,h2.dp,(hx.mono (s1.trans sm).tups).dp,sh_dN _,sh_dN _,ka _ _ (Same.refl _) ?_⟩
   rw [eqv_dN,← take_snoc hr2,List.map_append]
   rfl
  ·rintro ys H2 rfl hy sm
   rw [hlen,List.take_length] at hy
   refine ⟨d,(c.laws ++ c.rules).map fun r=>decide (r.name = x),rfl,SqL.of (by rw [hy,List.map_map]; rfl),k _ _ (s1.trans sm) ?_⟩
   rw [List.any_map,List.any_eq_true]
   unfold Case.names
   rw [List.mem_map]
   exact ⟨fun ⟨r,h1,h2⟩=>⟨r,h1,of_decide_eq_true h2⟩,fun ⟨r,h1,h2⟩=>⟨r,h1,decide_eq_true h2⟩⟩
theorem sc_sameClause : FnScope ["peers","clause","peer"] ["peers","clause"] (defScope sSameClause):=⟨rfl,rfl,rfl,by decide +kernel,rfl,by decide +kernel,by decide +kernel⟩
def spSameClause (C : Addr) : Sp:=fun vs H Q _=>∃ (l : Addr) (ps : List Addr) (rows : List Row) (a : Addr) (r : Row),vs = [.ref l,.ref a]∧H l = some (.lst (ps.map V.ref))∧All2 (ClauseAt C H) rows ps∧ClauseAt C H r a∧rows.length≤100 ∧
 ∀ H' g,Same H H'→(g = true↔∃ s∈rows,s.body = r.body∧s.head = r.head)→Q (.bl g) H'
theorem ok_sameClause {C : Addr} (B : Bs mg) (TC : ClT K C) (D : DefAt K mg "same_clause_among" sSameClause ["peers","clause"]) : Has P w K mg base 1 "same_clause_among" ["peers","clause"] (spSameClause C):=D.has fun f fd F=>by
 refine F.ok sc_sameClause (fun vs H Q E h=>?_) (fun cdv A outer s H vs Q E hr h=>?_)
 ·obtain ⟨l,ps,rows,a,r,rfl,_⟩:=h
  rfl
 ·obtain ⟨l,ps,rows,a,r,rfl,hl,al,ha,hn,k⟩:=h
  refine ⟨_,pss_one (ps_ret (pe_callB (cr_any rfl) rfl B.any boot_any' (pa_cons (pe_lc rfl sc_sameClause.nd (pi_seq (pv 0)) (blkOk_by (own:=[("peer",2)]) (by show blkC ["peers","clause","peer"] (defScope sSameClause) _ _ = true; decide +kernel))
   (fun _ _ _ _ _=>pg_name (i:=2) sc_sameClause.nd rfl (Or.inl rfl)) (fun _ _ _ _ _=>pts_nil) (fun _ _ _ _ _=>show PE _ _ (tAndV (tOp (rEqD K) (tFld K (tVar 2) "body") (tFld K (tVar 1) "body")) (tOp (rEqD K) (tFld K (tVar 2) "head") (tFld K (tVar 1) "head"))) from
    pe_and (pe_cmpR (op_eqD hr.units) (pe_fld (pv 2) rfl) (pe_fld (pv 1) rfl) (nomark _)) (pe_one (pe_cmpR (op_eqD hr.units) (pe_fld (pv 2) rfl) (pe_fld (pv 1) rfl) (nomark _))))) pa_nil))),?_⟩
  refine ⟨_,rfl,l,_,true,rfl,SqL.of hl,fun J S d hd=>?_⟩
  have hlen : (ps.map V.ref).length = rows.length:=by rw [List.length_map]; exact al.len.symm
  refine lc_map (S _ (SqL.of hl)) (fun i acc _=>acc = (rows.take i).map fun q=>V.bl (decide (q.body = r.body) && decide (q.head = r.head))) (fun _ _ _ _ _ z=>z) hd (lt_size (by rw [hlen]; omega)) (fun _=>rfl) rfl ?_ ?_
  ·rintro i y acc H2 QA QB hi hy sm rfl ka kb
   obtain ⟨q,hq,rfl⟩:=map_ref_get hy
   obtain ⟨r2,hr2,hrq⟩:=al.get hq
   obtain ⟨dx,n,b,h,h1,h2,h3,h4⟩:=hrq.same sm
   obtain ⟨dx',n',b',h',g1,g2,g3,g4⟩:=ha.same sm
   have fin : ∀ z,z = (decide (r2.body = r.body) && decide (r2.head = r.head))→((rows.take i).map fun q=>V.bl (decide (q.body = r.body) && decide (q.head = r.head))) ++ [V.bl z] = (rows.take (i + 1)).map fun q=>V.bl (decide (q.body = r.body) && decide (q.head = r.head)):=fun z e=>by
    rw [e,← take_snoc hr2,List.map_append]; rfl
   refine ⟨_,rfl,q,C,dx,_,_,rfl,h1,TC.cl,TC.body,clF_body _ _ _,_,rfl,a,C,dx',_,_,rfl,g1,TC.cl,TC.body,clF_body _ _ _,_,_,h3.dp,g3.dp,sh_dB _,sh_dB _,_,rfl,?_⟩
   rw [eqv_dB]
   refine ite2 (fun z=>?_) (fun z=>?_)
   ·refine ⟨_,rfl,q,C,dx,_,_,rfl,h1,TC.cl,TC.head,clF_head _ _ _,_,rfl,a,C,dx',_,_,rfl,g1,TC.cl,TC.head,clF_head _ _ _,_,_,h4.dp,g4.dp,sh_dL _,sh_dL _,ka _ _ (Same.refl _) (fin _ ?_)⟩
    rw [eqv_dL,z,Bool.true_and]
   ·exact ka _ _ (Same.refl _) (fin _ (by rw [show decide (r2.body = r.body) = false by simpa using z,Bool.false_and]))
  ·rintro ys H2 rfl hy sm
   rw [hlen,List.take_length] at hy
   refine ⟨d,rows.map fun q=>decide (q.body = r.body) && decide (q.head = r.head),rfl,SqL.of (by rw [hy,List.map_map]; rfl),k _ _ sm ?_⟩
   rw [List.any_map,List.any_eq_true]
   constructor
   ·rintro ⟨q,h1,h2⟩
    have h2 : (decide (q.body = r.body) && decide (q.head = r.head)) = true:=h2
    rw [Bool.and_eq_true] at h2
    exact ⟨q,h1,of_decide_eq_true h2.1,of_decide_eq_true h2.2⟩
   ·rintro ⟨q,h1,h2,h3⟩
    exact ⟨q,h1,by show (decide (q.body = r.body) && decide (q.head = r.head)) = true; rw [decide_eq_true h2,decide_eq_true h3]; rfl⟩
theorem sc_tooMany : FnScope ["case","names"] ["case","names"] (defScope sTooMany):=⟨rfl,rfl,rfl,by decide +kernel,rfl,by decide +kernel,by decide +kernel⟩
def spTooMany (P : Program) (w : World) (Cc C : Addr) : Sp:=fun vs H Q _=>∃ (A : CA) (c : Case) (l : Addr) (ps : List Addr) (ns : List Bytes),vs = [.ref A.a,.ref l]∧CaseAt P w Cc C H c A∧H l = some (.lst (ps.map V.ref))∧All2 (Wd H) ns ps∧ns.length≤8∧c.atoms.length≤64 ∧
 ∀ H' g,Same H H'→(∀ M : List Bytes,M.Nodup→(∀ n,n∈M↔n∈c.atoms∨n∈ns)→(g = true↔64 < M.length))→Q (.bl g) H'
theorem ok_tooMany {Cc C : Addr} (B : Bs mg) (T : CsT K Cc) (G : ∃ t,mg "MOST_ATOMS" = some (.int 64 t)) (D : DefAt K mg "too_many_atoms" sTooMany ["case","names"]) : Has P w K mg base 1 "too_many_atoms" ["case","names"] (spTooMany P w Cc C):=D.has fun f fd F=>by
 refine F.ok sc_tooMany (fun vs H Q E h=>?_) (fun cdv A outer s H vs Q E hr h=>?_)
 ·obtain ⟨A,c,l,ps,ns,rfl,_⟩:=h
  rfl
 ·obtain ⟨A,c,l,ps,ns,rfl,⟨ob,_,_,⟨ks,a1,a2,a3⟩,_,_,_⟩,hl,al,hn,hat,k⟩:=h
  obtain ⟨tg,htg⟩:=G
  refine ⟨_,pss_one (ps_ret (pe_cmpR op_gt (pe_callB cr_len_sz rfl B.len boot_len' (pa_cons (pe_callTy (cr_set nameD rfl (room8 hr)) rfl B.set boot_set' (pa_cons (pe_op op_cat (pe_callTy (cr_list_dn nameD rfl) rfl B.list boot_list' (pa_cons (pe_fld (pv 0) rfl) pa_nil)) (pv 1)) pa_nil)) pa_nil))
   (pe_glob (v:=.int 64) rfl htg ⟨tg,rfl⟩) (nomark _))),?_⟩
  have hkl:=ks_len a2 a3
  obtain ⟨xs,x1,x2,x3,x4,x5⟩:=a1
  have hxl : xs.length = ks.length:=by have:=congrArg List.length x1; rw [List.length_map,List.length_map] at this; exact this
  obtain ⟨zs,z1,z2,z3⟩:=all2_zs al
  have hzl : zs.length = ns.length:=by have:=congrArg List.length z1; rw [List.length_map,List.length_map] at this; exact this
  refine ⟨_,rfl,A.a,Cc,A.dx,_,_,rfl,ob,T.cl,T.atoms,csF_atoms _ _ _ _,A.da,xs,rfl,x2,x4,x5,fun d hd=>?_⟩
  have s1 : Same H (upd H d (.lst (xs.map fun x=>V.ref x.2))):=Same.new hd
  refine ⟨_,rfl,d,l,_,_,rfl,rfl,upd_same,s1 _ _ hl,Nat.le_of_lt (lt_size (by rw [List.length_map,List.length_map,← z2,List.length_map]; omega)),fun u hu=>?_⟩
  have s2 : Same H (upd (upd H d (.lst (xs.map fun x=>V.ref x.2))) u (.lst ((xs.map fun x=>V.ref x.2) ++ ps.map V.ref))):=s1.trans (Same.new hu)
  have eu : (upd (upd H d (.lst (xs.map fun x=>V.ref x.2))) u (.lst ((xs.map fun x=>V.ref x.2) ++ ps.map V.ref))) u = some (.lst ((xs ++ zs).map fun y=>V.ref y.2)):=by
   rw [upd_same,List.map_append,← z2,List.map_map]; rfl
  refine ⟨u,xs ++ zs,rfl,.inl (SqL.of eu),fun y hy=>?_,by rw [List.length_append]; omega,fun q n hq ⟨ms,nd,hm,en⟩=>?_⟩
  ·rcases List.mem_append.mp hy with hy | hy
   ·exact nameD.mono s2.tups (x3 y hy)
   ·exact NmAt.mono s2.tups (z3 y hy)
  have mem : ∀ k,k∈ms↔k∈(ks ++ ns).map nI:=fun k=>by rw [hm,List.map_append,x1,z1,List.map_append]
  have ml : ms.length≤72:=by
   have:=nd.length_le_of_subset (l₂:=(ks ++ ns).map nI) fun x hx=>(mem x).mp hx
   rw [List.length_map,List.length_append] at this
   omega
  refine ⟨q,n,rfl,upd_same,by omega,_,_,rfl,rfl,k _ _ (s2.trans (Same.new hq)) fun M nM hM=>?_⟩
  have e : n = M.length:=by
   have nM' : (M.map nI).Nodup:=nodup_map (fun x y z=>nI_inj z) nM
   have:=ML.length_same nd nM' fun k=>by
    rw [mem,List.mem_map,List.mem_map]
    constructor
    ·rintro ⟨m,h1,h2⟩
     refine ⟨m,(hM m).mpr ?_,h2⟩
     rcases List.mem_append.mp h1 with h1 | h1
     ·exact .inl ((a3 m).mp h1)
     ·exact .inr h1
    ·rintro ⟨m,h1,h2⟩
     refine ⟨m,List.mem_append.mpr ?_,h2⟩
     rcases (hM m).mp h1 with h1 | h1
     ·exact .inl ((a3 m).mpr h1)
     ·exact .inr h1
   rw [en,this,List.length_map]
  rw [e]
  constructor
  ·intro z
   have : (64 : Int) < (M.length : Int):=of_decide_eq_true z
   omega
  ·intro z
   exact decide_eq_true (by omega)
end
end SC
end
section
set_option maxRecDepth 100000
set_option maxHeartbeats 4000000
namespace SC
open PySem L2 L3 Mo
def gI (mg : Str→Option Value) (x : Str) (i : Int) : Prop:=∃ t,mg x = some (.int i t)
def gS (mg : Str→Option Value) (x y : Str) : Prop:=∃ t,mg x = some (.str y t)
theorem pe_gI {X : Cx} {x : Str} {i : Int} {pos : Pos} (h : gI X.mg x i) (hg : Gl X x) (hd : (x == ("__debug__" : Str)) = false:=by decide) : PE X (.Name x pos) (tC (.int i)):=by
 obtain ⟨t,ht⟩:=h
 exact pe_glob hg ht ⟨t,rfl⟩ hd
theorem pe_gS {X : Cx} {x y : Str} {pos : Pos} (h : gS X.mg x y) (hg : Gl X x) (hd : (x == ("__debug__" : Str)) = false:=by decide) : PE X (.Name x pos) (tC (.str y)):=by
 obtain ⟨t,ht⟩:=h
 exact pe_glob hg ht ⟨t,rfl⟩ hd
structure Gs (mg : Str→Option Value) : Prop where
 noFault : gI mg "NO_FAULT" 0
 notALine : gI mg "NOT_A_LINE" 1
 taken : gI mg "NAME_TAKEN" 2
 twice : gI mg "TOLD_TWICE" 3
 many : gI mg "TOO_MANY" 4
 noRule : gI mg "NO_RULE" 5
 itself : gI mg "OUTWEIGHS_ITSELF" 6
 clash : gI mg "LAWS_CLASH" 7
 mostLaws : gI mg "MOST_LAWS" 64
 mostRules : gI mg "MOST_RULES" 10
def CF (c : Case) (r : Row) (rows : List Row) (most : Nat) (M : List Bytes) (k : Nat) : Prop :=
 if r.name∈c.names then k = 2 else if ¬ r.body.Nodup∨(∃ s∈rows,s.body = r.body∧s.head = r.head) then k = 3 else if most≤rows.length∨64 < M.length then k = 4 else k = 0
section
variable {P : Program} {w : World} {K : PySem.W.Frag} {mg : Str→Option Value} {base : Heap}
theorem sc_clauseFault : FnScope ["case","clause","peers","most","names"] ["case","clause","peers","most","names"] (defScope sClauseFault):=⟨rfl,rfl,rfl,by decide +kernel,rfl,by decide +kernel,by decide +kernel⟩
def spClauseFault (P : Program) (w : World) (Cc C : Addr) : Sp:=fun vs H Q _=>∃ (A : CA) (c : Case) (a : Addr) (r : Row) (l : Addr) (ps : List Addr) (rows : List Row) (most : Nat) (ln : Addr) (pn : List Addr) (ns M : List Bytes),
 vs = [.ref A.a,.ref a,.ref l,vI most,.ref ln]∧CaseAt P w Cc C H c A∧ClauseAt C H r a∧H l = some (.lst (ps.map V.ref))∧All2 (ClauseAt C H) rows ps∧H ln = some (.lst (pn.map V.ref))∧All2 (Wd H) ns pn∧ns.length≤8∧ML.Good c∧rows.length≤100∧r.body.length≤6 ∧
 M.Nodup∧(∀ n,n∈M↔n∈c.atoms∨n∈ns)∧∀ H' k,Same H H'→CF c r rows most M k→Q (vI k) H'
theorem ok_clauseFault {Cc C : Addr} (B : Bs mg) (G : Gs mg) (TC : ClT K C) (D : DefAt K mg "clause_fault" sClauseFault ["case","clause","peers","most","names"]) (hT : Has P w K mg base 1 "name_is_taken" ["case","name"] (spNameTaken P w Cc C)) (hS : Has P w K mg base 1 "same_clause_among" ["peers","clause"] (spSameClause C))
 (hM : Has P w K mg base 1 "too_many_atoms" ["case","names"] (spTooMany P w Cc C)) : Has P w K mg base 2 "clause_fault" ["case","clause","peers","most","names"] (spClauseFault P w Cc C):=D.has fun f fd F=>by
 refine F.ok sc_clauseFault (fun vs H Q E h=>?_) (fun cdv A outer s H vs Q E hr h=>?_)
 ·obtain ⟨A,c,a,r,l,ps,rows,most,ln,pn,ns,M,rfl,_⟩:=h
  rfl
 ·obtain ⟨A,c,a,r,l,ps,rows,most,ln,pn,ns,M,rfl,hc,ha,hl,al,hln,aln,hns,gd,hrl,hbl,nM,mM,k⟩:=h
  refine ⟨_,pss_cons (ps_if (pt_val (pe_has hT hr rfl (pa_cons (pv 0) (pa_cons (pe_fld (pv 1) rfl) pa_nil)))) (pss_one (ps_ret (pe_gI G.taken rfl))) pss_nil)
   (pss_cons (ps_if (PW.pt (pw_or (pt_cmpR op_lt (pe_callB cr_len_sz rfl B.len boot_len' (pa_cons (pe_callTy (cr_set litD rfl (room8 hr)) rfl B.set boot_set' (pa_cons (pe_fld (pv 1) rfl) pa_nil)) pa_nil)) (pe_callB call_len_seq rfl B.len boot_len' (pa_cons (pe_fld (pv 1) rfl) pa_nil)) (nomark _))
    (pw_or1 (pt_val (pe_has hS hr rfl (pa_cons (pv 2) (pa_cons (pv 1) pa_nil))))))) (pss_one (ps_ret (pe_gI G.twice rfl))) pss_nil)
   (pss_cons (ps_if (PW.pt (pw_or (pt_cmpR op_ge (pe_callB call_len_seq rfl B.len boot_len' (pa_cons (pv 2) pa_nil)) (pv 3) (nomark _)) (pw_or1 (pt_val (pe_has hM hr rfl (pa_cons (pv 0) (pa_cons (pv 4) pa_nil))))))) (pss_one (ps_ret (pe_gI G.many rfl))) pss_nil)
   (pss_one (ps_ret (pe_gI G.noFault rfl))))),?_⟩
  obtain ⟨dx,n,b,h,h1,h2,h3,h4⟩:=id ha
  have gl:=gd.laws
  have gr:=gd.rules
  have ga:=gd.atoms
  refine ⟨_,rfl,_,rfl,a,C,dx,_,_,rfl,h1,TC.cl,TC.name,clF_name _ _ _,A,c,r.name,n,rfl,hc,h2,by omega,by omega,fun H1 g s1 eg=>⟨_,rfl,?_⟩⟩
  unfold CF at k
  cases g with
  | true=>exact iteT (k H1 2 s1 (by rw [if_pos (eg.mp rfl)]))
  | false =>
   have n1 : ¬ r.name∈c.names:=fun z=>by have:=eg.mpr z; cases this
   simp only [if_neg n1] at k
   refine iteF ?_
   obtain ⟨bs,hbs,alb⟩:=h3
   obtain ⟨zs,z1,z2,z3⟩:=all2_ls alb
   have lb:=alb.len
   have hzl : zs.length = r.body.length:=by have:=congrArg List.length z1; rw [List.length_map,List.length_map] at this; exact this
   have ebs : (bs.map V.ref) = zs.map fun y=>V.ref y.2:=by rw [← z2,List.map_map]; rfl
   have hbs1 : H1 b = some (.tup (zs.map fun y=>V.ref y.2)):=by rw [← ebs]; exact s1 _ _ hbs
   refine ⟨_,rfl,a,C,dx,_,_,rfl,s1 _ _ h1,TC.cl,TC.body,clF_body _ _ _,b,zs,rfl,.inr (SqT.of hbs1),fun y hy=>LtAt.mono s1.tups (z3 y hy),by omega,fun q n2 hq ⟨ms,nd,hm,en⟩=>?_⟩
   have s2 : Same H (upd H1 q (SzO q n2)):=s1.trans (Same.new hq)
   have mem : ∀ k,k∈ms↔k∈r.body.map lI:=fun k=>by rw [hm,z1]
   have ml : ms.length≤6:=by
    have:=nd.length_le_of_subset (l₂:=r.body.map lI) fun x hx=>(mem x).mp hx
    rw [List.length_map] at this
    omega
   have eq:=size_less (fun x y z=>lI_inj z) nd mem
   refine ⟨q,n2,rfl,upd_same,by omega,_,rfl,a,C,dx,_,_,rfl,s2 _ _ h1,TC.cl,TC.body,clF_body _ _ _,b,_,rfl,.inr (SqT.of (s2 _ _ hbs)),_,_,rfl,rfl,_,rfl,?_⟩
   rw [List.length_map,← lb]
   refine ite2 (fun h5=>?_) (fun h5=>?_)
   ·have h5 : (n2 : Int) < (r.body.length : Int):=of_decide_eq_true h5
    refine iteT (k _ 3 s2 ?_)
    rw [if_pos (.inl (eq.mp (by omega)))]
   ·have h5 : ¬ (n2 : Int) < (r.body.length : Int):=fun z=>h5 (decide_eq_true z)
    have n2' : ¬ ¬ r.body.Nodup:=fun z=>h5 (by have:=eq.mpr z; omega)
    refine ⟨_,rfl,_,rfl,l,ps,rows,a,r,rfl,s2 _ _ hl,al.mono (fun _ _ z=>z.same s2),ha.same s2,hrl,fun H3 g s3 eg=>⟨_,rfl,?_⟩⟩
    have s3':=s2.trans s3
    cases g with
    | true=>exact iteT (k H3 3 s3' (by rw [if_pos (.inr (eg.mp rfl))]))
    | false =>
     have n3 : ¬ (¬ r.body.Nodup∨∃ s∈rows,s.body = r.body∧s.head = r.head):=fun z=>z.elim n2' fun z=>by have:=eg.mpr z; cases this
     simp only [if_neg n3] at k
     have lr:=al.len
     refine iteF ⟨_,rfl,l,_,rfl,.inl (SqL.of (s3' _ _ hl)),_,rfl,_,_,rfl,rfl,_,rfl,?_⟩
     rw [List.length_map,← lr]
     refine ite2 (fun h6=>?_) (fun h6=>?_)
     ·have h6 : (most : Int)≤(rows.length : Int):=of_decide_eq_true h6
      exact iteT (k H3 4 s3' (by rw [if_pos (.inl (by omega))]))
     ·have h6 : ¬ (most : Int)≤(rows.length : Int):=fun z=>h6 (decide_eq_true z)
      refine ⟨_,rfl,_,rfl,A,c,ln,pn,ns,rfl,hc.same s3',s3' _ _ hln,aln.mono (fun _ _ z=>z.mono s3'.tups),hns,ga,fun H4 g s4 eg=>⟨_,rfl,?_⟩⟩
      have eg:=eg M nM mM
      have s4':=s3'.trans s4
      cases g with
      | true=>exact iteT (k H4 4 s4' (by rw [if_pos (.inr (eg.mp rfl))]))
      | false =>
       refine iteF (k H4 0 s4' ?_)
       rw [if_neg (fun z=>z.elim (fun z=>h6 (by omega)) fun z=>by have:=eg.mpr z; cases this)]
def OR (C : Addr) (H : Hp) (o : Option Row) (v : V) : Prop:=match o with
 | none=>v = .non
 | some r=>∃ p,v = .ref p∧ClauseAt C H r p∧r.body.length≤6
def kindOf (c : Case) (o : Option Line) : Nat:=match o with
 | none=>1
 | some l=>(wrong c l).getD 0
def spFault (P : Program) (w : World) (Cc C : Addr) (ln : Row→Line) : Sp:=fun vs H Q _=>∃ (A : CA) (c : Case) (o : Option Row) (v : V),vs = [.ref A.a,v]∧CaseAt P w Cc C H c A∧ML.Good c∧OR C H o v ∧
 ∀ H',Same H H'→Q (vI (kindOf c (o.map ln))) H'
theorem sc_lawFault : FnScope ["case","law","kind"] ["case","law"] (defScope sLawFault):=⟨rfl,rfl,rfl,by decide +kernel,rfl,by decide +kernel,by decide +kernel⟩
theorem ok_lawFault {Cc C : Addr} (B : Bs mg) (G : Gs mg) (T : CsT K Cc) (D : DefAt K mg "law_fault" sLawFault ["case","law"]) (hF : Has P w K mg base 2 "clause_fault" ["case","clause","peers","most","names"] (spClauseFault P w Cc C)) (hL : Has P w K mg base 1 "literal_atoms" ["clause"] (spNames C litAtoms))
 (hW : Has P w K mg base 2 "what_follows" ["clauses"] (spWhatFollows P w C)) (hO : Has P w K mg base 1 "has_opposites" ["literals"] (spHasOpp P w)) : Has P w K mg base 3 "law_fault" ["case","law"] (spFault P w Cc C .law):=D.has fun f fd F=>by
 refine F.ok sc_lawFault (fun vs H Q E h=>?_) (fun cdv A outer s H vs Q E hr h=>?_)
 ·obtain ⟨A,c,o,v,rfl,_⟩:=h
  rfl
 ·obtain ⟨A,c,o,v,rfl,hc,gd,ho,k⟩:=h
  refine ⟨_,pss_cons (ps_if (pt_cmpR op_isN (pv 1) pe_non (nomark _)) (pss_one (ps_ret (pe_gI G.notALine rfl))) pss_nil)
   (pss_cons (ps_set (i:=2) sc_lawFault.nd rfl (Or.inl rfl) (pe_has hF hr rfl (pa_cons (pv 0) (pa_cons (pv 1) (pa_cons (pe_fld (pv 0) rfl) (pa_cons (pe_gI G.mostLaws rfl) (pa_cons (pe_has hL (hr.mono (by decide)) rfl (pa_cons (pv 1) pa_nil)) pa_nil)))))))
   (pss_cons (ps_if (PW.pt (pw_and (pt_cmpR op_eq (pv 2) (pe_gI G.noFault rfl) (nomark _)) (pw_and1 (pt_val (pe_has hO (hr.mono (by decide)) rfl (pa_cons (pe_has hW (hr.mono (by decide)) rfl (pa_cons (pe_op op_cat (pe_fld (pv 0) rfl) (pe_lst (pa_cons (pv 1) pa_nil))) pa_nil)) pa_nil)))))) (pss_one (ps_ret (pe_gI G.clash rfl))) pss_nil)
   (pss_one (ps_ret (pv 2))))),?_⟩
  cases o with
  | none =>
   have ho : v = .non:=ho
   subst ho
   exact ⟨_,rfl,rfl,_,rfl,iteT (k H (Same.refl H))⟩
  | some r =>
   obtain ⟨p,rfl,hp,hb⟩:=ho
   obtain ⟨ob,⟨ls,l1,l2⟩,hrules,hat,hwt,n1,n2⟩:=id hc
   have gl:=gd.laws
   refine ⟨_,rfl,rfl,_,rfl,iteF ⟨_,rfl,_,rfl,_,rfl,A.a,Cc,A.dx,_,_,rfl,ob,T.cl,T.laws,csF_laws _ _ _ _,_,rfl,p,r,rfl,hp,hb,fun H1 q qs s1 q0 hq alq=>?_⟩⟩
   have hns : (litAtoms r).length≤8:=by unfold litAtoms; rw [List.length_append,List.length_map]; show _ + 1≤8; omega
   refine ⟨A,c,p,r,A.la,ls,c.laws,64,q,qs,litAtoms r,(c.add (.law r)).atoms,rfl,hc.same s1,hp.same s1,s1 _ _ l1,l2.mono (fun _ _ z=>z.same s1),hq,alq,hns,gd,by omega,hb,ML.nodup_atoms _,fun n=>atoms_law,fun H2 kd s2 cf=>?_⟩
   have s12:=s1.trans s2
   refine ⟨_,rfl,rfl,_,rfl,?_⟩
   rw [show V.int 0 = vI 0 from rfl,vI_eq]
   have kw : ∀ H',Same H H'→Q (vI ((wrong c (.law r)).getD 0)) H':=k
   rw [ML.wrong_law] at kw
   unfold CF at cf
   refine ite2 (fun h0=>?_) (fun h0=>?_)
   ·have h0 : kd = 0:=of_decide_eq_true h0
    subst h0
    have c1 : ¬ r.name∈c.names:=fun z=>by rw [if_pos z] at cf; cases cf
    rw [if_neg c1] at cf
    have c2 : ¬ (¬ r.body.Nodup∨∃ s∈c.laws,s.body = r.body∧s.head = r.head):=fun z=>by rw [if_pos z] at cf; cases cf
    rw [if_neg c2] at cf
    have c3 : ¬ (64≤c.laws.length∨64 < (c.add (.law r)).atoms.length):=fun z=>by rw [if_pos z] at cf; cases cf
    simp only [if_neg c1,if_neg c2,if_neg c3] at kw
    have e1:=l2.len
    refine ⟨_,rfl,A.a,Cc,A.dx,_,_,rfl,s12 _ _ ob,T.cl,T.laws,csF_laws _ _ _ _,_,rfl,(by show 1≤sizeLine; decide),fun t ht=>?_⟩
    have s3 : Same H (upd H2 t (.lst [.ref p])):=s12.trans (Same.new ht)
    refine ⟨A.la,t,_,_,rfl,rfl,s3 _ _ l1,upd_same,Nat.le_of_lt (lt_size (by rw [List.length_map]; show ls.length + 1≤_; omega)),fun u hu=>?_⟩
    have s4 : Same H (upd (upd H2 t (.lst [.ref p])) u (.lst (ls.map V.ref ++ [.ref p]))):=s3.trans (Same.new hu)
    refine ⟨u,ls ++ [p],c.laws ++ [r],rfl,by rw [upd_same,List.map_append]; rfl,All2.snoc (hp.same s4) (l2.mono fun _ _ z=>z.same s4),by rw [List.length_append]; show _ + 1≤_; omega,?_,fun H5 d ks s5 d0 dat kl mk=>?_⟩
    ·intro q hq
     rcases List.mem_append.mp hq with hq | hq
     ·exact gd.body q (List.mem_append_left _ hq)
     ·rw [List.mem_singleton.mp hq]; exact ⟨hb,Classical.not_not.mp fun z=>c2 (.inl z)⟩
    refine ⟨d,ks,rfl,dat,by omega,fun H6 g s6 eg=>⟨_,rfl,?_⟩⟩
    have s06:=(s4.trans s5).trans s6
    have ec : (c.add (.law r)).numbered.clash 0 = true↔∃ a,(⟨a,false⟩ : Lit)∈ks∧(⟨a,true⟩ : Lit)∈ks:=by
     rw [ML.clash_zero]
     unfold ML.LawClash
     exact ⟨fun ⟨a,x,y⟩=>⟨a,(mk _).mpr x,(mk _).mpr y⟩,fun ⟨a,x,y⟩=>⟨a,(mk _).mp x,(mk _).mp y⟩⟩
    cases g with
    | true =>
     have:=kw H6 s06
     rw [if_pos (ec.mpr (eg.mp rfl))] at this
     exact iteT this
    | false =>
     have:=kw H6 s06
     rw [if_neg (fun z=>by have:=eg.mpr (ec.mp z); cases this)] at this
     exact iteF ⟨_,rfl,this⟩
   ·have h0 : ¬ kd = 0:=fun z=>h0 (decide_eq_true z)
    refine iteF ⟨_,rfl,?_⟩
    have kw2:=kw H2 s12
    by_cases c1 : r.name∈c.names
    ·rw [if_pos c1] at cf kw2
     rw [cf]; exact kw2
    ·rw [if_neg c1] at cf kw2
     by_cases c2 : ¬ r.body.Nodup∨∃ s∈c.laws,s.body = r.body∧s.head = r.head
     ·rw [if_pos c2] at cf kw2
      rw [cf]; exact kw2
     ·rw [if_neg c2] at cf kw2
      by_cases c3 : 64≤c.laws.length∨64 < (c.add (.law r)).atoms.length
      ·rw [if_pos c3] at cf kw2
       rw [cf]; exact kw2
      ·rw [if_neg c3] at cf
       exact absurd cf h0
theorem sc_ruleFault : FnScope ["case","rule"] ["case","rule"] (defScope sRuleFault):=⟨rfl,rfl,rfl,by decide +kernel,rfl,by decide +kernel,by decide +kernel⟩
theorem ok_ruleFault {Cc C : Addr} (G : Gs mg) (T : CsT K Cc) (D : DefAt K mg "rule_fault" sRuleFault ["case","rule"]) (hF : Has P w K mg base 2 "clause_fault" ["case","clause","peers","most","names"] (spClauseFault P w Cc C)) (hL : Has P w K mg base 2 "rule_atoms" ["rule"] (spNames C ruleAtoms)) :
 Has P w K mg base 3 "rule_fault" ["case","rule"] (spFault P w Cc C .rule):=D.has fun f fd F=>by
 refine F.ok sc_ruleFault (fun vs H Q E h=>?_) (fun cdv A outer s H vs Q E hr h=>?_)
 ·obtain ⟨A,c,o,v,rfl,_⟩:=h
  rfl
 ·obtain ⟨A,c,o,v,rfl,hc,gd,ho,k⟩:=h
  refine ⟨_,pss_cons (ps_if (pt_cmpR op_isN (pv 1) pe_non (nomark _)) (pss_one (ps_ret (pe_gI G.notALine rfl))) pss_nil)
   (pss_one (ps_ret (pe_has hF hr rfl (pa_cons (pv 0) (pa_cons (pv 1) (pa_cons (pe_fld (pv 0) rfl) (pa_cons (pe_gI G.mostRules rfl) (pa_cons (pe_has hL hr rfl (pa_cons (pv 1) pa_nil)) pa_nil)))))))),?_⟩
  cases o with
  | none =>
   have ho : v = .non:=ho
   subst ho
   exact ⟨_,rfl,rfl,_,rfl,iteT (k H (Same.refl H))⟩
  | some r =>
   obtain ⟨p,rfl,hp,hb⟩:=ho
   obtain ⟨ob,_,⟨ls,l1,l2⟩,hat,hwt,n1,n2⟩:=id hc
   have gl:=gd.rules
   refine ⟨_,rfl,rfl,_,rfl,iteF ⟨_,rfl,_,rfl,_,rfl,A.a,Cc,A.dx,_,_,rfl,ob,T.cl,T.rules,csF_rules _ _ _ _,_,rfl,p,r,rfl,hp,hb,fun H1 q qs s1 q0 hq alq=>?_⟩⟩
   have hns : (ruleAtoms r).length≤8:=by unfold ruleAtoms litAtoms; rw [List.length_append,List.length_append,List.length_map]; show _ + 1 + 1≤8; omega
   refine ⟨A,c,p,r,A.lr,ls,c.rules,10,q,qs,ruleAtoms r,(c.add (.rule r)).atoms,rfl,hc.same s1,hp.same s1,s1 _ _ l1,l2.mono (fun _ _ z=>z.same s1),hq,alq,hns,gd,by omega,hb,ML.nodup_atoms _,fun n=>atoms_rule,fun H2 kd s2 cf=>?_⟩
   have kw2 : Q (vI ((wrong c (.rule r)).getD 0)) H2:=k H2 (s1.trans s2)
   rw [ML.wrong_rule] at kw2
   unfold CF at cf
   by_cases c1 : r.name∈c.names
   ·rw [if_pos c1] at cf kw2
    rw [cf]; exact kw2
   ·rw [if_neg c1] at cf kw2
    by_cases c2 : ¬ r.body.Nodup∨∃ s∈c.rules,s.body = r.body∧s.head = r.head
    ·rw [if_pos c2] at cf kw2
     rw [cf]; exact kw2
    ·rw [if_neg c2] at cf kw2
     by_cases c3 : 10≤c.rules.length∨64 < (c.add (.rule r)).atoms.length
     ·rw [if_pos c3] at cf kw2
      rw [cf]; exact kw2
     ·rw [if_neg c3] at cf kw2
      rw [cf]; exact kw2
def OP (H : Hp) (o : Option (Bytes × Bytes)) (v : V) : Prop:=match o with
 | none=>v = .non
 | some x=>∃ p,v = .ref p∧Pr H x p
def spWFault (P : Program) (w : World) (Cc C : Addr) : Sp:=fun vs H Q _=>∃ (A : CA) (c : Case) (o : Option (Bytes × Bytes)) (v : V),vs = [.ref A.a,v]∧CaseAt P w Cc C H c A∧ML.Good c∧OP H o v ∧
 ∀ H',Same H H'→Q (vI (kindOf c (o.map fun p=>.weigh p.1 p.2))) H'
theorem sc_weightFault : FnScope ["case","pair","names","rule"] ["case","pair"] (defScope sWeightFault):=⟨rfl,rfl,rfl,by decide +kernel,rfl,by decide +kernel,by decide +kernel⟩
theorem any_dN {ns : List Bytes} {x : Bytes} : ((ns.map dN).any fun z=>PyData.eqv z (dN x)) = decide (x∈ns):=by
 rw [List.any_map]
 by_cases h : x∈ns
 ·rw [decide_eq_true h,List.any_eq_true]
  exact ⟨x,h,by show PyData.eqv (dN x) (dN x) = true; rw [eqv_dN]; simp⟩
 ·rw [decide_eq_false h,List.any_eq_false]
  intro y hy z
  have z : PyData.eqv (dN y) (dN x) = true:=z
  rw [eqv_dN] at z
  exact h (by rw [← of_decide_eq_true z]; exact hy)
theorem ok_weightFault {Cc C : Addr} (G : Gs mg) (T : CsT K Cc) (TC : ClT K C) (D : DefAt K mg "weight_fault" sWeightFault ["case","pair"]) (hI : Has P w K mg base 1 "outweighs_itself_with" ["case","over","under"] (spOwItself P w Cc C)) :
 Has P w K mg base 2 "weight_fault" ["case","pair"] (spWFault P w Cc C):=D.has fun f fd F=>by
 refine F.ok sc_weightFault (fun vs H Q E h=>?_) (fun cdv A outer s H vs Q E hr h=>?_)
 ·obtain ⟨A,c,o,v,rfl,_⟩:=h
  rfl
 ·obtain ⟨A,c,o,v,rfl,hc,gd,ho,k⟩:=h
  refine ⟨_,pss_cons (ps_if (pt_cmpR op_isN (pv 1) pe_non (nomark _)) (pss_one (ps_ret (pe_gI G.notALine rfl))) pss_nil)
   (pss_cons (ps_setLc (i:=2) rfl sc_weightFault.nd rfl rfl (sw_true rfl rfl rfl (by rfl)) (pi_seq (pe_fld (pv 0) rfl)) (blkOk_by (own:=[("rule",3)]) (by show blkC ["case","pair","names","rule"] (defScope sWeightFault) _ _ = true; decide +kernel))
    (fun _ _ _ _ _=>pg_name (i:=3) sc_weightFault.nd rfl (Or.inl rfl)) (fun _ _ _ _ _=>pts_nil) (fun _ _ _ _ _=>show PE _ _ (tFld K (tVar 3) "name") from pe_fld (pv 3) rfl))
   (pss_cons (ps_if (PW.pt (pw_or (pt_cmpR (op_notInD hr.units) (pe_ix ix_tup (pv 1) pe_int (fun _ _=>rfl)) (pv 2) (by rfl)) (pw_or1 (pt_cmpR (op_notInD hr.units) (pe_ix ix_tup (pv 1) pe_int (fun _ _=>rfl)) (pv 2) (by rfl))))) (pss_one (ps_ret (pe_gI G.noRule rfl))) pss_nil)
   (pss_cons (ps_if (pt_val (pe_has hI hr rfl (pa_cons (pv 0) (pa_cons (pe_ix ix_tup (pv 1) pe_int (fun _ _=>rfl)) (pa_cons (pe_ix ix_tup (pv 1) pe_int (fun _ _=>rfl)) pa_nil))))) (pss_one (ps_ret (pe_gI G.itself rfl))) pss_nil)
   (pss_one (ps_ret (pe_gI G.noFault rfl)))))),?_⟩
  cases o with
  | none =>
   have ho : v = .non:=ho
   subst ho
   exact ⟨_,rfl,rfl,_,rfl,iteT (k H (Same.refl H))⟩
  | some xy =>
   obtain ⟨x,y⟩:=xy
   obtain ⟨p,rfl,hp⟩:=ho
   obtain ⟨ca,cb,hp1,hpx,hpy⟩:=hp.tup
   obtain ⟨ob,_,⟨rs,r1,r2⟩,hat,hwt,n1,n2⟩:=id hc
   have gr:=gd.rules
   have kw : ∀ H',Same H H'→Q (vI ((wrong c (.weigh x y)).getD 0)) H':=k
   rw [ML.wrong_weigh] at kw
   have hlen : (rs.map V.ref).length = c.rules.length:=by rw [List.length_map]; exact r2.len.symm
   refine ⟨_,rfl,rfl,_,rfl,iteF ⟨_,rfl,A.a,Cc,A.dx,_,_,rfl,ob,T.cl,T.rules,csF_rules _ _ _ _,A.lr,_,true,rfl,SqL.of r1,fun J S d hd=>?_⟩⟩
   refine lc_map (S _ (SqL.of r1)) (fun i acc H'=>∃ qs,acc = qs.map V.ref∧All2 (Wd H') ((c.rules.take i).map Row.name) qs) (by rintro _ _ _ _ t ⟨qs,e,z⟩; exact ⟨qs,e,z.mono fun _ _ r=>r.mono t⟩) hd (lt_size (by rw [hlen]; omega)) (fun _=>rfl) ⟨[],rfl,.nil⟩ ?_ ?_
   ·rintro i z acc H2 QA QB hi hz sm ⟨qs,rfl,rl⟩ ka kb
    obtain ⟨q,hq,rfl⟩:=map_ref_get hz
    obtain ⟨r,hr2,hrq⟩:=r2.get hq
    obtain ⟨dx,n,b,h,h1,h2,h3,h4⟩:=hrq.same sm
    refine ⟨_,rfl,q,C,dx,_,_,rfl,h1,TC.cl,TC.name,clF_name _ _ _,ka _ _ (Same.refl _) ⟨qs ++ [n],by rw [List.map_append]; rfl,?_⟩⟩
    rw [← take_snoc hr2,List.map_append]
    exact All2.snoc h2 rl
   ·rintro ys H2 ⟨qs,rfl,rl⟩ hy sm
    rw [hlen,List.take_length] at rl
    have dpn : Dp K H2 (.ref d) (.list ((c.rules.map Row.name).map dN)):=.lst (SqL.of hy) (dp_all (fun _ _ r=>Wd.dp r) rl)
    have hp2:=sm _ _ hp1
    have hpx2:=hpx.mono sm.tups
    have hpy2:=hpy.mono sm.tups
    refine ⟨_,rfl,p,_,_,_,rfl,rfl,SqT.of hp2,atI_nat (j:=0) (v:=V.ref ca) rfl,_,rfl,_,_,hpx2.dp,dpn,lay_dN _,Nat.le_trans (deep_dN _) (by decide),lay_map lay_dN _,_,rfl,?_⟩
    show if (!(((c.rules.map Row.name).map dN).any fun z=>PyData.eqv z (dN x))) = true then _ else _
    rw [any_dN]
    refine ite2 (fun h1=>?_) (fun h1=>?_)
    ·have h1 : ¬ x∈c.rules.map Row.name:=by simpa using h1
     have:=kw H2 sm
     rw [if_pos (.inl h1)] at this
     exact iteT this
    ·have h1 : x∈c.rules.map Row.name:=by simpa using h1
     refine ⟨_,rfl,p,_,_,_,rfl,rfl,SqT.of hp2,atI_nat (j:=1) (v:=V.ref cb) rfl,_,rfl,_,_,hpy2.dp,dpn,lay_dN _,Nat.le_trans (deep_dN _) (by decide),lay_map lay_dN _,_,rfl,?_⟩
     show if (!(((c.rules.map Row.name).map dN).any fun z=>PyData.eqv z (dN y))) = true then _ else _
     rw [any_dN]
     refine ite2 (fun h2=>?_) (fun h2=>?_)
     ·have h2 : ¬ y∈c.rules.map Row.name:=by simpa using h2
      have:=kw H2 sm
      rw [if_pos (.inr h2)] at this
      exact this
     ·have h2 : y∈c.rules.map Row.name:=by simpa using h2
      refine ⟨_,rfl,_,rfl,p,_,_,_,rfl,rfl,SqT.of hp2,atI_nat (j:=0) (v:=V.ref ca) rfl,_,rfl,p,_,_,_,rfl,rfl,SqT.of hp2,atI_nat (j:=1) (v:=V.ref cb) rfl,A,c,x,y,ca,cb,rfl,hc.same sm,hpx2,hpy2,gd.round,fun H3 g s3 eg=>⟨_,rfl,?_⟩⟩
      have:=kw H3 (sm.trans s3)
      rw [if_neg (by rintro (z | z); exact z h1; exact z h2)] at this
      cases g with
      | true=>rw [if_pos (eg.mp rfl)] at this; exact iteT this
      | false=>rw [if_neg (fun z=>by have:=eg.mpr z; cases this)] at this; exact iteF this
end
end SC
end
section
set_option maxRecDepth 100000
set_option maxHeartbeats 4000000
namespace SC
open PySem L2 L3 Mo
abbrev sReadingInit : Stmt:=inClass (top 64) 0
abbrev sTakeLaw : Stmt:=top 72
abbrev sTakeRule : Stmt:=top 73
abbrev sTakeWeight : Stmt:=top 74
abbrev sTakeLine : Stmt:=top 75
abbrev sReadText : Stmt:=top 76
def stepLine (c : Case) (o : Option Line) : Nat × Case:=match o with
 | none=>(1,c)
 | some l=>match wrong c l with
  | some k=>(k,c)
  | none=>(0,c.add l)
theorem wrong_pos {c : Case} {l : Line} {k : Nat} (h : wrong c l = some k) : k≠0:=by
 cases l with
 | law r =>
  rw [ML.wrong_law] at h
  repeat' split at h
  all_goals first | (cases h; done) | (cases h; decide)
 | rule r =>
  rw [ML.wrong_rule] at h
  repeat' split at h
  all_goals first | (cases h; done) | (cases h; decide)
 | weigh x y =>
  rw [ML.wrong_weigh] at h
  repeat' split at h
  all_goals first | (cases h; done) | (cases h; decide)
theorem stepLine_case {c : Case} {o : Option Line} : (kindOf c o≠0∧(stepLine c o).2 = c)∨(kindOf c o = 0∧∃ l,o = some l∧wrong c l = none∧(stepLine c o).2 = c.add l):=by
 cases o with
 | none=>exact .inl ⟨Nat.one_ne_zero,rfl⟩
 | some l =>
  unfold stepLine kindOf
  cases e : wrong c l with
  | none=>exact .inr ⟨by simp only [e]; rfl,l,rfl,e,by simp only [e]⟩
  | some k=>exact .inl ⟨by simp only [e]; exact wrong_pos e,by simp only [e]⟩
section
variable {P : Program} {w : World} {K : PySem.W.Frag} {mg : Str→Option Value} {base : Heap}
def spTake (P : Program) (w : World) (Cc C : Addr) (g : List Bytes→Option Line) : Sp:=fun vs H Q _=>∃ (A : CA) (c : Case) (a : Addr) (ws : List Bytes) (ps : List Addr),vs = [.ref A.a,.ref a]∧CaseAt P w Cc C H c A∧ML.Good c∧Ws H ws a ps ∧
 ∀ H',Frm A H H'→CaseAt P w Cc C H' (stepLine c (g ws)).2 A→Q (vI (kindOf c (g ws))) H'
theorem sc_takeLaw : FnScope ["case","words","law","kind"] ["case","words"] (defScope sTakeLaw):=⟨rfl,rfl,rfl,by decide +kernel,rfl,by decide +kernel,by decide +kernel⟩
theorem ok_takeLaw {Cc C : Addr} (G : Gs mg) (GA : gS mg "LAW_ARROW" "->") (D : DefAt K mg "take_law" sTakeLaw ["case","words"]) (hP : Has P w K mg base 6 "parse_clause" ["words","arrow"] (spParseClause C)) (hF : Has P w K mg base 3 "law_fault" ["case","law"] (spFault P w Cc C .law))
 (hA : Has P w K mg base 2 "add_law" ["case","law"] (spAdd P w Cc C .law)) : Has P w K mg base 7 "take_law" ["case","words"] (spTake P w Cc C fun ws=>(ML.pClause (ascii "->") ws).map .law):=D.has fun f fd F=>by
 refine F.ok sc_takeLaw (fun vs H Q E h=>?_) (fun cdv A outer s H vs Q E hr h=>?_)
 ·obtain ⟨A,c,a,ws,ps,rfl,_⟩:=h
  rfl
 ·obtain ⟨A,c,a,ws,ps,rfl,hc,gd,W,k⟩:=h
  refine ⟨_,pss_cons (ps_set (i:=2) sc_takeLaw.nd rfl (Or.inl rfl) (pe_has hP hr rfl (pa_cons (pv 1) (pa_cons (pe_gS GA rfl) pa_nil))))
   (pss_cons (ps_set (i:=3) sc_takeLaw.nd rfl (Or.inl rfl) (pe_has hF (hr.mono (by decide)) rfl (pa_cons (pv 0) (pa_cons (pv 2) pa_nil))))
   (pss_cons (ps_if (pt_cmpR op_eq (pv 3) (pe_gI G.noFault rfl) (nomark _)) (pss_one (ps_expr (pe_has hA (hr.mono (by decide)) rfl (pa_cons (pv 0) (pa_cons (pv 2) pa_nil))))) pss_nil) (pss_one (ps_ret (pv 3))))),?_⟩
  have rest : ∀ (H1 : Hp) (v : V) (o : Option Row),Same H H1→o = ML.pClause (ascii "->") ws→OR C H1 o v →
   tSeq (tAsg (tCall (spFault P w Cc C .law) [] E0 (tCons (tVar 0) (tCons (tVar 2) tNil))) (gName 3)) (tSeq (tIfS (tTest (tOp rEq (tVar 3) (tC (.int 0)))) (tDrop (tCall (spAdd P w Cc C .law) [] E0 (tCons (tVar 0) (tCons (tVar 2) tNil)))) tNext) (tRet (tVar 3)))
    { nx:=fun _ H'=>Q .non H',rt:=Q } [some (.ref A.a),some (.ref a),some v,none] H1:=by
   intro H1 v o s1 eo ho
   refine ⟨_,rfl,_,rfl,A,c,o,v,rfl,hc.same s1,gd,ho,fun H2 s2=>?_⟩
   have s12:=s1.trans s2
   simp only [← eo] at k
   refine ⟨_,rfl,rfl,_,rfl,?_⟩
   rw [show V.int 0 = vI 0 from rfl,vI_eq]
   rcases stepLine_case (c:=c) (o:=o.map .law) with ⟨k0,ec⟩ | ⟨k0,l,el,wl,ec⟩
   ·rw [decide_eq_false k0]
    exact iteF ⟨_,rfl,k H2 (Frm.of s12) (by rw [ec]; exact hc.same s12)⟩
   ·rw [decide_eq_true k0]
    cases o with
    | none=>cases el
    | some r =>
     cases el
     obtain ⟨p,rfl,hp,hb⟩:=ho
     have:=gd.laws
     have:=gd.rules
     have:=gd.atoms
     refine iteT ⟨_,rfl,_,rfl,A,c,r,p,rfl,hc.same s12,hp.same s2,hb,by omega,by omega,by omega,fun H3 f3 c3=>⟨_,rfl,k H3 ((Frm.of s12).trans f3) (by rw [ec]; exact c3)⟩⟩
  refine ⟨_,rfl,a,ws,ps,("->" : Str),rfl,by decide,W,fun H1 s1 e1=>rest H1 .non none s1 e1.symm rfl,fun H1 p r s1 e1 hp=>rest H1 (.ref p) (some r) s1 e1.symm ⟨p,rfl,hp,ML.pClause_fit e1⟩⟩
theorem sc_takeRule : FnScope ["case","words","rule","kind"] ["case","words"] (defScope sTakeRule):=⟨rfl,rfl,rfl,by decide +kernel,rfl,by decide +kernel,by decide +kernel⟩
theorem ok_takeRule {Cc C : Addr} (G : Gs mg) (GA : gS mg "RULE_ARROW" "=>") (D : DefAt K mg "take_rule" sTakeRule ["case","words"]) (hP : Has P w K mg base 6 "parse_clause" ["words","arrow"] (spParseClause C)) (hF : Has P w K mg base 3 "rule_fault" ["case","rule"] (spFault P w Cc C .rule))
 (hA : Has P w K mg base 3 "add_rule" ["case","rule"] (spAdd P w Cc C .rule)) : Has P w K mg base 7 "take_rule" ["case","words"] (spTake P w Cc C fun ws=>(ML.pClause (ascii "=>") ws).map .rule):=D.has fun f fd F=>by
 refine F.ok sc_takeRule (fun vs H Q E h=>?_) (fun cdv A outer s H vs Q E hr h=>?_)
 ·obtain ⟨A,c,a,ws,ps,rfl,_⟩:=h
  rfl
 ·obtain ⟨A,c,a,ws,ps,rfl,hc,gd,W,k⟩:=h
  refine ⟨_,pss_cons (ps_set (i:=2) sc_takeRule.nd rfl (Or.inl rfl) (pe_has hP hr rfl (pa_cons (pv 1) (pa_cons (pe_gS GA rfl) pa_nil))))
   (pss_cons (ps_set (i:=3) sc_takeRule.nd rfl (Or.inl rfl) (pe_has hF (hr.mono (by decide)) rfl (pa_cons (pv 0) (pa_cons (pv 2) pa_nil))))
   (pss_cons (ps_if (pt_cmpR op_eq (pv 3) (pe_gI G.noFault rfl) (nomark _)) (pss_one (ps_expr (pe_has hA (hr.mono (by decide)) rfl (pa_cons (pv 0) (pa_cons (pv 2) pa_nil))))) pss_nil) (pss_one (ps_ret (pv 3))))),?_⟩
  have rest : ∀ (H1 : Hp) (v : V) (o : Option Row),Same H H1→o = ML.pClause (ascii "=>") ws→OR C H1 o v →
   tSeq (tAsg (tCall (spFault P w Cc C .rule) [] E0 (tCons (tVar 0) (tCons (tVar 2) tNil))) (gName 3)) (tSeq (tIfS (tTest (tOp rEq (tVar 3) (tC (.int 0)))) (tDrop (tCall (spAdd P w Cc C .rule) [] E0 (tCons (tVar 0) (tCons (tVar 2) tNil)))) tNext) (tRet (tVar 3)))
    { nx:=fun _ H'=>Q .non H',rt:=Q } [some (.ref A.a),some (.ref a),some v,none] H1:=by
   intro H1 v o s1 eo ho
   refine ⟨_,rfl,_,rfl,A,c,o,v,rfl,hc.same s1,gd,ho,fun H2 s2=>?_⟩
   have s12:=s1.trans s2
   simp only [← eo] at k
   refine ⟨_,rfl,rfl,_,rfl,?_⟩
   rw [show V.int 0 = vI 0 from rfl,vI_eq]
   rcases stepLine_case (c:=c) (o:=o.map .rule) with ⟨k0,ec⟩ | ⟨k0,l,el,wl,ec⟩
   ·rw [decide_eq_false k0]
    exact iteF ⟨_,rfl,k H2 (Frm.of s12) (by rw [ec]; exact hc.same s12)⟩
   ·rw [decide_eq_true k0]
    cases o with
    | none=>cases el
    | some r =>
     cases el
     obtain ⟨p,rfl,hp,hb⟩:=ho
     have:=gd.laws
     have:=gd.rules
     have:=gd.atoms
     refine iteT ⟨_,rfl,_,rfl,A,c,r,p,rfl,hc.same s12,hp.same s2,hb,by omega,by omega,by omega,fun H3 f3 c3=>⟨_,rfl,k H3 ((Frm.of s12).trans f3) (by rw [ec]; exact c3)⟩⟩
  refine ⟨_,rfl,a,ws,ps,("=>" : Str),rfl,by decide,W,fun H1 s1 e1=>rest H1 .non none s1 e1.symm rfl,fun H1 p r s1 e1 hp=>rest H1 (.ref p) (some r) s1 e1.symm ⟨p,rfl,hp,ML.pClause_fit e1⟩⟩
theorem sc_takeWeight : FnScope ["case","words","pair","kind"] ["case","words"] (defScope sTakeWeight):=⟨rfl,rfl,rfl,by decide +kernel,rfl,by decide +kernel,by decide +kernel⟩
theorem ok_takeWeight {Cc C : Addr} (G : Gs mg) (D : DefAt K mg "take_weight" sTakeWeight ["case","words"]) (hP : Has P w K mg base 4 "parse_weight" ["words"] spParseWeight) (hF : Has P w K mg base 2 "weight_fault" ["case","pair"] (spWFault P w Cc C))
 (hA : Has P w K mg base 1 "add_weight" ["case","over","under"] (spAddWeight P w Cc C)) : Has P w K mg base 7 "take_weight" ["case","words"] (spTake P w Cc C fun ws=>(ML.pWeigh ws).map fun p=>.weigh p.1 p.2):=D.has fun f fd F=>by
 refine F.ok sc_takeWeight (fun vs H Q E h=>?_) (fun cdv A outer s H vs Q E hr h=>?_)
 ·obtain ⟨A,c,a,ws,ps,rfl,_⟩:=h
  rfl
 ·obtain ⟨A,c,a,ws,ps,rfl,hc,gd,W,k⟩:=h
  refine ⟨_,pss_cons (ps_set (i:=2) sc_takeWeight.nd rfl (Or.inl rfl) (pe_has hP (hr.mono (by decide)) rfl (pa_cons (pv 1) pa_nil)))
   (pss_cons (ps_set (i:=3) sc_takeWeight.nd rfl (Or.inl rfl) (pe_has hF (hr.mono (by decide)) rfl (pa_cons (pv 0) (pa_cons (pv 2) pa_nil))))
   (pss_cons (ps_if (pt_cmpR op_eq (pv 3) (pe_gI G.noFault rfl) (nomark _)) (pss_one (ps_expr (pe_has hA (hr.mono (by decide)) rfl (pa_cons (pv 0) (pa_cons (pe_ix ix_tup (pv 2) pe_int (fun _ _=>rfl)) (pa_cons (pe_ix ix_tup (pv 2) pe_int (fun _ _=>rfl)) pa_nil)))))) pss_nil) (pss_one (ps_ret (pv 3))))),?_⟩
  have rest : ∀ (H1 : Hp) (v : V) (o : Option (Bytes × Bytes)),Same H H1→o = ML.pWeigh ws→OP H1 o v →
   tSeq (tAsg (tCall (spWFault P w Cc C) [] E0 (tCons (tVar 0) (tCons (tVar 2) tNil))) (gName 3)) (tSeq (tIfS (tTest (tOp rEq (tVar 3) (tC (.int 0)))) (tDrop (tCall (spAddWeight P w Cc C) [] E0 (tCons (tVar 0) (tCons (tOp (rIxT K) (tVar 2) (tC (.int 0))) (tCons (tOp (rIxT K) (tVar 2) (tC (.int 1))) tNil))))) tNext) (tRet (tVar 3)))
    { nx:=fun _ H'=>Q .non H',rt:=Q } [some (.ref A.a),some (.ref a),some v,none] H1:=by
   intro H1 v o s1 eo ho
   refine ⟨_,rfl,_,rfl,A,c,o,v,rfl,hc.same s1,gd,ho,fun H2 s2=>?_⟩
   have s12:=s1.trans s2
   simp only [← eo] at k
   refine ⟨_,rfl,rfl,_,rfl,?_⟩
   rw [show V.int 0 = vI 0 from rfl,vI_eq]
   rcases stepLine_case (c:=c) (o:=o.map fun p=>.weigh p.1 p.2) with ⟨k0,ec⟩ | ⟨k0,l,el,wl,ec⟩
   ·rw [decide_eq_false k0]
    exact iteF ⟨_,rfl,k H2 (Frm.of s12) (by rw [ec]; exact hc.same s12)⟩
   ·rw [decide_eq_true k0]
    cases o with
    | none=>cases el
    | some xy =>
     obtain ⟨x,y⟩:=xy
     cases el
     obtain ⟨p,rfl,hp⟩:=ho
     obtain ⟨ca,cb,hp1,hpx,hpy⟩:=(hp.mono s2.tups).tup
     have gd2 : ML.Good (c.add (.weigh x y)):=ML.good_add gd trivial wl
     refine iteT ⟨_,rfl,_,rfl,p,_,_,_,rfl,rfl,SqT.of hp1,atI_nat (j:=0) (v:=V.ref ca) rfl,_,rfl,p,_,_,_,rfl,rfl,SqT.of hp1,atI_nat (j:=1) (v:=V.ref cb) rfl,A,c,x,y,ca,cb,rfl,hc.same s12,hpx,hpy,gd.rules,gd2.among,fun H3 f3 c3=>⟨_,rfl,k H3 ((Frm.of s12).trans f3) (by rw [ec]; exact c3)⟩⟩
  refine ⟨_,rfl,a,ws,ps,rfl,W,fun H1 s1 e1=>rest H1 .non none s1 e1.symm rfl,fun H1 p r s1 e1 hp=>rest H1 (.ref p) (some r) s1 e1.symm ⟨p,rfl,hp⟩⟩
theorem split_len {m : Nat} : ∀ {b : Bytes},(ML.split m b).length≤b.length + 1∧∀ x∈ML.split m b,x.length≤b.length:=by
 have go : ∀ (b part : Bytes),(ML.splitGo m part b).length≤b.length + 1∧∀ x∈ML.splitGo m part b,x.length≤part.length + b.length:=by
  intro b
  induction b with
  | nil=>intro part; exact ⟨Nat.le_refl _,fun x hx=>by rw [ML.splitGo,List.mem_singleton] at hx; rw [hx]; exact Nat.le_refl _⟩
  | cons c r ih =>
   intro part
   rw [ML.splitGo]
   split
   ·obtain ⟨h1,h2⟩:=ih []
    refine ⟨by rw [List.length_cons,List.length_cons]; omega,fun x hx=>?_⟩
    rcases List.mem_cons.mp hx with rfl | hx
    ·exact Nat.le_add_right _ _
    ·have:=h2 x hx
     rw [List.length_nil] at this
     rw [List.length_cons]; omega
   ·obtain ⟨h1,h2⟩:=ih (part ++ [c])
    refine ⟨by rw [List.length_cons]; omega,fun x hx=>?_⟩
    have:=h2 x hx
    rw [List.length_append,List.length_singleton] at this
    rw [List.length_cons]; omega
 intro b
 have:=go b []
 rw [ML.split_eq,List.length_nil,Nat.zero_add] at this
 exact this
theorem sc_takeLine : FnScope ["case","line","words"] ["case","line"] (defScope sTakeLine):=⟨rfl,rfl,rfl,by decide +kernel,rfl,by decide +kernel,by decide +kernel⟩
def spTakeLine (P : Program) (w : World) (Cc C : Addr) : Sp:=fun vs H Q _=>∃ (A : CA) (c : Case) (b : Addr) (l : Bytes),vs = [.ref A.a,.ref b]∧CaseAt P w Cc C H c A∧ML.Good c∧Wd H l b∧l.length≤8300 ∧
 ∀ H',Frm A H H'→CaseAt P w Cc C H' (stepLine c (lineIn l)).2 A→Q (vI (kindOf c (lineIn l))) H'
theorem ok_takeLine {Cc C : Addr} (G : Gs mg) (GB : gI mg "BLANK" 32) (GL : gS mg "LAW_WORD" "law") (GR : gS mg "RULE_WORD" "rule") (GW : gS mg "WEIGH_WORD" "weigh") (D : DefAt K mg "take_line" sTakeLine ["case","line"]) (hS : Has P w K mg base 1 "spell" ["text"] spSpell)
 (hSp : Has P w K mg base 1 "split_at" ["row","mark"] (spSplit K)) (hL : Has P w K mg base 7 "take_law" ["case","words"] (spTake P w Cc C fun ws=>(ML.pClause (ascii "->") ws).map .law)) (hR : Has P w K mg base 7 "take_rule" ["case","words"] (spTake P w Cc C fun ws=>(ML.pClause (ascii "=>") ws).map .rule))
 (hW : Has P w K mg base 7 "take_weight" ["case","words"] (spTake P w Cc C fun ws=>(ML.pWeigh ws).map fun p=>.weigh p.1 p.2)) : Has P w K mg base 8 "take_line" ["case","line"] (spTakeLine P w Cc C):=D.has fun f fd F=>by
 refine F.ok sc_takeLine (fun vs H Q E h=>?_) (fun cdv A outer s H vs Q E hr h=>?_)
 ·obtain ⟨A,c,b,l,rfl,_⟩:=h
  rfl
 ·obtain ⟨A,c,b,l,rfl,hc,gd,hb,hl,k⟩:=h
  refine ⟨_,pss_cons (ps_set (i:=2) sc_takeLine.nd rfl (Or.inl rfl) (pe_has hSp (hr.mono (by decide)) rfl (pa_cons (pv 1) (pa_cons (pe_gI GB rfl) pa_nil))))
   (pss_cons (ps_if (pt_cmpR (op_eqD hr.units) (pe_ix ix_list (pv 2) pe_int (fun _ _=>rfl)) (pe_has hS (hr.mono (by decide)) rfl (pa_cons (pe_gS GL rfl) pa_nil)) (nomark _)) (pss_one (ps_ret (pe_has hL hr rfl (pa_cons (pv 0) (pa_cons (pv 2) pa_nil))))) pss_nil)
   (pss_cons (ps_if (pt_cmpR (op_eqD hr.units) (pe_ix ix_list (pv 2) pe_int (fun _ _=>rfl)) (pe_has hS (hr.mono (by decide)) rfl (pa_cons (pe_gS GR rfl) pa_nil)) (nomark _)) (pss_one (ps_ret (pe_has hR hr rfl (pa_cons (pv 0) (pa_cons (pv 2) pa_nil))))) pss_nil)
   (pss_cons (ps_if (pt_cmpR (op_eqD hr.units) (pe_ix ix_list (pv 2) pe_int (fun _ _=>rfl)) (pe_has hS (hr.mono (by decide)) rfl (pa_cons (pe_gS GW rfl) pa_nil)) (nomark _)) (pss_one (ps_ret (pe_has hW hr rfl (pa_cons (pv 0) (pa_cons (pv 2) pa_nil))))) pss_nil)
   (pss_one (ps_ret (pe_gI G.notALine rfl)))))),?_⟩
  refine ⟨_,rfl,b,l,32,rfl,⟨false,SqT.of hb.tup⟩,hl,fun p ps H1 s1 p0 hp al=>?_⟩
  have sl:=split_len (m:=32) (b:=l)
  have W : Ws H1 (ML.split 32 l) p ps:=⟨hp,al,fun x hx=>Nat.le_trans (sl.2 x hx) hl,by have:=sl.1; omega⟩
  have ne:=ML.split_ne 32 l
  have ek : lineIn l = (if (ML.split 32 l).getD 0 [] = ascii "law" then (ML.pClause (ascii "->") (ML.split 32 l)).map Line.law else if (ML.split 32 l).getD 0 [] = ascii "rule" then (ML.pClause (ascii "=>") (ML.split 32 l)).map Line.rule
   else if (ML.split 32 l).getD 0 [] = ascii "weigh" then (ML.pWeigh (ML.split 32 l)).map (fun p=>Line.weigh p.1 p.2) else none):=ML.lineIn_eq l
  rw [ek] at k
  generalize ML.split 32 l = ws at W ne k
  have hw0 : 0 < ws.length:=List.length_pos_iff.mpr ne
  obtain ⟨b0,g0,w0,_⟩:=W.get hw0
  refine ⟨_,rfl,p,_,_,_,rfl,rfl,SqL.of W.at_,atI_nat (j:=0) g0,("law" : Str),rfl,by decide,fun q H2 s2 h2=>⟨_,_,(w0.mono s2.tups).dp,h2.dp,sh_dN _,sh_dN _,_,rfl,?_⟩⟩
  rw [eqv_dN]
  have s12:=s1.trans s2
  have W2:=W.same s2
  refine ite2 (fun e=>?_) (fun e=>?_)
  ·have e : ws.getD 0 [] = ascii "law":=of_decide_eq_true e
   simp only [if_pos e] at k
   exact ⟨_,rfl,_,rfl,A,c,p,ws,ps,rfl,hc.same s12,gd,W2,fun H3 f3 c3=>k H3 ((Frm.of s12).trans f3) c3⟩
  ·have e : ¬ ws.getD 0 [] = ascii "law":=fun z=>e (decide_eq_true z)
   simp only [if_neg e] at k
   refine ⟨_,rfl,p,_,_,_,rfl,rfl,SqL.of W2.at_,atI_nat (j:=0) g0,("rule" : Str),rfl,by decide,fun q H3 s3 h3=>⟨_,_,(w0.mono (s2.trans s3).tups).dp,h3.dp,sh_dN _,sh_dN _,_,rfl,?_⟩⟩
   rw [eqv_dN]
   have s13:=s12.trans s3
   have W3:=W2.same s3
   refine ite2 (fun e=>?_) (fun e=>?_)
   ·have e : ws.getD 0 [] = ascii "rule":=of_decide_eq_true e
    simp only [if_pos e] at k
    exact ⟨_,rfl,_,rfl,A,c,p,ws,ps,rfl,hc.same s13,gd,W3,fun H3 f3 c3=>k H3 ((Frm.of s13).trans f3) c3⟩
   ·have e : ¬ ws.getD 0 [] = ascii "rule":=fun z=>e (decide_eq_true z)
    simp only [if_neg e] at k
    refine ⟨_,rfl,p,_,_,_,rfl,rfl,SqL.of W3.at_,atI_nat (j:=0) g0,("weigh" : Str),rfl,by decide,fun q H4 s4 h4=>⟨_,_,(w0.mono ((s2.trans s3).trans s4).tups).dp,h4.dp,sh_dN _,sh_dN _,_,rfl,?_⟩⟩
    rw [eqv_dN]
    have s14:=s13.trans s4
    have W4:=W3.same s4
    refine ite2 (fun e=>?_) (fun e=>?_)
    ·have e : ws.getD 0 [] = ascii "weigh":=of_decide_eq_true e
     simp only [if_pos e] at k
     exact ⟨_,rfl,_,rfl,A,c,p,ws,ps,rfl,hc.same s14,gd,W4,fun H3 f3 c3=>k H3 ((Frm.of s14).trans f3) c3⟩
    ·have e : ¬ ws.getD 0 [] = ascii "weigh":=fun z=>e (decide_eq_true z)
     simp only [if_neg e] at k
     exact k H4 (Frm.of s14) (hc.same s14)
end
end SC
end
section
set_option maxRecDepth 100000
set_option maxHeartbeats 4000000
namespace SC
open PySem L2 L3 Mo
def rdF (r c k p : V) : List (Str × V):=putF "place" p (putF "kind" k (putF "case" c (putF "refusal" r [])))
theorem m_rc : ¬ (("refusal" : Str) = "case"):=by decide +kernel
theorem m_rk : ¬ (("refusal" : Str) = "kind"):=by decide +kernel
theorem m_rp : ¬ (("refusal" : Str) = "place"):=by decide +kernel
theorem m_ck : ¬ (("case" : Str) = "kind"):=by decide +kernel
theorem m_cp : ¬ (("case" : Str) = "place"):=by decide +kernel
theorem rdF_refusal (r c k p : V) : (rdF r c k p).lookup ("refusal" : Str) = some r:=by unfold rdF; rw [lookup_putF,if_neg m_rp,lookup_putF,if_neg m_rk,lookup_putF,if_neg m_rc,lookup_putF,if_pos rfl]
theorem rdF_case (r c k p : V) : (rdF r c k p).lookup ("case" : Str) = some c:=by unfold rdF; rw [lookup_putF,if_neg m_cp,lookup_putF,if_neg m_ck,lookup_putF,if_pos rfl]
structure RdT (K : PySem.W.Frag) (C : Addr) : Prop where
 cl : Cls K C
 refusal : NoAttr K C "refusal"
 case : NoAttr K C "case"
 kind : NoAttr K C "kind"
 place : NoAttr K C "place"
def spReadingInit (Cr : Addr) : Sp:=fun vs H Q _=>∃ (p dx : Addr) (r c k pl : V),vs = [.ref p,r,c,k,pl]∧H p = some (.ins Cr dx [])∧Q .non (upd H p (.ins Cr dx (rdF r c k pl)))
section
variable {P : Program} {w : World} {K : PySem.W.Frag} {mg : Str→Option Value} {base : Heap}
theorem sc_readingInit : FnScope ["self","refusal","case","kind","place"] ["self","refusal","case","kind","place"] (defScope sReadingInit):=⟨rfl,rfl,rfl,by decide +kernel,rfl,by decide +kernel,by decide +kernel⟩
theorem putF_len (f : Str) (v : V) : ∀ fs : List (Str × V),(putF f v fs).length≤fs.length + 1
 | []=>Nat.le_refl _
 | (g,x) :: r=>by
  unfold putF
  split
  ·rw [List.length_cons,List.length_cons]; omega
  ·have:=putF_len f v r
   rw [List.length_cons,List.length_cons]; omega
theorem ok_reading {Cr : Addr} (T : RdT K Cr) (D : ClsDef K mg "Reading" "Reading.__init__" sReadingInit Cr ["self","refusal","case","kind","place"]) : HasCls P w K mg base 1 "Reading" Cr ["self","refusal","case","kind","place"] (spReadingInit Cr):=D.has fun f fd F=>by
 refine F.ok sc_readingInit (fun vs H Q E h=>?_) (fun cdv A outer s H vs Q E hr h=>?_)
 ·obtain ⟨p,dx,r,c,k,pl,rfl,_⟩:=h
  rfl
 ·obtain ⟨p,dx,r,c,k,pl,rfl,hp,kk⟩:=h
  refine ⟨_,pss_cons (ps_fld (pv 0) (pv 1) rfl) (pss_cons (ps_fld (pv 0) (pv 2) rfl) (pss_cons (ps_fld (pv 0) (pv 3) rfl) (pss_one (ps_fld (pv 0) (pv 4) rfl)))),?_⟩
  have l1:=putF_len "refusal" r []
  have l2:=putF_len "case" c (putF "refusal" r [])
  have l3:=putF_len "kind" k (putF "case" c (putF "refusal" r []))
  rw [List.length_nil] at l1
  refine ⟨_,rfl,_,rfl,p,Cr,dx,_,rfl,hp,T.cl,T.refusal,(by show 0 < 1000; decide),_,rfl,_,rfl,p,Cr,dx,_,rfl,upd_same,T.cl,T.case,(by omega),_,rfl,_,rfl,p,Cr,dx,_,rfl,upd_same,T.cl,T.kind,(by omega),_,rfl,_,rfl,p,Cr,dx,_,rfl,upd_same,T.cl,T.place,(by omega),?_⟩
  show Q .non (upd (upd (upd (upd H p _) p _) p _) p (.ins Cr dx (rdF r c k pl)))
  rw [upd_upd,upd_upd,upd_upd]
  exact kk
def RdAt (P : Program) (w : World) (Cc C Cr : Addr) (H : Hp) (bs : Bytes) (p : Addr) : Prop :=
 if 8192 < bs.length then ∃ dx c k pl,H p = some (.ins Cr dx (rdF (.int (-1)) c k pl)) else
  match readBehind Case.none_ bs with
  | .error f=>∃ dx c,H p = some (.ins Cr dx (rdF (.int (-6)) c (vI f.kind) (vI f.place)))
  | .ok d=>∃ dx A k pl,H p = some (.ins Cr dx (rdF (.int 0) (.ref A.a) k pl))∧CaseAt P w Cc C H (ML.ordC d) A∧ML.Good d
def Kpt (Pt : Addr) (H H' : Hp) : Prop:=∀ b o,b≠Pt→H b = some o→H' b = some o
theorem Kpt.of {Pt : Addr} {H H' : Hp} (s : Same H H') : Kpt Pt H H':=fun b o _ e=>s b o e
theorem Kpt.trans {Pt : Addr} {H H1 H2 : Hp} (a : Kpt Pt H H1) (b : Kpt Pt H1 H2) : Kpt Pt H H2:=fun c o n e=>b c o n (a c o n e)
def spReadText (P : Program) (w : World) (K : PySem.W.Frag) (Cc C Cr Pt : Addr) : Sp:=fun vs H Q _=>∃ (a : Addr) (bs : Bytes),vs = [.ref a]∧SqL K H a (bs.map vI)∧bs.length≤8300∧H Pt = some (.tbl #[])∧∀ H' p,Kpt Pt H H'→RdAt P w Cc C Cr H' bs p→Q (.ref p) H'
theorem readFrom_step (c : Case) (p : Nat) (b : Bytes) (r : List Bytes) : readFrom c p (b :: r) = if kindOf c (lineIn b) = 0 then readFrom (stepLine c (lineIn b)).2 (p + b.length + 1) r else .error ⟨kindOf c (lineIn b),p⟩:=by
 rw [readFrom]
 unfold kindOf stepLine
 cases e : lineIn b with
 | none=>rfl
 | some l =>
  cases e2 : wrong c l with
  | none=>simp only [e2]; rfl
  | some k =>
   simp only [e2]
   rw [if_neg (by exact wrong_pos e2)]
   rfl
structure Gs2 (mg : Str→Option Value) : Prop where
 mostBytes : gI mg "MOST_BYTES" 8192
 tooLong : gI mg "TOO_LONG" (-1)
 noCase : gI mg "NO_CASE" (-6)
 lineFeed : gI mg "LINE_FEED" 10
theorem over_nil {x y : Bytes} (h : ML.Over [] x y) : False:=by
 induction h with
 | one h=>cases h
 | on _ h _=>cases h
theorem good_step {c : Case} {b : Bytes} (g : ML.Good c) (h : kindOf c (lineIn b) = 0) : ML.Good (stepLine c (lineIn b)).2:=by
 rcases stepLine_case (c:=c) (o:=lineIn b) with ⟨k0,ec⟩ | ⟨k0,l,el,wl,ec⟩
 ·exact absurd h k0
 ·rw [ec]; exact ML.good_add g (ML.lineIn_fit el) wl
theorem sc_readText : FnScope ["t","lines","case","place","line","kind"] ["t"] (defScope sReadText):=⟨rfl,rfl,rfl,by decide +kernel,rfl,by decide +kernel,by decide +kernel⟩
theorem ok_readText {Cc C Cr Pt : Addr} (B : Bs mg) (G : Gs mg) (G2 : Gs2 mg) (D : DefAt K mg "read_text" sReadText ["t"]) (hSp : Has P w K mg base 1 "split_at" ["row","mark"] (spSplit K)) (hC : HasCls P w K mg base 1 "Case" Cc ["self"] (spCaseInit P w Cc))
 (hR : HasCls P w K mg base 1 "Reading" Cr ["self","refusal","case","kind","place"] (spReadingInit Cr)) (hT : Has P w K mg base 8 "take_line" ["case","line"] (spTakeLine P w Cc C)) (hPO : Has P w K mg base 1 "put_in_order" ["case"] (spPutOrder P w Cc C Pt)) : Has P w K mg base 9 "read_text" ["t"] (spReadText P w K Cc C Cr Pt):=D.has fun f fd F=>by
 refine F.ok sc_readText (fun vs H Q E h=>?_) (fun cdv A outer s H vs Q E hr h=>?_)
 ·obtain ⟨a,bs,rfl,_⟩:=h
  rfl
 ·obtain ⟨a,bs,rfl,ha,hlen,hPt,k⟩:=h
  refine ⟨_,pss_cons (ps_if (pt_cmpR op_gt (pe_callB call_len_seq rfl B.len boot_len' (pa_cons (pv 0) pa_nil)) (pe_gI G2.mostBytes rfl) (nomark _)) (pss_one (ps_ret (pe_hasC hR (hr.mono (by decide)) rfl (pa_cons (pe_gI G2.tooLong rfl) (pa_cons pe_non (pa_cons (pe_gI G.noFault rfl) (pa_cons pe_int pa_nil))))))) pss_nil)
   (pss_cons (ps_set (i:=1) sc_readText.nd rfl (Or.inl rfl) (pe_has hSp (hr.mono (by decide)) rfl (pa_cons (pv 0) (pa_cons (pe_gI G2.lineFeed rfl) pa_nil))))
   (pss_cons (ps_set (i:=2) sc_readText.nd rfl (Or.inl rfl) (pe_hasC0 hC (hr.mono (by decide)) rfl))
   (pss_cons (ps_set (i:=3) sc_readText.nd rfl (Or.inl rfl) pe_int)
   (pss_cons (ps_for PassesOwn.never rfl (pi_seq (pe_slice sl_list (pv 1) po_none (po_some (pe_un un_neg pe_int)))) (pg_name (i:=4) sc_readText.nd rfl (Or.inl rfl))
    (pss_cons (ps_set (i:=5) sc_readText.nd rfl (Or.inl rfl) (pe_has hT hr rfl (pa_cons (pv 2) (pa_cons (pv 4) pa_nil))))
    (pss_cons (ps_if (pt_cmpR op_ne (pv 5) (pe_gI G.noFault rfl) (nomark _)) (pss_one (ps_ret (pe_hasC hR (hr.mono (by decide)) rfl (pa_cons (pe_gI G2.noCase rfl) (pa_cons pe_non (pa_cons (pv 5) (pa_cons (pv 3) pa_nil))))))) pss_nil)
    (pss_one (ps_aug (i:=3) sc_readText.nd rfl (Or.inl rfl) (pe_op op_add (pe_callB call_len_seq rfl B.len boot_len' (pa_cons (pv 4) pa_nil)) pe_int) ip_add)))))
   (pss_cons (ps_if (pt_cmpR op_gt (pe_callB call_len_seq rfl B.len boot_len' (pa_cons (pe_ix ix_list (pv 1) (pe_un un_neg pe_int) (fun _ _=>rfl)) pa_nil)) pe_int (nomark _)) (pss_one (ps_ret (pe_hasC hR (hr.mono (by decide)) rfl (pa_cons (pe_gI G2.noCase rfl) (pa_cons pe_non (pa_cons (pe_gI G.notALine rfl) (pa_cons (pe_callB call_len_seq rfl B.len boot_len' (pa_cons (pv 0) pa_nil)) pa_nil))))))) pss_nil)
   (pss_cons (ps_expr (pe_has hPO (hr.mono (by decide)) rfl (pa_cons (pv 2) pa_nil))) (pss_one (ps_ret (pe_hasC hR (hr.mono (by decide)) rfl (pa_cons pe_int (pa_cons (pv 2) (pa_cons (pe_gI G.noFault rfl) (pa_cons pe_int pa_nil))))))))))))),?_⟩
  have hbl : (bs.map vI).length = bs.length:=List.length_map _
  have mk : ∀ (H1 : Hp) (r c kd pl : V),Kpt Pt H H1→(∀ H' p dx,Same H1 H'→H' p = some (.ins Cr dx (rdF r c kd pl))→RdAt P w Cc C Cr H' bs p)→∀ x dx,H1 x = none→H1 dx = none→dx≠x →
   spReadingInit Cr (.ref x :: ([r,c,kd,pl] ++ [])) (upd (upd H1 dx (.own x)) x (.ins Cr dx [])) (fun v H2=>v = .non∧Q (.ref x) H2) E0:=by
   intro H1 r c kd pl s1 hrd x dx hx hdx hne
   refine ⟨x,dx,r,c,kd,pl,rfl,upd_same,rfl,?_⟩
   rw [upd_upd]
   have s2 : Same H1 (upd (upd H1 dx (.own x)) x (.ins Cr dx (rdF r c kd pl))):=((Same.refl H1).set hdx).set hx
   exact k _ x (s1.trans (Kpt.of s2)) (hrd _ x dx s2 upd_same)
  refine ⟨_,rfl,a,_,rfl,.inl ha,_,_,rfl,rfl,_,rfl,?_⟩
  rw [hbl]
  refine ite2 (fun h1=>?_) (fun h1=>?_)
  ·have h1 : (8192 : Int) < (bs.length : Int):=of_decide_eq_true h1
   refine mk H _ _ _ _ (Kpt.of (Same.refl H)) fun H' p dx s e=>?_
   unfold RdAt
   rw [if_pos (by omega)]
   exact ⟨dx,_,_,_,e⟩
  ·have h1 : ¬ (8192 : Int) < (bs.length : Int):=fun z=>h1 (decide_eq_true z)
   have eR : ∀ H' p,RdAt P w Cc C Cr H' bs p = (match readBehind Case.none_ bs with
    | .error f=>∃ dx c,H' p = some (.ins Cr dx (rdF (.int (-6)) c (vI f.kind) (vI f.place)))
    | .ok d=>∃ dx A k pl,H' p = some (.ins Cr dx (rdF (.int 0) (.ref A.a) k pl))∧CaseAt P w Cc C H' (ML.ordC d) A∧ML.Good d):=fun H' p=>by
    unfold RdAt
    rw [if_neg (by omega)]
   have eB : readBehind Case.none_ bs = (match readFrom Case.none_ 0 (linesOf bs).1 with
    | .error f=>.error f
    | .ok x=>if (linesOf bs).2 = [] then .ok x.1 else .error ⟨1,bs.length⟩):=rfl
   refine ⟨_,rfl,a,bs,10,rfl,⟨true,ha⟩,hlen,fun p ps H1 s1 p0 hp al=>?_⟩
   have sl:=split_len (m:=10) (b:=bs)
   rw [ML.linesOf_eq] at al sl
   generalize (linesOf bs).1 = init at al sl eB
   generalize (linesOf bs).2 = last at al sl eB
   have hps : ps.length = init.length + 1:=by rw [← al.len,List.length_append]; rfl
   have hinit : init.length≤8300:=by have:=sl.1; rw [List.length_append] at this; have : init.length + 1≤bs.length + 1:=this; omega
   intro x dx hx hdx hne
   refine ⟨x,dx,rfl,upd_same,fun A H2 eA eD ob hla hlr dat dwt n1 n2 la0 lr0 da0 dw0 kp2=>⟨rfl,?_⟩⟩
   have sx : Same H1 (upd (upd H1 dx (.own x)) x (.ins Cc dx [])):=((Same.refl H1).set hdx).set hx
   have s2 : Same H1 H2:=fun b o e=>kp2 b o (sx b o e) (ne_of_none e hx)
   have s02:=s1.trans s2
   have hc0 : CaseAt P w Cc C H2 Case.none_ A:=⟨ob,⟨[],hla,.nil⟩,⟨[],hlr,.nil⟩,⟨[],dat,List.nodup_nil,fun n=>⟨(fun z=>by cases z),(fun z=>by cases z)⟩⟩,⟨[],dwt,List.nodup_nil,fun u v=>⟨(fun z=>by cases z),(fun z=>(over_nil z).elim)⟩⟩,n1,n2⟩
   subst eA eD
   have f1 : ∀ {b : Addr},(upd (upd H1 A.dx (.own A.a)) A.a (.ins Cc A.dx [])) b = none→H1 b = none:=fun {b} e=>sx.free e
   refine ⟨_,rfl,_,rfl,_,rfl,p,_,rfl,SqL.of (s2 _ _ hp),fun q hq=>?_⟩
   rw [show (-(1 : Int)) = -1 from rfl,cut_init,← List.map_dropLast]
   have s3 : Same H2 (upd H2 q (.lst (ps.dropLast.map V.ref))):=Same.new hq
   have g3 : upd H2 q (.lst (ps.dropLast.map V.ref)) q = some (.lst (ps.dropLast.map V.ref)):=upd_same
   generalize upd H2 q (.lst (ps.dropLast.map V.ref)) = H3 at s3 g3 ⊢
   have s03:=s02.trans s3
   have s13:=s2.trans s3
   have hc3:=hc0.same s3
   have la1:=f1 la0
   have lr1:=f1 lr0
   have da1:=f1 da0
   have dw1:=f1 dw0
   have q1 : H1 q = none:=s2.free hq
   have qn : q≠A.la∧q≠A.lr∧q≠A.da∧q≠A.dw:=by
    obtain ⟨xsa,hxa⟩:=dat.some_
    obtain ⟨xsw,hxw⟩:=dwt.some_
    refine ⟨fun e=>?_,fun e=>?_,fun e=>?_,fun e=>?_⟩
    ·rw [e,hla] at hq; cases hq
    ·rw [e,hlr] at hq; cases hq
    ·rw [e,hxa] at hq; cases hq
    ·rw [e,hxw] at hq; cases hq
   have al3 : All2 (Wd H3) init ps.dropLast:=by
    have:=al.take init.length
    rw [List.take_append_of_le_length (Nat.le_refl _),List.take_length] at this
    rw [List.dropLast_eq_take,hps,Nat.add_sub_cancel]
    exact this.mono fun _ _ r=>r.mono s13.tups
   have out : ∀ H',Frm A H3 H'→Same H1 H':=fun H' fr b o e=>fr b o (s13 b o e) (ne_of_none e la1) (ne_of_none e lr1) (ne_of_none e da1) (ne_of_none e dw1)
   let Ho : Hp:=fun b=>if b = q then H3 q else none
   have so : ∀ H',Frm A H3 H'→Same Ho H':=fun H' fr b o e=>by
    have e' : (if b = q then H3 q else none) = some o:=e
    split at e'
    ·rename_i hb; rw [hb]; exact fr q o e' qn.1 qn.2.1 qn.2.2.1 qn.2.2.2
    ·cases e'
   have hoq : Ho q = some (.lst (ps.dropLast.map V.ref)):=by show (if q = q then H3 q else none) = _; rw [if_pos rfl]; exact g3
   have tupF : ∀ H',CaseAt P w Cc C H3 Case.none_ A→Frm A H3 H'→Tups H3 H':=fun H' hc fr b xs e=>by
    obtain ⟨_,⟨ls,l1,_⟩,⟨rs,r1,_⟩,⟨ks,a1,_⟩,⟨ws,w1,_⟩,_,_⟩:=hc
    obtain ⟨xsa,hxa⟩:=a1.some_
    obtain ⟨xsw,hxw⟩:=w1.some_
    exact fr b _ e (ne_of e l1 (by intro z; cases z)) (ne_of e r1 (by intro z; cases z)) (ne_of e hxa (by intro z; cases z)) (ne_of e hxw (by intro z; cases z))
   have leni : (ps.dropLast.map V.ref).length = init.length:=by rw [List.length_map]; exact al3.len.symm
   refine ⟨q,_,true,rfl,SqL.of g3,fun J S=>?_⟩
   refine for_gen (S Ho (SqL.of hoq)) (fun i σ H'=>∃ (v4 v5 : Option V) (c : Case) (pl : Nat),σ = [some (.ref a),some (.ref p),some (.ref A.a),some (vI pl),v4,v5]∧Frm A H3 H'∧CaseAt P w Cc C H' c A∧ML.Good c∧readFrom Case.none_ 0 init = readFrom c pl (init.drop i)) ?_ ?_ ?_ ?_
   ·rintro i σ H' ⟨_,_,_,_,_,fr,_⟩
    exact so H' fr
   ·exact ⟨none,none,Case.none_,0,rfl,fun b o e _ _ _ _=>e,hc3,ML.good_none,by rw [List.drop_zero]⟩
   ·rintro i y σ H' hi hy ⟨v4,v5,c,pl,rfl,fr,hc,gd,er⟩
    obtain ⟨b,hb,rfl⟩:=map_ref_get hy
    obtain ⟨l,hl,hlb⟩:=al3.get hb
    have hil : i < init.length:=(List.getElem?_eq_some_iff.mp hl).1
    have hlb' : Wd H' l b:=hlb.mono (tupF H' hc3 fr)
    have hll : l.length≤8300:=by have:=sl.2 l (List.mem_append_left _ (List.mem_of_getElem? hl)); omega
    have edrop : init.drop i = l :: init.drop (i + 1):=by
     rw [List.drop_eq_getElem_cons hil]
     rw [List.getElem?_eq_getElem hil] at hl
     rw [Option.some.inj hl]
    rw [edrop,readFrom_step] at er
    refine ⟨_,rfl,_,rfl,A,c,b,l,rfl,hc,gd,hlb',hll,fun H4 fr4 hc4=>?_⟩
    refine ⟨_,rfl,rfl,_,rfl,?_⟩
    rw [show V.int 0 = vI 0 from rfl,vI_eq]
    by_cases k0 : kindOf c (lineIn l) = 0
    ·rw [decide_eq_true k0]
     rw [if_pos k0] at er
     have hlb4 : Wd H4 l b:=by
      have fr':=fr.trans fr4
      exact hlb.mono (tupF H4 hc3 fr')
     refine iteF ⟨_,rfl,_,rfl,b,_,rfl,.inr (SqT.of hlb4.tup),_,_,rfl,rfl,_,_,rfl,rfl,?_⟩
     refine ⟨some (.ref b),some (vI (kindOf c (lineIn l))),(stepLine c (lineIn l)).2,pl + l.length + 1,?_,fr.trans fr4,hc4,good_step gd k0,er⟩
     rw [List.length_map]
     show [some (V.ref a),some (V.ref p),some (V.ref A.a),some (V.int ((pl : Int) + ((l.length : Int) + 1))),_,_] = _
     have : ((pl : Int) + ((l.length : Int) + 1)) = ((pl + l.length + 1 : Nat) : Int):=by omega
     rw [this]
     rfl
    ·rw [decide_eq_false k0]
     rw [if_neg k0] at er
     refine iteT ⟨_,rfl,_,rfl,?_⟩
     refine mk H4 _ _ _ _ (Kpt.of (s1.trans (out H4 (fr.trans fr4)))) fun H5 p5 dx5 s5 e5=>?_
     rw [eR,eB,er]
     exact ⟨dx5,_,e5⟩
   ·rintro σ H' ⟨v4,v5,c,pl,rfl,fr,hc,gd,er⟩
    rw [leni,List.drop_length] at er
    have er : readFrom Case.none_ 0 init = .ok (c,pl):=er
    have s1':=out H' fr
    have W : All2 (Wd H') (init ++ [last]) ps:=al.mono fun _ _ r=>r.mono s1'.tups
    obtain ⟨bl,hbl2,hwl⟩:=W.get' (i:=init.length) (x:=last) (by rw [List.getElem?_append_right (Nat.le_refl _),Nat.sub_self]; rfl)
    have atl : atI (ps.map V.ref) (-(1 : Int)) = some (.ref bl):=by
     rw [show (-(1 : Int)) = -((1 : Nat) : Int) from rfl,atI_neg (by decide) (by rw [List.length_map]; omega),List.length_map,hps,Nat.add_sub_cancel,List.getElem?_map,hbl2]
     rfl
    refine ⟨_,rfl,_,rfl,p,_,_,_,rfl,rfl,SqL.of (s1' _ _ hp),atl,bl,_,rfl,.inr (SqT.of hwl.tup),_,_,rfl,rfl,_,rfl,?_⟩
    rw [List.length_map]
    refine ite2 (fun h2=>?_) (fun h2=>?_)
    ·have h2 : (0 : Int) < (last.length : Int):=of_decide_eq_true h2
     have nl : ¬ last = []:=fun z=>by rw [z] at h2; exact absurd h2 (by decide)
     refine ⟨_,rfl,a,_,rfl,.inl ((s1.trans s1').seq ha),?_⟩
     rw [hbl]
     refine mk H' _ _ _ _ (Kpt.of (s1.trans s1')) fun H5 p5 dx5 s5 e5=>?_
     rw [eR,eB,er]
     simp only [if_neg nl]
     exact ⟨dx5,_,e5⟩
    ·have h2 : ¬ (0 : Int) < (last.length : Int):=fun z=>h2 (decide_eq_true z)
     have nl : last = []:=List.eq_nil_of_length_eq_zero (by omega)
     have nm : ML.Named c:=ML.readFrom_named (fun r hr=>by cases hr) er
     refine ⟨_,rfl,A,c,rfl,hc,gd,fun r hr z=>?_,(s1.trans s1') _ _ hPt,fun H6 la lr kp6 hc6=>⟨_,rfl,?_⟩⟩
     ·have:=(nm r hr).name
      rw [z] at this
      exact absurd this (by decide)
     have xa : ∀ b o,H b = some o→b≠A.a:=fun b o e=>ne_of_none (s1 _ _ e) hx
     refine mk H6 _ _ _ _ (fun b o hb e=>kp6 b o (xa b o e) hb ((s1.trans s1') _ _ e)) fun H5 p5 dx5 s5 e5=>?_
     rw [eR,eB,er]
     simp only [if_pos nl]
     exact ⟨dx5,{ A with la:=la,lr:=lr },_,_,e5,hc6.same s5,gd⟩
end
end SC
end
section
set_option maxRecDepth 100000
set_option maxHeartbeats 4000000
namespace GL
open PySem PySem.Spec PyProof.Rows L2 L3
theorem ints_inj : ∀ {vs : List Value} {ns ms : List Int},IntsAre vs ns→IntsAre vs ms→ns = ms:=fun h k=>by
 have e:=Vals.inj (vals_ints h) (vals_ints k)
 exact (List.map_inj_right (fun x y z=>by injection z)).mp e
def LA (h : Heap) (b : Addr) (ns : List Int) : Prop:=∃ vs : List Value,h.get? b = some { cls:=.type "list",data:=.seq vs.toArray }∧IntsAre vs ns∧ns.length≤sizeLine
theorem LA.inj {h : Heap} {b : Addr} {ns ms : List Int} (x : LA h b ns) (y : LA h b ms) : ns = ms:=by
 obtain ⟨vs,h1,h2,_⟩:=x
 obtain ⟨us,k1,k2,_⟩:=y
 rw [h1] at k1
 have e : vs.toArray = us.toArray:=by injection k1 with k1; injection k1 with _ _ k1; injection k1
 have e : vs = us:=by have:=congrArg Array.toList e; simpa using this
 subst e
 exact ints_inj h2 k2
open Classical in
def HA (K : PySem.W.Frag) (h : Heap) (as : List Addr) : Hp:=fun b =>
 if hx : b∈as∧K.lookup b = none∧∃ ns,LA h b ns then (match h.get? b with | some o=>some (.frz o (.lst (hx.2.2.choose.map V.int))) | none=>none) else none
theorem HA_at {K : PySem.W.Frag} {h : Heap} {as : List Addr} {b : Addr} {ns : List Int} (hb : b∈as) (hK : K.lookup b = none) (l : LA h b ns) : ∃ o,h.get? b = some o∧HA K h as b = some (.frz o (.lst (ns.map V.int))):=by
 have hx : b∈as∧K.lookup b = none∧∃ ns,LA h b ns:=⟨hb,hK,ns,l⟩
 obtain ⟨vs,e,_⟩:=id l
 refine ⟨_,e,?_⟩
 unfold HA
 rw [dif_pos hx,e]
 have : hx.2.2.choose = ns:=hx.2.2.choose_spec.inj l
 simp only [this]
theorem HA_inv {K : PySem.W.Frag} {h : Heap} {as : List Addr} {b : Addr} {u : HO} (e : HA K h as b = some u) : ∃ ns o,K.lookup b = none∧LA h b ns∧h.get? b = some o∧u = .frz o (.lst (ns.map V.int)):=by
 by_cases hx : b∈as∧K.lookup b = none∧∃ ns,LA h b ns
 ·obtain ⟨ns,l⟩:=hx.2.2
  obtain ⟨o,e1,e2⟩:=HA_at (as:=as) hx.1 hx.2.1 l
  rw [e2] at e
  exact ⟨ns,o,hx.2.1,l,e1,(Option.some.inj e).symm⟩
 ·unfold HA at e
  rw [dif_neg hx] at e
  cases e
theorem HA_ok {P : Program} {w : World} {K : PySem.W.Frag} {h : Heap} {as : List Addr} : HOk P w (HA K h as) h:=fun b u e=>by
 obtain ⟨ns,o,_,⟨vs,h1,h2,h3⟩,e1,rfl⟩:=HA_inv e
 rw [h1] at e1
 cases e1
 exact ⟨h1,by rw [List.length_map]; exact h3,vs,0,vals_ints h2,h1⟩
theorem HA_seq {K : PySem.W.Frag} {h : Heap} {as : List Addr} {b : Addr} {ns : List Int} (KX : K.In h) (hb : b∈as) (l : LA h b ns) : SqL K (HA K h as) b (ns.map V.int):=by
 cases hK : K.lookup b with
 | none =>
  obtain ⟨o,_,e⟩:=HA_at (as:=as) hb hK l
  exact .inl (.inr ⟨o,e⟩)
 | some o =>
  obtain ⟨vs,h1,h2,h3⟩:=l
  have e:=KX b o hK
  rw [h1] at e
  cases e
  have lv:=h2.length
  exact .inr ⟨_,vs.toArray,_,hK,rfl,rfl,rfl,by rw [List.size_toArray,lv]; exact h3,by simpa using vals_ints h2⟩
def HT0 (K : PySem.W.Frag) (h : Heap) (as : List Addr) (Pt : Addr) : Hp:=upd (HA K h as) Pt (.tbl #[])
section
variable {K : PySem.W.Frag} {h : Heap} {as : List Addr} {Pt : Addr}
theorem HA_tab (hT : h.get? Pt = some (PySem.W.tabObj #[])) : HA K h as Pt = none:=by
 cases q : HA K h as Pt with
 | none=>rfl
 | some u =>
  obtain ⟨ns,o',_,⟨vs,h1,_⟩,_,_⟩:=HA_inv q
  rw [h1] at hT
  injection hT with hT
  injection hT with hT
  cases hT
theorem HT0_ne (hT : h.get? Pt = some (PySem.W.tabObj #[])) {b : Addr} {u : HO} (e : HA K h as b = some u) : HT0 K h as Pt b = some u:=by
 unfold HT0
 rw [upd_ne (fun z=>by rw [z,HA_tab hT] at e; cases e)]; exact e
theorem HT0_inv {b : Addr} {u : HO} (e : HT0 K h as Pt b = some u) : (b = Pt∧u = .tbl #[])∨(b≠Pt∧HA K h as b = some u):=by
 unfold HT0 at e
 by_cases z : b = Pt
 ·subst z; rw [upd_same] at e; cases e; exact .inl ⟨rfl,rfl⟩
 ·rw [upd_ne z] at e; exact .inr ⟨z,e⟩
theorem HT0_ok {P : Program} {w : World} (hT : h.get? Pt = some (PySem.W.tabObj #[])) : HOk P w (HT0 K h as Pt) h:=fun b u e=>by
 rcases HT0_inv e with ⟨rfl,rfl⟩ | ⟨_,e⟩
 ·exact hT
 ·refine (HA_ok b u e).stay (fun _ _ _ q=>q) (fun c q=>HT0_ne hT q) fun c xs q=>HT0_ne hT q
theorem HT0_none (hT : h.get? Pt = some (PySem.W.tabObj #[])) {b : Addr} {o : Obj} (e : h.get? b = some o) (hs : ∀ xs n,o.data≠.seq xs n) (hn : b≠Pt) : HT0 K h as Pt b = none:=by
 unfold HT0
 rw [upd_ne hn]
 cases q : HA K h as b with
 | none=>rfl
 | some u =>
  obtain ⟨ns,o',_,⟨vs,h1,_⟩,_,_⟩:=HA_inv q
  rw [h1] at e
  cases e
  exact absurd rfl (hs _ _)
end
def noTabs (K : PySem.W.Frag) : Bool:=K.all fun p=>match p.2.cls,p.2.data with
 | .none,.fields _=>false
 | _,_=>true
theorem lookup_mem {a : Addr} {o : Obj} : ∀ {K : List (Addr × Obj)},K.lookup a = some o→(a,o)∈K
 | [],h=>by cases h
 | (b,u) :: K,h=>by
  rw [List.lookup_cons] at h
  by_cases e : (a == b) = true
  ·rw [e] at h
   cases h
   rw [eq_of_beq e]; exact List.mem_cons_self
  ·have e' : (a == b) = false:=by simpa using e
   rw [e'] at h
   exact List.mem_cons_of_mem _ (lookup_mem h)
theorem noTabs_none {K : PySem.W.Frag} {h : Heap} {Pt : Addr} (KX : K.In h) (hN : noTabs K = true) (hT : h.get? Pt = some (PySem.W.tabObj #[])) : K.lookup Pt = none:=by
 cases e : K.lookup Pt with
 | none=>rfl
 | some o =>
  have e2:=KX _ _ e
  rw [hT] at e2
  cases e2
  have:=List.all_eq_true.mp hN _ (lookup_mem e)
  exact absurd (show false = true from this) Bool.false_ne_true
theorem spec_core {P : Program} {w : World} {K : PySem.W.Frag} {mg mb : Str→Option Value} {k : Nat} {fa : Addr} {fd : FuncData} {ps : List Str} {sp : Sp} {s : Shared} {c Pt : Addr} (KX : K.In s.heap) (hns : s.heap.Ns mainGlobals mg) (hb : s.heap.Ns builtinsNs mb) (hbb : ∀ x : Str,x≠"__name__"→mb x = bootBuiltins x) (hlim : s.heap.NoLimit) (hg : s.gens = #[])
 (hT : s.heap.TableAt c Pt #[]) (hC : PySem.W.CodeHd s.heap c Pt) (hKP : K.lookup Pt = none) (hB : s.heap.BuiltinsAt mg Pt)
 (as : List Addr) {us : List Value} {vs : List V} (rv : Vals vs us) (hr : Room k callerA) (F : ∀ base : Heap,K.In base→base.Ns mainGlobals mg→SC.TabOk mg base c Pt→FnOk P w K mg base CX0 k fa fd ps sp) (hbind : BindsTo s fd ⟨us,[]⟩ (ps.zip us)) (Q : VK) (hsp : sp vs (HT0 K s.heap as Pt) Q E0) :
 codeAny (model P w) callerA (.call (.ref fa) ⟨us,[]⟩) (fun r s'=>(∃ u v H',r = .ok (.ret u)∧RelV v u∧HOk P w H' s'.heap∧Q v H')∧OldK s.heap s'.heap∧s'.os = s.os∧AllBare s'.gens) s:=by
 have hP:=hT.2
 have hok : HOk P w (HT0 K s.heap as Pt) s.heap:=HT0_ok hP
 have base_of : ∀ {b : Addr} {o : Obj},s.heap.get? b = some o→HT0 K s.heap as Pt b = none→(hidT s.heap (HT0 K s.heap as Pt)).get? b = some o:=fun e n=>hidT_get e n
 have noA : ∀ {b : Addr} {o : Obj} {es : Array DictEntry} {ep : Nat},s.heap.get? b = some o→o.data = .dict es ep→HT0 K s.heap as Pt b = none:=fun {b o es ep} e d =>
  HT0_none hP e (fun xs n z=>by rw [d] at z; cases z) fun z=>by rw [z,hP] at e; cases e; cases d
 have nsK : ∀ {b : Addr} {m : Str→Option Value},s.heap.Ns b m→(hidT s.heap (HT0 K s.heap as Pt)).Ns b m:=fun {b m} ⟨o,es,ep,e,d,r⟩=>⟨o,es,ep,base_of e (noA e d),d,r⟩
 have hKb : K.In (hidT s.heap (HT0 K s.heap as Pt)):=fun b o e=>base_of (KX b o e) (by
  cases q : HT0 K s.heap as Pt b with
  | none=>rfl
  | some u =>
   rcases HT0_inv q with ⟨rfl,rfl⟩ | ⟨_,q⟩
   ·rw [hKP] at e; cases e
   ·obtain ⟨ns,o',hK,_⟩:=HA_inv q
    rw [hK] at e
    cases e)
 have hTB : SC.TabOk mg (hidT s.heap (HT0 K s.heap as Pt)) c Pt:=by
  refine ⟨?_,?_,?_⟩
  ·obtain ⟨o,vs,file,tf,flags,tg,inF,text,tt,h1,h2,h3,r⟩:=id hC
   exact ⟨o,vs,file,tf,flags,tg,inF,text,tt,base_of h1 (HT0_none hP h1 (fun xs n z=>by rw [h3] at z; cases z) r.2.2.2.2.2.2),h2,h3,r⟩
  ·obtain ⟨bm,o,b1,b2,b3,b4,b5,b6,b7,b8⟩:=hB
   exact ⟨bm,o,b1,b2,b3,b4,base_of b5 (HT0_none hP b5 (fun xs n z=>by rw [b8] at z; cases z) b4),b6,b7,b8⟩
  ·intro z
   obtain ⟨o,es,ep,e,d,_⟩:=hns
   rw [z,hP] at e
   cases e; cases d
 have hM : Mod K mg (hidT s.heap (HT0 K s.heap as Pt)):=⟨hKb,nsK hns,⟨mb,nsK hb,hbb⟩,let ⟨mc,h1,h2⟩:=hlim; ⟨mc,nsK h1,h2⟩⟩
 have e0 : Env0 P w K mg (hidT s.heap (HT0 K s.heap as Pt)) callerA [] s (HT0 K s.heap as Pt):=⟨rfl,hM,fun b o e=>of_hidT e,Nat.le_of_eq (hidT_size _ _),trivial,fun b hb=>absurd (show b∈([] : List Addr) from hb) (by simp),hok,.of_eq hg⟩
 refine codeAny_mono ((F _ hKb (nsK hns) hTB).run callerA [] s (HT0 K s.heap as Pt) ⟨us,[]⟩ us vs Q _ hr e0 hbind rv hsp) fun r s' h=>?_
 cases r with
 | error e=>exact False.elim h
 | ok fl =>
  cases fl with
  | next=>exact False.elim h
  | brk=>exact False.elim h
  | cont=>exact False.elim h
  | ret u =>
   obtain ⟨v,H',os,bare,un,hok',r',q⟩:=h
   refine ⟨⟨u,v,H',rfl,r',hok',q⟩,⟨fun b o e=>?_,fun b o e=>un.there b o e (by simp)⟩,os,bare⟩
   cases q : HT0 K s.heap as Pt b with
   | none=>exact .inl (un.keep b o e q (by intro z; exact absurd (show b∈([] : List Addr) from z) (by simp)) (by simp))
   | some u =>
    rcases HT0_inv q with ⟨rfl,rfl⟩ | ⟨_,q'⟩
    ·obtain ⟨more,z2⟩:=un.tbls b _ q
     have z3 : s'.heap.get? b = some { cls:=.none,data:=.fields (#[] ++ more) }:=hok' b _ z2
     rw [hP] at e
     cases e
     exact .inr (.inl ⟨hT.isCodeTable,rfl,#[],more,rfl,z3⟩)
    ·obtain ⟨ns,ob,_,_,e1,rfl⟩:=HA_inv q'
     have z2:=un.frzs b ob _ q
     obtain ⟨e2,_⟩:=hok' b _ z2
     rw [e1] at e
     cases e
     exact .inl e2
theorem readsW_ints {R : PySem.W.WRecords} {cl : Str→Option Addr} {h : Heap} : ∀ {res : List Int} {us : List Value},Vals (res.map V.int) us→PySem.W.ReadsAllW R cl h us (res.map PySem.W.WData.int) []
 | [],_,r=>by rw [List.map_nil] at r; cases r; exact .nil
 | i :: res,_,r=>by
  rw [List.map_cons] at r
  cases r with
  | cons r1 r2 =>
   obtain ⟨t,rfl⟩:=r1
   exact .cons (as:=[]) (bs:=[]) (.int i t) (readsW_ints r2)
theorem readsW_list {P : Program} {w : World} {cl : Str→Option Addr} {H : Hp} {h : Heap} {p : Addr} {res : List Int} (hok : HOk P w H h) (e : H p = some (.lst (res.map V.int))) : ∃ as,PySem.W.ReadsW [] cl h (.ref p) (.list (res.map PySem.W.WData.int)) as:=by
 obtain ⟨_,its,n,rv,ho⟩:=(show ObjOk P w H h p (.lst (res.map V.int)) from hok p _ e)
 exact ⟨_,.list ho rfl rfl (by simpa using readsW_ints rv)⟩
end GL
end
section
set_option maxRecDepth 100000
set_option maxHeartbeats 4000000
namespace GL
open PySem PySem.Spec PyProof.Rows L2 L3
abbrev Arg:=Int ⊕ List Int
def wd : Arg→PySem.W.WData
 | .inl i=>.int i
 | .inr ns=>.list (ns.map PySem.W.WData.int)
def ArgIs (K : PySem.W.Frag) (H : Hp) : Arg→V→Prop
 | .inl i,v=>v = .int i
 | .inr ns,v=>∃ a,v = .ref a∧SqL K H a (ns.map V.int)
def ArgAt (h : Heap) (as : List Addr) : Arg→V→Prop
 | .inl i,v=>v = .int i
 | .inr ns,v=>∃ a,v = .ref a∧a∈as∧LA h a ns
theorem ArgAt.more {h : Heap} {as bs : List Addr} (hs : ∀ a∈as,a∈bs) : ∀ {x : Arg} {v : V},ArgAt h as x v→ArgAt h bs x v
 | .inl _,_,h=>h
 | .inr _,_,⟨a,e,hm,l⟩=>⟨a,e,hs a hm,l⟩
theorem paired_imp {α β : Type} {R S : α→β→Prop} (h : ∀ x b,R x b→S x b) : ∀ {xs : List α} {bs : List β},Paired R xs bs→Paired S xs bs
 | _,_,.nil=>.nil
 | _,_,.cons r t=>.cons (h _ _ r) (paired_imp h t)
theorem args_of {P : Params} {h : Heap} : ∀ (xs : List Arg) (vals : List Value),PySem.W.WellAll P h vals (xs.map wd)→(∀ ns,Sum.inr ns∈xs→ns.length≤sizeLine)→∃ vs as,Vals vs vals∧Paired (ArgAt h as) xs vs
 | [],_,hw,_=>by
  rw [List.map_nil] at hw
  cases hw
  exact ⟨[],[],.nil,.nil⟩
 | x :: xs,_,hw,hl=>by
  rw [List.map_cons] at hw
  cases hw with
  | @cons v vals' _ _ w1 w2 =>
   obtain ⟨vs,as,rv,pr⟩:=args_of xs _ w2 fun ns hm=>hl ns (List.mem_cons_of_mem _ hm)
   cases x with
   | inl i =>
    cases w1
    exact ⟨.int i :: vs,as,.cons ⟨_,rfl⟩ rv,.cons rfl pr⟩
   | inr ns =>
    cases w1 with
    | @list a us _ ho hall =>
     refine ⟨.ref a :: vs,a :: as,.cons rfl rv,.cons ⟨a,rfl,List.mem_cons_self,us,ho,Att.ints_of_wellAll ns _ hall,hl ns List.mem_cons_self⟩ (paired_imp (fun _ _ z=>z.more fun b hb=>List.mem_cons_of_mem _ hb) pr)⟩
theorem HT0_seq {K : PySem.W.Frag} {h : Heap} {as : List Addr} {b Pt : Addr} {ns : List Int} (KX : K.In h) (hT : h.get? Pt = some (PySem.W.tabObj #[])) (hb : b∈as) (l : LA h b ns) : SqL K (HT0 K h as Pt) b (ns.map V.int):=by
 rcases HA_seq KX hb l with (h1 | ⟨o,h1⟩) | h2
 ·exact .inl (.inl (HT0_ne hT h1))
 ·exact .inl (.inr ⟨o,HT0_ne hT h1⟩)
 ·exact .inr h2
def CodeOf (mg : Str→Option Value) (h : Heap) (x : Str) (c : Addr) : Prop:=∃ a o fd,mg x = some (.ref a)∧h.get? a = some o∧o.data = .func fd∧fd.code = .ref c
theorem walk_args {r : PySem.W.OpenSpec} {q : Program} {loose : List Str} {XP : (Str→Option Value)→Heap→Prop} {YP : World→Heap→Prop} {d : DefRec} {K : Params→PySem.W.Frag} {k : Nat} {x0 : Str} {ps : List Str} {sp : World→PySem.W.Frag→Addr→Sp} {f : List Arg→List Int} {ok : List Arg→Prop}
 (hr : Room k callerA) (hY : ∀ (w : World) (h : Heap),YP w h→(K w.params).In h) (hN : ∀ P : Params,noTabs (K P) = true) (hx : ((recsOf q).any fun d=>d.name == x0) = true)
 (hargs : ∀ args,r.pre args = true→∃ xs : List Arg,args = xs.map wd∧ok xs∧xs.length = ps.length∧(∀ ns,Sum.inr ns∈xs→ns.length≤sizeLine)∧r.post args (.list ((f xs).map PySem.W.WData.int)) = true)
 (hsp : ∀ (w : World) (K : PySem.W.Frag) (H : Hp) (Pt : Addr) (xs : List Arg) (vs : List V),ok xs→H Pt = some (.tbl #[])→Paired (ArgIs K H) xs vs→sp w K Pt vs H (fun v H'=>∃ p,v = .ref p∧H' p = some (.lst ((f xs).map V.int))) E0)
 (F : ∀ (w : World) (mg : Str→Option Value) (fa : Addr) (h : Heap) (c Pt : Addr),(K w.params).In h→h.Ns mainGlobals mg→mg d.name = some (.ref fa)→CodeOf mg h x0 c →
  ∃ fd : FuncData,Binds (K w.params) fd ps []∧∀ base : Heap,(K w.params).In base→base.Ns mainGlobals mg→SC.TabOk mg base c Pt→FnOk r.prog w (K w.params) mg base CX0 k fa fd ps (sp w (K w.params) Pt)) :
 PySem.W.WalkOS q loose XP YP r d [] (fun f vs=>PySem.call f vs):=by
 intro w s₀ s₁ mg mb G Y fa o pm cd doc dV kV ho hd hcd hD hmg hg args vals as hpre hlay hrd hwl hlo
 obtain ⟨xs,rfl,hok,hlen,hl,hpost⟩:=hargs args hpre
 have KX:=hY w _ Y
 obtain ⟨d0,hd0,en⟩:=List.any_eq_true.mp hx
 obtain ⟨a0,o0,fd0,c,Pt,t1,t2,t3,t4,t5,t6⟩:=G.T.tab d0 hd0
 rw [eq_of_beq en] at t1
 have hP:=t6.2
 have hB : s₁.heap.BuiltinsAt mg Pt:=by
  obtain ⟨bm,ob,b1,b2,b3,b4,b5,b6⟩:=G.T.bmain
  obtain ⟨og,es,ep,eg,dg,_⟩:=G.T.g
  refine ⟨bm,ob,b1,b2,fun z=>?_,fun z=>?_,b3,b4,b5,b6⟩
  ·rw [z,eg] at b3; cases b3; rw [dg] at b6; cases b6
  ·rw [z,hP] at b3; cases b3; cases b6
 obtain ⟨fd,hbind,hF⟩:=F w mg fa _ c Pt KX G.T.g hmg ⟨a0,o0,fd0,t1,t2,t3,t4⟩
 obtain ⟨vs,bs,rv,pr⟩:=args_of xs vals hwl hl
 have pr2 : Paired (ArgIs (K w.params) (HT0 (K w.params) s₁.heap bs Pt)) xs vs:=paired_imp (fun x v z=>by
  cases x with
  | inl i=>exact z
  | inr ns=>exact let ⟨a,e,hm,l⟩:=z; ⟨a,e,HT0_seq KX hP hm l⟩) pr
 have l1 : vals.length = ps.length:=by
  have:=rv.length
  have:=Paired.length pr
  omega
 have hb : BindsTo s₁ fd ⟨vals,[]⟩ (ps.zip vals):=by
  have:=hbind s₁ vals KX (by rw [List.append_nil]; exact l1)
  rw [List.append_nil] at this
  exact this
 refine PySem.W.enter_call (codeAny_mono (spec_core KX G.T.g G.T.b G.T.builtins G.T.nolimit hg t6 (PySem.W.CodeHd.of t5 t6) (noTabs_none KX (hN _) hP) hB bs rv hr hF hb _ (hsp w _ _ Pt xs vs hok upd_same pr2)) fun res s' hq=>?_)
 obtain ⟨⟨u,v,H',rfl,rv2,hok2,p,rfl,hp⟩,h2,h3,h4⟩:=hq
 cases rv2
 obtain ⟨as',hrw⟩:=readsW_list (cl:=_) hok2 hp
 exact ⟨.inl ⟨_,_,as',rfl,(fun _=>rfl),hrw,hpost,fun z=>by cases z⟩,h2,h3,h4⟩
end GL
namespace SC
open PySem PySem.W L2 L3 Mo
section
variable {K : PySem.W.Frag} {mg : Str→Option Value} {h : Heap}
theorem defAt_mk (X : K.In h) (G : h.Ns mainGlobals mg) {x : Str} {st : Stmt} {ps : List Str} {f : Addr} {oc kV doc pm cdv ct : Value} {od an : Option Addr} {sl : Array (Option Value)} (a : PySem.W.nsIn K mainGlobals x = some (some (.ref f)))
 (l : K.lookup f = some ⟨oc,od,.func (PySem.W.fnOf x x (defArgs st) (defBody st) (defScope st) .none kV doc pm an cdv ct),sl⟩) (c : PySem.W.codeIn K cdv x = true) (k : PySem.W.keepIn K (.ref f) = true)
 (hb : ∀ (kV doc pm : Value) (an : Option Addr) (cdv ct : Value) (us : List Value),us.length = ps.length→bindArgs (PySem.W.fnOf x x (defArgs st) (defBody st) (defScope st) .none kV doc pm an cdv ct) ⟨us,[]⟩ = pure (ps.zip us)) : DefAt K mg x st ps :=
 let F:=fun_mk (st:=st) l c k
 ⟨f,_,F,F.binds hb,PySem.W.mg_of X G a⟩
theorem clsDef_mk (X : K.In h) (G : h.Ns mainGlobals mg) {x q : Str} {st : Stmt} {C : Addr} {ps : List Str} {f : Addr} {oc kV doc pm cdv ct : Value} {od an : Option Addr} {sl : Array (Option Value)} (a : PySem.W.nsIn K mainGlobals x = some (some (.ref C))) (i : PySem.W.findIn K (.ref C) "__init__" = some (some (.ref f))) (fn : PySem.W.isFn K (.ref f) = true)
 (l : K.lookup f = some ⟨oc,od,.func (PySem.W.fnOf "__init__" q (defArgs st) (defBody st) (defScope st) .none kV doc pm an cdv ct),sl⟩) (c : PySem.W.codeIn K cdv q = true) (k : PySem.W.keepIn K (.ref f) = true) (mk : PySem.W.makesIn K C = true) (kc : PySem.W.keepIn K (.ref C) = true)
 (hb : ∀ (kV doc pm : Value) (an : Option Addr) (cdv ct : Value) (us : List Value),us.length = ps.length→bindArgs (PySem.W.fnOf "__init__" q (defArgs st) (defBody st) (defScope st) .none kV doc pm an cdv ct) ⟨us,[]⟩ = pure (ps.zip us)) : ClsDef K mg x q st C ps :=
 let F:=fun_mk (st:=st) l c k
 ⟨f,_,⟨mk,i,fn,kc⟩,F,PySem.W.mg_of X G a,F.binds hb⟩
theorem defC_of (X : K.In h) {x : Str} {st : Stmt} {ps : List Str} {c : Addr} (D : DefAt K mg x st ps) (hc : GL.CodeOf mg h x c) : DefC K mg x st ps c:=by
 obtain ⟨f,fd,F,b,m⟩:=D
 obtain ⟨a,o,fd',e1,e2,e3,e4⟩:=hc
 rw [m] at e1
 cases e1
 obtain ⟨oc,od,kV,doc,pm,an,cdv,ct,osl,rfl,l,cd⟩:=F.ex
 have e5:=X _ _ l
 rw [e2] at e5
 cases e5
 cases e3
 have e4 : cdv = .ref c:=e4
 subst e4
 exact ⟨f,_,⟨oc,od,kV,doc,pm,an,ct,osl,rfl,l,cd,F.kp⟩,b,m⟩
theorem gI_mk (X : K.In h) (G : h.Ns mainGlobals mg) {x : Str} {i : Int} {t : Tok} (a : PySem.W.nsIn K mainGlobals x = some (some (.int i t))) : gI mg x i:=⟨t,PySem.W.mg_of X G a⟩
theorem gS_mk (X : K.In h) (G : h.Ns mainGlobals mg) {x y : Str} {t : Tok} (a : PySem.W.nsIn K mainGlobals x = some (some (.str y t))) : gS mg x y:=⟨t,PySem.W.mg_of X G a⟩
theorem noAttr_mk {K : Frag} {C : Addr} {f : Str} (h : PySem.W.findIn K (.ref C) f = some none) : NoAttr K C f:=h
end
theorem us1 {p : List Value→Prop} (h : ∀ a,p [a]) : ∀ us : List Value,us.length = 1→p us
 | [a],_=>h a
theorem us2 {p : List Value→Prop} (h : ∀ a b,p [a,b]) : ∀ us : List Value,us.length = 2→p us
 | [a,b],_=>h a b
theorem us3 {p : List Value→Prop} (h : ∀ a b c,p [a,b,c]) : ∀ us : List Value,us.length = 3→p us
 | [a,b,c],_=>h a b c
theorem us4 {p : List Value→Prop} (h : ∀ a b c d,p [a,b,c,d]) : ∀ us : List Value,us.length = 4→p us
 | [a,b,c,d],_=>h a b c d
theorem us5 {p : List Value→Prop} (h : ∀ a b c d e,p [a,b,c,d,e]) : ∀ us : List Value,us.length = 5→p us
 | [a,b,c,d,e],_=>h a b c d e
end SC
end
section
set_option maxRecDepth 100000
set_option maxHeartbeats 4000000
namespace SC
open PySem L2 L3 Mo
def ansOf (bs : Bytes) (f : Case→MoA.Answer) : List Int:=MoANeutral.shown (MoA.ofCase bs f)
theorem ansOf_long {bs : Bytes} {f : Case→MoA.Answer} (h : 8192 < bs.length) : ansOf bs f = [-1]:=by
 unfold ansOf MoA.ofCase
 rw [if_pos (show TEXT < bs.length from h)]
 rfl
theorem ansOf_fault {bs : Bytes} {f : Case→MoA.Answer} {e : Fault} (h : ¬ 8192 < bs.length) (he : readBehind Case.none_ bs = .error e) : ansOf bs f = [-6]:=by
 unfold ansOf MoA.ofCase caseIn
 rw [if_neg (show ¬ TEXT < bs.length from h),he]
 rfl
theorem ansOf_ok {bs : Bytes} {f : Case→MoA.Answer} {d : Case} (h : ¬ 8192 < bs.length) (he : readBehind Case.none_ bs = .ok d) : ansOf bs f = MoANeutral.shown (f d.form):=by
 unfold ansOf MoA.ofCase caseIn
 rw [if_neg (show ¬ TEXT < bs.length from h),he]
 rfl
section
variable {P : Program} {w : World} {K : PySem.W.Frag}
def tRefuse (K : PySem.W.Frag) (j : Nat) : TS:=tIfS (tTest (tOp rNe (tFld K (tVar j) "refusal") (tC (.int 0)))) (tRet (tLst (tCons (tFld K (tVar j) "refusal") tNil))) tNext
theorem desk_open {Cc C Cr p : Addr} {j : Nat} {σ : St} {H1 : Hp} {bs : Bytes} {f : Case→MoA.Answer} {D : Ends} {tr : TS} (T : RdT K Cr) (hσ : σ[j]? = some (some (.ref p))) (rd : RdAt P w Cc C Cr H1 bs p)
 (kr : ∀ i : Int,ansOf bs f = [i]→∀ l,H1 l = none→D.rt (.ref l) (upd H1 l (.lst [.int i])))
 (ok : ∀ (d : Case) (dx : Addr) (A : CA) (kd pl : V),ansOf bs f = MoANeutral.shown (f d.form)→H1 p = some (.ins Cr dx (rdF (.int 0) (.ref A.a) kd pl))→CaseAt P w Cc C H1 (ML.ordC d) A→ML.Good d→ML.Named d→tr D σ H1) :
 tSeq (tRefuse K j) tr D σ H1:=by
 have bad : ∀ (dx : Addr) (i : Int) (c k pl : V),i≠0→ansOf bs f = [i]→H1 p = some (.ins Cr dx (rdF (.int i) c k pl))→tSeq (tRefuse K j) tr D σ H1:=fun dx i c k pl hi ea hp=>by
  refine ⟨_,hσ,p,Cr,dx,_,_,rfl,hp,T.cl,T.refusal,rdF_refusal _ _ _ _,rfl,_,rfl,?_⟩
  rw [decide_eq_false (fun z=>by injection z with z; exact hi z)]
  exact iteT ⟨_,hσ,p,Cr,dx,_,_,rfl,hp,T.cl,T.refusal,rdF_refusal _ _ _ _,(by show 1≤sizeLine; decide),fun l hl=>kr i ea l hl⟩
 unfold RdAt at rd
 by_cases h1 : 8192 < bs.length
 ·rw [if_pos h1] at rd
  obtain ⟨dx,c,kd,pl,hp⟩:=rd
  exact bad dx (-1) c kd pl (by decide) (ansOf_long h1) hp
 ·rw [if_neg h1] at rd
  cases e : readBehind Case.none_ bs with
  | error e' =>
   rw [e] at rd
   obtain ⟨dx,c,hp⟩:=rd
   exact bad dx (-6) c _ _ (by decide) (ansOf_fault h1 e) hp
  | ok d =>
   rw [e] at rd
   obtain ⟨dx,A,kd,pl,hp,hc,gd⟩:=rd
   refine ⟨_,hσ,p,Cr,dx,_,_,rfl,hp,T.cl,T.refusal,rdF_refusal _ _ _ _,rfl,_,rfl,?_⟩
   rw [decide_eq_true rfl]
   exact iteF (ok d dx A kd pl (ansOf_ok h1 e) hp hc gd (ML.read_named e))
end
end SC
end
section
set_option maxRecDepth 100000
set_option maxHeartbeats 4000000
namespace SC
open PySem L2 L3 Mo
abbrev sSetOf : Stmt:=top 6
abbrev sOutBy : Stmt:=top 7
theorem form_under {d : Case} (g : ML.Good d) : d.form.under = (ML.ordC d).under:=by
 unfold Case.under
 have e : ∀ x y,outweighs d.form.weighs x y = outweighs d.weighs x y:=fun x y=>by
  rw [Bool.eq_iff_iff,ML.outweighs_iff,ML.outweighs_iff]
  exact ML.over_form g.among g.round
 simp only [e]
 rfl
theorem boot_sum' : bootBuiltins "sum" = some (.builtin "sum"):=by decide +kernel
section
variable {P : Program} {w : World} {K : PySem.W.Frag} {mg : Str→Option Value} {base : Heap}
theorem sc_setOf : FnScope ["numbers","i"] ["numbers"] (defScope sSetOf):=⟨rfl,rfl,rfl,by decide +kernel,rfl,by decide +kernel,by decide +kernel⟩
def spSetOf (K : PySem.W.Frag) : Sp:=fun vs H Q _=>∃ (l : Addr) (ns : List Nat),vs = [.ref l]∧H l = some (.lst (ns.map vI))∧(∀ n∈ns,n≤1000)∧ns.length≤1000∧∀ H',Same H H'→Q (vI (ML.maskL ns)) H'
theorem sum_vI : ∀ l : List Nat,((l.map fun n=>((n : Nat) : Int)).sum : Int) = ((l.sum : Nat) : Int)
 | []=>rfl
 | x :: l=>by rw [List.map_cons,List.sum_cons,List.sum_cons,sum_vI l]; omega
theorem ok_setOf (Bsum : mg "sum" = none) (D : DefAt K mg "set_of" sSetOf ["numbers"]) : Has P w K mg base 1 "set_of" ["numbers"] (spSetOf K):=D.has fun f fd F=>by
 refine F.ok sc_setOf (fun vs H Q E h=>?_) (fun cdv A outer s H vs Q E hr h=>?_)
 ·obtain ⟨l,ns,rfl,_⟩:=h
  rfl
 ·obtain ⟨l,ns,rfl,hl,hb,hn,k⟩:=h
  refine ⟨_,pss_one (ps_ret (pe_callB (cr_sum rfl) rfl Bsum boot_sum' (pa_cons (pe_lc rfl sc_setOf.nd (pi_seq (pv 0)) (blkOk_by (own:=[("i",1)]) (by show blkC ["numbers","i"] (defScope sSetOf) _ _ = true; decide +kernel)) (fun _ _ _ _ _=>pg_name (i:=1) sc_setOf.nd rfl (Or.inl rfl)) (fun _ _ _ _ _=>pts_nil)
   (fun _ _ _ _ _=>pe_op op_shl pe_int (pv 1))) pa_nil))),?_⟩
  refine ⟨_,rfl,l,_,true,rfl,SqL.of hl,fun J S D hD=>?_⟩
  refine lc_map (S _ (SqL.of hl)) (fun i acc _=>acc = ((ns.take i).map fun n=>2 ^ n).map vI) (fun _ _ _ _ _ z=>z) hD (lt_size (by rw [List.length_map]; omega)) (fun _=>rfl) rfl ?_ ?_
  ·rintro i v acc H2 QA QB hi hv sm rfl ka kb
   obtain ⟨n,hn',rfl⟩:=map_vI_get hv
   refine ⟨_,rfl,_,_,rfl,rfl,⟨by omega,by have:=hb n (List.mem_of_getElem? hn'); omega,by decide⟩,ka _ _ (Same.refl _) ?_⟩
   rw [← take_snoc hn',List.map_append,List.map_append]
   congr 1
   show [V.int _] = [V.int _]
   congr 2
   rw [Int.one_mul,Int.toNat_natCast]
   push_cast
   rfl
  ·rintro ys H2 rfl hy sm
   rw [List.length_map,List.take_length] at hy
   refine ⟨D,(ns.map fun n=>2 ^ n).map fun n=>((n : Nat) : Int),rfl,SqL.of (by rw [hy,show ((ns.map fun n=>2 ^ n).map fun n=>((n : Nat) : Int)).map V.int = (ns.map fun n=>2 ^ n).map vI from by rw [List.map_map]; rfl]),?_⟩
   rw [sum_vI]
   exact k H2 sm
theorem sc_outBy : FnScope ["case","i","over","j","rule"] ["case","i"] (defScope sOutBy):=⟨rfl,rfl,rfl,by decide +kernel,rfl,by decide +kernel,by decide +kernel⟩
def spOutBy (P : Program) (w : World) (Cc C : Addr) : Sp:=fun vs H Q _=>∃ (A : CA) (c : Case) (i : Nat),vs = [.ref A.a,vI i]∧CaseAt P w Cc C H c A∧ML.Good c∧i < c.rules.length∧∀ H',Same H H'→Q (vI (c.under.getD i 0)) H'
theorem ok_outBy {Cc C : Addr} (Be : mg "enumerate" = none) (T : CsT K Cc) (TC : ClT K C) (D : DefAt K mg "outweighed_by" sOutBy ["case","i"]) (hS : Has P w K mg base 1 "set_of" ["numbers"] (spSetOf K)) : Has P w K mg base 2 "outweighed_by" ["case","i"] (spOutBy P w Cc C):=D.has fun f fd F=>by
 refine F.ok sc_outBy (fun vs H Q E h=>?_) (fun cdv A outer s H vs Q E hr h=>?_)
 ·obtain ⟨A,c,i,rfl,_⟩:=h
  rfl
 ·obtain ⟨A,c,i,rfl,hc,gd,hi,k⟩:=h
  refine ⟨_,pss_cons (ps_set (i:=2) sc_outBy.nd rfl (Or.inr rfl) (pe_fld (pe_ix ix_list (pe_fld (pv 0) rfl) (pv 1) (fun _ _=>rfl)) rfl))
   (pss_one (ps_ret (pe_has hS hr rfl (pa_cons (pe_lc rfl sc_outBy.nd (pi_enum rfl Be (pa_cons (pe_fld (pv 0) rfl) pa_nil)) (blkOk_by (own:=[("j",3),("rule",4)]) (by show blkC ["case","i","over","j","rule"] (defScope sOutBy) _ _ = true; decide +kernel)) (fun _ _ _ _ _=>show PG _ _ (gTup K 2 (gCons (gName 3) (gCons (gName 4) gNil))) from pg_tup rfl (pgs_cons (pg_name (i:=3) sc_outBy.nd rfl (Or.inl rfl)) (pgs_cons (pg_name (i:=4) sc_outBy.nd rfl (Or.inl rfl)) pgs_nil)))
    (fun _ _ _ _ _=>pts_one (pt_cmp (t:=tInD P w pairD true (tTup (tCons (tVar 2) (tCons (tFld K (tVar 4) "name") tNil))) (tFld K (tVar 0) "weights")) (pc_dn_in (D:=pairD) (room3 hr) (pe_tup (pa_cons (pv 2) (pa_cons (pe_fld (pv 4) rfl) pa_nil))) (pe_fld (pv 0) rfl)) (by rfl)))
    (fun _ _ _ _ _=>show PE _ _ (tVar 3) from pv 3)) pa_nil)))),?_⟩
  obtain ⟨ob,_,⟨rs,r1,r2⟩,_,⟨kw,w1,w2,w3⟩,_,_⟩:=id hc
  have el:=r2.len
  have hri : c.rules[i]? = some c.rules[i]:=List.getElem?_eq_getElem hi
  generalize c.rules[i] = r at hri
  obtain ⟨p,hp,hrp⟩:=r2.get' hri
  obtain ⟨dx,n,b,h,h1,h2,h3,h4⟩:=hrp
  refine ⟨_,rfl,A.a,Cc,A.dx,_,_,rfl,ob,T.cl,T.rules,csF_rules _ _ _ _,_,rfl,A.lr,_,_,.ref p,rfl,rfl,SqL.of r1,atI_nat (by rw [List.getElem?_map,hp]; rfl),p,C,dx,_,_,rfl,h1,TC.cl,TC.name,clF_name _ _ _,?_⟩
  refine ⟨_,rfl,A.a,Cc,A.dx,_,_,rfl,ob,T.cl,T.rules,csF_rules _ _ _ _,A.lr,_,rfl,SqL.of r1,fun D hD=>?_⟩
  have lenP : (rs.map V.ref).length = c.rules.length:=by rw [List.length_map]; exact el.symm
  have gr:=gd.rules
  let t : Nat→Bool:=fun j=>match c.rules[j]? with
   | some s=>outweighs c.weighs r.name s.name
   | none=>false
  refine lc_enum (xs:=rs.map V.ref) (fun H' s'=>SqL.of (s' _ _ r1)) (fun j acc _=>acc = ((List.range j).filter t).map vI) (fun _ _ _ _ _ z=>z) hD (lt_size (by rw [lenP]; omega)) (fun _ _=>rfl) rfl ?_ ?_
  ·rintro j v acc H2 QA QB hv sm rfl ka kb
   obtain ⟨q,hq,rfl⟩:=map_ref_get hv
   obtain ⟨r',hr3,hrq⟩:=r2.get hq
   obtain ⟨dx',n',b',h',g1,g2,g3,g4⟩:=hrq.same sm
   refine ⟨_,rfl,_,rfl,q,C,dx',_,_,rfl,g1,TC.cl,TC.name,clF_name _ _ _,(by show 2≤sizeLine; decide),fun tt ht=>?_⟩
   have st : Same H2 (upd H2 tt (.tup [.ref n,.ref n'])):=Same.new ht
   have s2:=sm.trans st
   refine ⟨_,rfl,A.a,Cc,A.dx,_,_,rfl,s2 _ _ ob,T.cl,T.weights,csF_weights _ _ _ _,A.dw,tt,kw.map pI,pI (r.name,r'.name),rfl,rfl,w1.same s2,Pr.of (p:=(r.name,r'.name)) upd_same (h2.mono s2.tups) (g2.mono st.tups),_,rfl,?_⟩
   have et : t j = decide ((r.name,r'.name)∈kw):=by
    show (match c.rules[j]? with | some s=>outweighs c.weighs r.name s.name | none=>false) = _
    rw [hr3]
    rw [Bool.eq_iff_iff,decide_eq_true_iff]
    exact ML.outweighs_iff.trans (w3 _ _).symm
   have er : (List.range (j + 1)).filter t = (List.range j).filter t ++ (if t j = true then [j] else []):=by
    rw [List.range_succ,List.filter_append]
    congr 1
    rw [List.filter_cons]
    rfl
   have ed : ∀ {i : Decidable (pI (r.name,r'.name)∈kw.map pI)},@decide _ i = t j:=fun {i}=>by
    rw [et]
    by_cases z : (r.name,r'.name)∈kw
    ·rw [decide_eq_true z]; exact dec_mpr (mem_pI.mpr z)
    ·rw [decide_eq_false z]
     cases e : @decide _ i with
     | false=>rfl
     | true=>exact absurd (mem_pI.mp (dec_mp e)) z
   rw [if_pos rfl,ed]
   refine ite2 (fun hz=>?_) (fun hz=>?_)
   ·refine ⟨_,rfl,ka _ _ st ?_⟩
    rw [er,if_pos hz,List.map_append]; rfl
   ·refine kb _ st ?_
    rw [er,if_neg hz,List.append_nil]
  ·rintro ys H2 rfl hy sm
   rw [lenP] at hy
   refine ⟨D,(List.range c.rules.length).filter t,rfl,hy,fun m hm=>?_,?_,fun H3 s3=>?_⟩
   ·have:=List.mem_range.mp (List.mem_filter.mp hm).1
    omega
   ·have:=List.length_filter_le t (List.range c.rules.length)
    rw [List.length_range] at this
    omega
   ·have:=k H3 (sm.trans s3)
    rw [ML.under_get hri] at this
    exact this
end
end SC
end
section
set_option maxRecDepth 100000
set_option maxHeartbeats 4000000
namespace SC
open PySem L2 L3 Mo
abbrev sHasRule : Stmt:=top 3
abbrev sNumSets : Stmt:=top 1
abbrev sRulesIn : Stmt:=top 5
abbrev sClausesWith : Stmt:=top 23
abbrev sFollowsFrom : Stmt:=top 24
theorem bit_held (S i : Nat) : decide (V.int (Builtin.bitAnd ((S : Int) / 2 ^ ((i : Nat) : Int).toNat) 1) = V.int 1) = held S i:=by
 rw [dec_int,PyProof.Rows.bitAnd_m1,Int.toNat_natCast]
 unfold held
 rw [Nat.testBit_eq_decide_div_mod_eq]
 have e : ((S : Int) / 2 ^ i % 2) = ((S / 2 ^ i % 2 : Nat) : Int):=by push_cast; rfl
 rw [e,Bool.beq_eq_decide_eq]
 exact decide_eq_decide.mpr ⟨fun z=>by omega,fun z=>by omega⟩
section
variable {P : Program} {w : World} {K : PySem.W.Frag} {mg : Str→Option Value} {base : Heap}
theorem sc_hasRule : FnScope ["chosen","i"] ["chosen","i"] (defScope sHasRule):=⟨rfl,rfl,rfl,by decide +kernel,rfl,by decide +kernel,by decide +kernel⟩
def spHasRule : Sp:=fun vs H Q _=>∃ (S i : Nat),vs = [vI S,vI i]∧Q (.bl (held S i)) H
theorem ok_hasRule (D : DefAt K mg "has_rule" sHasRule ["chosen","i"]) : Has P w K mg base 1 "has_rule" ["chosen","i"] spHasRule:=D.has fun f fd F=>by
 refine F.ok sc_hasRule (fun vs H Q E h=>?_) (fun cdv A outer s H vs Q E hr h=>?_)
 ·obtain ⟨S,i,rfl,_⟩:=h
  rfl
 ·obtain ⟨S,i,rfl,q⟩:=h
  refine ⟨_,pss_one (ps_ret (pe_cmpR op_eq (pe_op op_and (pe_op op_shr (pv 0) (pv 1)) pe_int) pe_int (nomark _))),?_⟩
  refine ⟨_,rfl,_,rfl,_,_,rfl,rfl,Int.natCast_nonneg _,_,_,rfl,rfl,rfl,?_⟩
  show Q (.bl (decide (V.int (Builtin.bitAnd ((S : Int) / 2 ^ ((i : Nat) : Int).toNat) 1) = V.int 1))) H
  rw [bit_held]; exact q
theorem sc_numSets : FnScope ["case"] ["case"] (defScope sNumSets):=⟨rfl,rfl,rfl,by decide +kernel,rfl,by decide +kernel,by decide +kernel⟩
def spNumSets (P : Program) (w : World) (Cc C : Addr) : Sp:=fun vs H Q _=>∃ (A : CA) (c : Case),vs = [.ref A.a]∧CaseAt P w Cc C H c A∧ML.Good c∧Q (vI (2 ^ c.rules.length)) H
theorem ok_numSets {Cc C : Addr} (B : Bs mg) (T : CsT K Cc) (D : DefAt K mg "number_of_sets" sNumSets ["case"]) : Has P w K mg base 1 "number_of_sets" ["case"] (spNumSets P w Cc C):=D.has fun f fd F=>by
 refine F.ok sc_numSets (fun vs H Q E h=>?_) (fun cdv A outer s H vs Q E hr h=>?_)
 ·obtain ⟨A,c,rfl,_⟩:=h
  rfl
 ·obtain ⟨A,c,rfl,hc,gd,q⟩:=h
  refine ⟨_,pss_one (ps_ret (pe_op op_shl pe_int (pe_callB call_len_seq rfl B.len boot_len' (pa_cons (pe_fld (pv 0) rfl) pa_nil)))),?_⟩
  obtain ⟨ob,_,⟨rs,r1,r2⟩,_,_,_,_⟩:=id hc
  have gr:=gd.rules
  have el:=r2.len
  refine ⟨_,rfl,A.a,Cc,A.dx,_,_,rfl,ob,T.cl,T.rules,csF_rules _ _ _ _,A.lr,_,rfl,.inl (SqL.of r1),_,_,rfl,rfl,⟨by omega,by rw [List.length_map]; omega,by decide⟩,?_⟩
  show Q (V.int (1 * 2 ^ (((rs.map V.ref).length : Nat) : Int).toNat)) H
  have e : (1 * 2 ^ (((rs.map V.ref).length : Nat) : Int).toNat : Int) = ((2 ^ c.rules.length : Nat) : Int):=by
   rw [Int.one_mul,Int.toNat_natCast,List.length_map,← el]; push_cast; rfl
  rw [e]; exact q
theorem sc_rulesIn : FnScope ["case","chosen","i","rule"] ["case","chosen"] (defScope sRulesIn):=⟨rfl,rfl,rfl,by decide +kernel,rfl,by decide +kernel,by decide +kernel⟩
def spRulesIn (P : Program) (w : World) (Cc C : Addr) : Sp:=fun vs H Q _=>∃ (A : CA) (c : Case) (S : Nat),vs = [.ref A.a,vI S]∧CaseAt P w Cc C H c A∧ML.Good c ∧
 ∀ H' l qs,Same H H'→H l = none→H' l = some (.lst (qs.map V.ref))→All2 (ClauseAt C H) (ML.pick S c.rules c.rules.length) qs→Q (.ref l) H'
theorem ok_rulesIn {Cc C : Addr} (Be : mg "enumerate" = none) (T : CsT K Cc) (D : DefAt K mg "rules_in" sRulesIn ["case","chosen"]) (hH : Has P w K mg base 1 "has_rule" ["chosen","i"] spHasRule) : Has P w K mg base 2 "rules_in" ["case","chosen"] (spRulesIn P w Cc C):=D.has fun f fd F=>by
 refine F.ok sc_rulesIn (fun vs H Q E h=>?_) (fun cdv A outer s H vs Q E hr h=>?_)
 ·obtain ⟨A,c,S,rfl,_⟩:=h
  rfl
 ·obtain ⟨A,c,S,rfl,hc,gd,k⟩:=h
  refine ⟨_,pss_one (ps_ret (pe_lc rfl sc_rulesIn.nd (pi_enum rfl Be (pa_cons (pe_fld (pv 0) rfl) pa_nil)) (blkOk_by (own:=[("i",2),("rule",3)]) (by show blkC ["case","chosen","i","rule"] (defScope sRulesIn) _ _ = true; decide +kernel)) (fun _ _ _ _ _=>show PG _ _ (gTup K 2 (gCons (gName 2) (gCons (gName 3) gNil))) from pg_tup rfl (pgs_cons (pg_name (i:=2) sc_rulesIn.nd rfl (Or.inl rfl)) (pgs_cons (pg_name (i:=3) sc_rulesIn.nd rfl (Or.inl rfl)) pgs_nil)))
   (fun _ _ _ _ _=>pts_one (show PT _ _ (tB (tCall spHasRule [] E0 (tCons (tVar 1) (tCons (tVar 2) tNil)))) from pt_val (pe_has hH hr rfl (pa_cons (pv 1) (pa_cons (pv 2) pa_nil)))))
   (fun _ _ _ _ _=>show PE _ _ (tVar 3) from pv 3))),?_⟩
  obtain ⟨ob,_,⟨rs,r1,r2⟩,_,_,_,_⟩:=id hc
  have el:=r2.len
  have gr:=gd.rules
  have lenP : (rs.map V.ref).length = c.rules.length:=by rw [List.length_map]; exact el.symm
  refine ⟨_,rfl,A.a,Cc,A.dx,_,_,rfl,ob,T.cl,T.rules,csF_rules _ _ _ _,A.lr,_,rfl,SqL.of r1,fun D hD=>?_⟩
  refine lc_enum (xs:=rs.map V.ref) (fun H' s'=>SqL.of (s' _ _ r1)) (fun j acc _=>∃ qs : List Addr,acc = qs.map V.ref∧All2 (ClauseAt C H) (ML.pick S c.rules j) qs) (fun _ _ _ _ _ z=>z) hD (lt_size (by rw [lenP]; omega)) (fun _ _=>rfl) ⟨[],rfl,.nil⟩ ?_ ?_
  ·rintro j v acc H2 QA QB hv sm ⟨qs,rfl,al⟩ ka kb
   obtain ⟨q,hq,rfl⟩:=map_ref_get hv
   obtain ⟨r,hr3,hrq⟩:=r2.get hq
   refine ⟨_,rfl,_,rfl,S,j,rfl,_,rfl,?_⟩
   refine ite2 (fun hz=>?_) (fun hz=>?_)
   ·refine ⟨_,rfl,ka _ _ (Same.refl _) ⟨qs ++ [q],by rw [List.map_append]; rfl,?_⟩⟩
    rw [ML.pick_succ hr3,if_pos hz]
    exact All2.snoc hrq al
   ·refine kb _ (Same.refl _) ⟨qs,rfl,?_⟩
    rw [ML.pick_succ hr3,if_neg hz,List.append_nil]
    exact al
  ·rintro ys H2 ⟨qs,rfl,al⟩ hy sm
   rw [lenP] at al
   exact k H2 D qs sm hD hy al
theorem sc_clausesWith : FnScope ["case","chosen","clauses","rule"] ["case","chosen"] (defScope sClausesWith):=⟨rfl,rfl,rfl,by decide +kernel,rfl,by decide +kernel,by decide +kernel⟩
def spClausesWith (P : Program) (w : World) (Cc C : Addr) : Sp:=fun vs H Q _=>∃ (A : CA) (c : Case) (S : Nat),vs = [.ref A.a,vI S]∧CaseAt P w Cc C H c A∧ML.Good c ∧
 ∀ H' l qs,Same H H'→H l = none→H' l = some (.lst (qs.map V.ref))→All2 (ClauseAt C H') (ML.rowsWith c S) qs→Q (.ref l) H'
theorem ok_clausesWith {Cc C : Addr} (B : Bs mg) (T : CsT K Cc) (TC : ClT K C) (D : DefAt K mg "clauses_with" sClausesWith ["case","chosen"]) (hC : HasCls P w K mg base 1 "Clause" C ["self","name","body","head"] (spClauseInit C)) (hR : Has P w K mg base 2 "rules_in" ["case","chosen"] (spRulesIn P w Cc C)) : Has P w K mg base 3 "clauses_with" ["case","chosen"] (spClausesWith P w Cc C):=D.has fun f fd F=>by
 refine F.ok sc_clausesWith (fun vs H Q E h=>?_) (fun cdv A outer s H vs Q E hr h=>?_)
 ·obtain ⟨A,c,S,rfl,_⟩:=h
  rfl
 ·obtain ⟨A,c,S,rfl,hc,gd,k⟩:=h
  refine ⟨_,pss_cons (ps_set (i:=2) sc_clausesWith.nd rfl (Or.inl rfl) (pe_callTy call_list_of rfl B.list boot_list' (pa_cons (pe_fld (pv 0) rfl) pa_nil)))
   (pss_cons (ps_for PassesOwn.never rfl (pi_seq (pe_has hR hr rfl (pa_cons (pv 0) (pa_cons (pv 1) pa_nil)))) (pg_name (i:=3) sc_clausesWith.nd rfl (Or.inl rfl))
    (pss_cons (ps_expr (pe_bm PySem.F.plainAttrs_list PySem.F.slot_list_append PySem.F.type_list_append mt_append (pv 2) (pa_cons (pv 3) pa_nil)))
    (pss_one (ps_expr (pe_bm PySem.F.plainAttrs_list PySem.F.slot_list_append PySem.F.type_list_append mt_append (pv 2) (pa_cons (pe_hasC hC hr rfl (pa_cons (pe_fld (pv 3) rfl) (pa_cons (pe_tup pa_nil) (pa_cons (pe_tup (pa_cons (pe_fld (pv 3) rfl) (pa_cons pe_int pa_nil))) pa_nil)))) pa_nil))))))
   (pss_one (ps_ret (pv 2)))),?_⟩
  obtain ⟨ob,⟨ls,l1,l2⟩,_,_,_,_,_⟩:=id hc
  have gl:=gd.laws
  have gr:=gd.rules
  refine ⟨_,rfl,A.a,Cc,A.dx,_,_,rfl,ob,T.cl,T.laws,csF_laws _ _ _ _,A.la,_,rfl,.inl (SqL.of l1),fun p hp=>?_⟩
  have s1 : Same H (upd H p (.lst (ls.map V.ref))):=Same.new hp
  have g1 : upd H p (.lst (ls.map V.ref)) p = some (.lst (ls.map V.ref)):=upd_same
  generalize upd H p (.lst (ls.map V.ref)) = H1 at s1 g1 ⊢
  refine ⟨_,rfl,_,rfl,A,c,S,rfl,hc.same s1,gd,fun H2 l qs s2 hl g2 al=>?_⟩
  have g1':=s2 _ _ g1
  have npl : p≠l:=ne_of_none g1 hl
  have s02:=s1.trans s2
  have al2 : All2 (ClauseAt C H2) (ML.pick S c.rules c.rules.length) qs:=al.mono fun _ _ r=>r.same s2
  have lk : (ML.pick S c.rules c.rules.length).length≤10:=Nat.le_trans (ML.pick_len _ _ _) gr
  generalize eks : ML.pick S c.rules c.rules.length = ks at al2 lk
  refine ⟨l,_,true,rfl,SqL.of g2,fun J Sr=>?_⟩
  let Ho : Hp:=fun b=>if b = p then none else H2 b
  have so : ∀ H' : Hp,(∀ b o,H2 b = some o→b≠p→H' b = some o)→Same Ho H':=fun H' kk b o e=>by
   have e' : (if b = p then none else H2 b) = some o:=e
   split at e'
   ·cases e'
   ·rename_i hb; exact kk b o e' hb
  have hol : Ho l = some (.lst (qs.map V.ref)):=by show (if l = p then none else H2 l) = _; rw [if_neg npl.symm]; exact g2
  refine for_gen (Sr Ho (SqL.of hol)) (fun i σ H'=>∃ (v3 : Option V) (ts : List Addr),σ = [some (.ref A.a),some (vI S),some (.ref p),v3]∧(∀ b o,H2 b = some o→b≠p→H' b = some o)∧H' p = some (.lst (ts.map V.ref))∧All2 (ClauseAt C H') (c.laws ++ ML.twoRows (ks.take i)) ts) ?_ ?_ ?_ ?_
  ·rintro i σ H' ⟨_,_,_,kk,_⟩
   exact so H' kk
  ·refine ⟨none,ls,rfl,fun b o e _=>e,g1',?_⟩
   rw [show c.laws ++ ML.twoRows (ks.take 0) = c.laws from List.append_nil _]
   exact l2.mono fun _ _ r=>r.same s02
  ·rintro i y σ H' hi hy ⟨v3,ts,rfl,kk,hts,alt⟩
   obtain ⟨q,hq,rfl⟩:=map_ref_get hy
   obtain ⟨r,hx,hxq⟩:=al2.get hq
   have tu : Tups H2 H':=fun b xs e=>kk b _ e (ne_of e g1' (by intro z; cases z))
   have qp : q≠p:=by obtain ⟨dx,n,b,h,h1,_⟩:=hxq; exact ne_of h1 g1' (by intro z; cases z)
   have hq' : ClauseAt C H' r q:=by
    obtain ⟨dx,n,b,h,h1,h2,h3,h4⟩:=hxq
    exact ⟨dx,n,b,h,kk _ _ h1 qp,h2.mono tu,h3.mono tu,h4.mono tu⟩
   have lts : ts.length≤200:=by
    rw [← alt.len,List.length_append,ML.two_len,List.length_take]; omega
   refine ⟨_,rfl,.inl ⟨rfl,_,SqL.of hts⟩,_,rfl,p,_,_,rfl,rfl,hts,lt_size (by rw [List.length_map]; omega),?_⟩
   have st3 : ∀ (r' : Row) (q' : Addr) (H4 : Hp),q'≠p→ClauseAt C H4 r' q'→∀ zs,H4 p = some (.lst zs)→∀ ws,ClauseAt C (upd H4 p (.lst ws)) r' q':=fun r' q' H4 hn hcl zs hz ws=>by
    obtain ⟨dx,n,b,h,h1,h2,h3,h4⟩:=hcl
    have t4 : Tups H4 (upd H4 p (.lst ws)):=tups_upd hz (fun _ z=>by cases z)
    exact ⟨dx,n,b,h,by rw [upd_ne hn]; exact h1,h2.mono t4,h3.mono t4,h4.mono t4⟩
   have np : ∀ {r' : Row} {q' : Addr} {H4 : Hp} {zs : List V},ClauseAt C H4 r' q'→H4 p = some (.lst zs)→q'≠p:=fun hcl hz=>by
    obtain ⟨dx,n,b,h,h1,_⟩:=hcl
    exact ne_of h1 hz (by intro z; cases z)
   have al3 : All2 (ClauseAt C (upd H' p (.lst (ts.map V.ref ++ [.ref q])))) ((c.laws ++ ML.twoRows (ks.take i)) ++ [r]) (ts ++ [q]):=by
    refine All2.snoc (st3 _ _ _ qp hq' _ hts _) (alt.mono fun _ _ z=>st3 _ _ _ (np z hts) z _ hts _)
   have hq3:=st3 _ _ _ qp hq' _ hts (ts.map V.ref ++ [.ref q])
   have g3 : upd H' p (.lst (ts.map V.ref ++ [.ref q])) p = some (.lst (ts.map V.ref ++ [.ref q])):=upd_same
   have kk3 : ∀ b o,H2 b = some o→b≠p→upd H' p (.lst (ts.map V.ref ++ [.ref q])) b = some o:=fun b o e hb=>by rw [upd_ne hb]; exact kk b o e hb
   generalize upd H' p (.lst (ts.map V.ref ++ [.ref q])) = H3 at al3 hq3 g3 kk3
   obtain ⟨dx,n,b,h,h1,h2,h3,h4⟩:=hq3
   refine ⟨_,rfl,.inl ⟨rfl,_,SqL.of g3⟩,_,rfl,q,C,dx,_,_,rfl,h1,TC.cl,TC.name,clF_name _ _ _,(by show 0≤sizeLine; decide),fun e0 he0=>?_⟩
   have sA : Same H3 (upd H3 e0 (.tup [])):=Same.new he0
   have be0 : Bd (upd H3 e0 (.tup [])) [] e0:=⟨[],upd_same,.nil⟩
   generalize upd H3 e0 (.tup []) = H4 at sA be0
   refine ⟨_,rfl,q,C,dx,_,_,rfl,sA _ _ h1,TC.cl,TC.name,clF_name _ _ _,(by show 2≤sizeLine; decide),fun e1 he1=>?_⟩
   have sB : Same H4 (upd H4 e1 (.tup [.ref n,.int 0])):=Same.new he1
   have be1 : Lt (upd H4 e1 (.tup [.ref n,.int 0])) ⟨r.name,false⟩ e1:=Lt.of (l:=⟨r.name,false⟩) upd_same (h2.mono (sA.trans sB).tups)
   generalize upd H4 e1 (.tup [.ref n,.int 0]) = H5 at sB be1
   refine fun o dx' ho hdx hne=>⟨o,dx',_,_,_,rfl,upd_same,rfl,?_⟩
   rw [upd_upd]
   have sC : Same H5 (upd (upd H5 dx' (.own o)) o (.ins C dx' (clF (.ref n) (.ref e0) (.ref e1)))):=((Same.refl H5).set hdx).set ho
   have hn : ClauseAt C (upd (upd H5 dx' (.own o)) o (.ins C dx' (clF (.ref n) (.ref e0) (.ref e1)))) (ML.nameRow r) o:=⟨dx',n,e0,e1,upd_same,h2.mono ((sA.trans sB).trans sC).tups,be0.mono (sB.trans sC).tups,be1.mono sC.tups⟩
   generalize upd (upd H5 dx' (.own o)) o (.ins C dx' (clF (.ref n) (.ref e0) (.ref e1))) = H6 at sC hn
   have s36:=(sA.trans sB).trans sC
   have g6:=s36 _ _ g3
   refine ⟨p,_,_,rfl,rfl,g6,lt_size (by rw [List.length_append,List.length_map,List.length_singleton]; omega),?_⟩
   refine ⟨_,(ts ++ [q]) ++ [o],rfl,fun b o e hb=>by rw [upd_ne hb]; exact s36 _ _ (kk3 b o e hb),by rw [upd_same,List.map_append,List.map_append]; rfl,?_⟩
   rw [← take_snoc hx,ML.two_snoc,show c.laws ++ (ML.twoRows (ks.take i) ++ [r,ML.nameRow r]) = ((c.laws ++ ML.twoRows (ks.take i)) ++ [r]) ++ [ML.nameRow r] from by simp]
   have st6 : ∀ {r' : Row} {q' : Addr},ClauseAt C H6 r' q'→∀ ws,ClauseAt C (upd H6 p (.lst ws)) r' q':=fun {r' q'} hcl ws=>by
    have hn:=np hcl g6
    obtain ⟨dx,n,b,h,h1,h2,h3,h4⟩:=hcl
    have t4 : Tups H6 (upd H6 p (.lst ws)):=tups_upd g6 (fun _ z=>by cases z)
    exact ⟨dx,n,b,h,by rw [upd_ne hn]; exact h1,h2.mono t4,h3.mono t4,h4.mono t4⟩
   exact All2.snoc (st6 hn _) (al3.mono fun _ _ z=>st6 (z.same s36) _)
  ·rintro σ H' ⟨v3,ts,rfl,kk,hts,alt⟩
   rw [List.length_map,← al2.len,List.take_length] at alt
   exact ⟨_,rfl,k H' p ts (fun b o e=>kk b o (s02 b o e) (ne_of_none e hp)) hp hts (by unfold ML.rowsWith; rw [eks]; exact alt)⟩
theorem sc_followsFrom : FnScope ["case","chosen"] ["case","chosen"] (defScope sFollowsFrom):=⟨rfl,rfl,rfl,by decide +kernel,rfl,by decide +kernel,by decide +kernel⟩
def spFollowsFrom (P : Program) (w : World) (Cc C : Addr) : Sp:=fun vs H Q _=>∃ (A : CA) (c : Case) (S : Nat),vs = [.ref A.a,vI S]∧CaseAt P w Cc C H c A∧ML.Good c ∧
 ∀ (H' : Hp) (d : Addr) (ks : List Lit),Same H H'→H d = none→DAt litD P w H' d (ks.map lI)→ks.length≤200→(∀ x,x∈ks↔ML.Der c (held S) x)→Q (.ref d) H'
theorem ok_followsFrom {Cc C : Addr} (D : DefAt K mg "follows_from" sFollowsFrom ["case","chosen"]) (hC : Has P w K mg base 3 "clauses_with" ["case","chosen"] (spClausesWith P w Cc C)) (hW : Has P w K mg base 2 "what_follows" ["clauses"] (spWhatFollows P w C)) : Has P w K mg base 4 "follows_from" ["case","chosen"] (spFollowsFrom P w Cc C):=D.has fun f fd F=>by
 refine F.ok sc_followsFrom (fun vs H Q E h=>?_) (fun cdv A outer s H vs Q E hr h=>?_)
 ·obtain ⟨A,c,S,rfl,_⟩:=h
  rfl
 ·obtain ⟨A,c,S,rfl,hc,gd,k⟩:=h
  refine ⟨_,pss_one (ps_ret (pe_has hW (hr.mono (by decide)) rfl (pa_cons (pe_has hC hr rfl (pa_cons (pv 0) (pa_cons (pv 1) pa_nil))) pa_nil))),?_⟩
  refine ⟨_,rfl,_,rfl,A,c,S,rfl,hc,gd,fun H1 l qs s1 hl g1 al=>?_⟩
  refine ⟨l,qs,ML.rowsWith c S,rfl,g1,al,Nat.le_trans (ML.rows_len gd S) (by decide),ML.rows_body gd S,fun H2 d ks s2 hd dat hk hm=>?_⟩
  exact k H2 d ks (s1.trans s2) (s1.free hd) dat hk fun x=>(hm x).trans ML.rows_der
end
end SC
end
section
set_option maxRecDepth 100000
set_option maxHeartbeats 4000000
namespace SC
open PySem L2 L3 Mo
abbrev sIsSet : Stmt:=top 2
section
variable {P : Program} {w : World} {K : PySem.W.Frag} {mg : Str→Option Value} {base : Heap}
theorem sc_isSet : FnScope ["case","chosen"] ["case","chosen"] (defScope sIsSet):=⟨rfl,rfl,rfl,by decide +kernel,rfl,by decide +kernel,by decide +kernel⟩
def spIsSet (P : Program) (w : World) (Cc C : Addr) : Sp:=fun vs H Q _=>∃ (A : CA) (c : Case) (S : Nat),vs = [.ref A.a,vI S]∧CaseAt P w Cc C H c A∧ML.Good c∧Q (.bl (decide (S < 2 ^ c.rules.length))) H
theorem ok_isSet {Cc C : Addr} (D : DefAt K mg "is_set_of_rules" sIsSet ["case","chosen"]) (hN : Has P w K mg base 1 "number_of_sets" ["case"] (spNumSets P w Cc C)) : Has P w K mg base 2 "is_set_of_rules" ["case","chosen"] (spIsSet P w Cc C):=D.has fun f fd F=>by
 refine F.ok sc_isSet (fun vs H Q E h=>?_) (fun cdv A outer s H vs Q E hr h=>?_)
 ·obtain ⟨A,c,S,rfl,_⟩:=h
  rfl
 ·obtain ⟨A,c,S,rfl,hc,gd,q⟩:=h
  refine ⟨_,pss_one (ps_ret (pe_cmpR op_lt (pv 1) (pe_has hN hr rfl (pa_cons (pv 0) pa_nil)) (nomark _))),?_⟩
  refine ⟨_,rfl,_,rfl,A,c,rfl,hc,gd,_,_,rfl,rfl,?_⟩
  show Q (V.bl (decide ((S : Int) < ((2 ^ c.rules.length : Nat) : Int)))) H
  have e : decide ((S : Int) < ((2 ^ c.rules.length : Nat) : Int)) = decide (S < 2 ^ c.rules.length):=decide_eq_decide.mpr Int.ofNat_lt
  rw [e]; exact q
end
end SC
end
section
set_option maxRecDepth 100000
set_option maxHeartbeats 4000000
namespace SC
open PySem L2 L3 Mo
abbrev sSetClashes : Stmt:=top 25
section
variable {P : Program} {w : World} {K : PySem.W.Frag} {mg : Str→Option Value} {base : Heap}
theorem sc_setClashes : FnScope ["case","chosen"] ["case","chosen"] (defScope sSetClashes):=⟨rfl,rfl,rfl,by decide +kernel,rfl,by decide +kernel,by decide +kernel⟩
def spSetClashes (P : Program) (w : World) (Cc C : Addr) : Sp:=fun vs H Q _=>∃ (A : CA) (c : Case) (S : Nat),vs = [.ref A.a,vI S]∧CaseAt P w Cc C H c A∧ML.Good c ∧
 ∀ H',Same H H'→Q (.bl (c.numbered.clash S)) H'
theorem ok_setClashes {Cc C : Addr} (D : DefAt K mg "set_clashes" sSetClashes ["case","chosen"]) (hF : Has P w K mg base 4 "follows_from" ["case","chosen"] (spFollowsFrom P w Cc C)) (hO : Has P w K mg base 1 "has_opposites" ["literals"] (spHasOpp P w)) : Has P w K mg base 5 "set_clashes" ["case","chosen"] (spSetClashes P w Cc C):=D.has fun f fd F=>by
 refine F.ok sc_setClashes (fun vs H Q E h=>?_) (fun cdv A outer s H vs Q E hr h=>?_)
 ·obtain ⟨A,c,S,rfl,_⟩:=h
  rfl
 ·obtain ⟨A,c,S,rfl,hc,gd,k⟩:=h
  refine ⟨_,pss_one (ps_ret (pe_has hO (hr.mono (by decide)) rfl (pa_cons (pe_has hF hr rfl (pa_cons (pv 0) (pa_cons (pv 1) pa_nil))) pa_nil))),?_⟩
  refine ⟨_,rfl,_,rfl,A,c,S,rfl,hc,gd,fun H1 d ks s1 hd dat hk hm=>?_⟩
  refine ⟨d,ks,rfl,dat,by omega,fun H2 g s2 eg=>?_⟩
  have e : g = c.numbered.clash S:=by
   rw [Bool.eq_iff_iff,eg,ML.clash_iff]
   simp only [hm]
  rw [e]
  exact k H2 (s1.trans s2)
end
end SC
end
section
set_option maxRecDepth 100000
set_option maxHeartbeats 4000000
namespace SC
open PySem L2 L3 Mo
theorem sets2_no1 {c : Case} {S T : Nat} {f : MoA.Answer} (h : ¬ S < 2 ^ c.rules.length) : MoA.sets c [S,T] f = MoA.no 1:=by
 unfold MoA.sets
 rw [if_neg]
 simp [h]
theorem sets2_no2 {c : Case} {S T : Nat} {f : MoA.Answer} (h : ¬ T < 2 ^ c.rules.length) : MoA.sets c [S,T] f = MoA.no 1:=by
 unfold MoA.sets
 rw [if_neg]
 simp [h]
theorem sets2_yes {c : Case} {S T : Nat} {f : MoA.Answer} (h : S < 2 ^ c.rules.length) (h2 : T < 2 ^ c.rules.length) : MoA.sets c [S,T] f = f:=by
 unfold MoA.sets
 rw [if_pos]
 simp [h,h2]
end SC
end
section
set_option maxRecDepth 100000
set_option maxHeartbeats 4000000
namespace SC
open PySem L2 L3 Mo
abbrev sIsWithin : Stmt:=top 4
abbrev sLeastClashes : Stmt:=top 26
theorem and_vI (S T : Nat) : Builtin.bitAnd (S : Int) (T : Int) = ((S &&& T : Nat) : Int):=by
 rw [PyProof.Rows.bitAnd_pp (Int.natCast_nonneg _) (Int.natCast_nonneg _),Int.toNat_natCast,Int.toNat_natCast]
theorem within_dec (S T : Nat) : decide (V.int (Builtin.bitAnd (S : Int) (T : Int)) = V.int (S : Int)) = within S T:=by
 rw [dec_int,and_vI]
 unfold within
 rw [Bool.beq_eq_decide_eq,Bool.beq_eq_decide_eq]
 exact decide_eq_decide.mpr Int.ofNat_inj
theorem num_rules (c : Case) : c.numbered.rules.length = c.rules.length:=by rw [ML.numbered_eq]; exact List.length_map _
theorem boot_any2 : bootBuiltins "any" = some (.builtin "any"):=by decide +kernel
section
variable {P : Program} {w : World} {K : PySem.W.Frag} {mg : Str→Option Value} {base : Heap}
theorem sc_isWithin : FnScope ["chosen","other"] ["chosen","other"] (defScope sIsWithin):=⟨rfl,rfl,rfl,by decide +kernel,rfl,by decide +kernel,by decide +kernel⟩
def spIsWithin : Sp:=fun vs H Q _=>∃ (S T : Nat),vs = [vI S,vI T]∧Q (.bl (within S T)) H
theorem ok_isWithin (D : DefAt K mg "is_within" sIsWithin ["chosen","other"]) : Has P w K mg base 1 "is_within" ["chosen","other"] spIsWithin:=D.has fun f fd F=>by
 refine F.ok sc_isWithin (fun vs H Q E h=>?_) (fun cdv A outer s H vs Q E hr h=>?_)
 ·obtain ⟨S,i,rfl,_⟩:=h
  rfl
 ·obtain ⟨S,T,rfl,q⟩:=h
  refine ⟨_,pss_one (ps_ret (pe_cmpR op_eq (pe_op op_and (pv 0) (pv 1)) (pv 0) (nomark _))),?_⟩
  refine ⟨_,rfl,_,rfl,_,_,rfl,rfl,_,rfl,rfl,?_⟩
  show Q (.bl (decide (V.int (Builtin.bitAnd (S : Int) (T : Int)) = V.int (S : Int)))) H
  rw [within_dec]; exact q
theorem sc_leastClashes : FnScope ["case","least","chosen","clash"] ["case"] (defScope sLeastClashes):=⟨rfl,rfl,rfl,by decide +kernel,rfl,by decide +kernel,by decide +kernel⟩
def spLeastClashes (P : Program) (w : World) (Cc C : Addr) : Sp:=fun vs H Q _=>∃ (A : CA) (c : Case),vs = [.ref A.a]∧CaseAt P w Cc C H c A∧ML.Good c ∧
 ∀ H' p,Same H H'→H p = none→H' p = some (.lst (c.numbered.clashes.map vI))→Q (.ref p) H'
theorem ok_leastClashes {Cc C : Addr} (B : Bs mg) (Br : mg "range" = none) (D : DefAt K mg "least_clashes" sLeastClashes ["case"]) (hN : Has P w K mg base 1 "number_of_sets" ["case"] (spNumSets P w Cc C)) (hW : Has P w K mg base 1 "is_within" ["chosen","other"] spIsWithin) (hC : Has P w K mg base 5 "set_clashes" ["case","chosen"] (spSetClashes P w Cc C)) : Has P w K mg base 6 "least_clashes" ["case"] (spLeastClashes P w Cc C):=D.has fun f fd F=>by
 refine F.ok sc_leastClashes (fun vs H Q E h=>?_) (fun cdv A outer s H vs Q E hr h=>?_)
 ·obtain ⟨A,c,rfl,_⟩:=h
  rfl
 ·obtain ⟨A,c,rfl,hc,gd,k⟩:=h
  refine ⟨_,pss_cons (ps_set (i:=1) sc_leastClashes.nd rfl (Or.inl rfl) (pe_lst pa_nil))
   (pss_cons (ps_for PassesOwn.never rfl (pi_range1 rfl Br (pa_cons (pe_has hN (hr.mono (by decide)) rfl (pa_cons (pv 0) pa_nil)) pa_nil)) (pg_name (i:=2) sc_leastClashes.nd rfl (Or.inr rfl))
    (pss_one (ps_if (PW.pt (pw_and (pt_not (pt_val (pe_callB (cr_any rfl) rfl B.any boot_any2 (pa_cons (pe_lc rfl sc_leastClashes.nd (pi_seq (pv 1)) (blkOk_by (own:=[("clash",3)]) (by show blkC ["case","least","chosen","clash"] (defScope sLeastClashes) _ _ = true; decide +kernel))
     (fun _ _ _ _ _=>pg_name (i:=3) sc_leastClashes.nd rfl (Or.inl rfl)) (fun _ _ _ _ _=>pts_nil) (fun _ _ _ _ _=>show PE _ _ (tCall spIsWithin [] E0 (tCons (tVar 3) (tCons (tVar 2) tNil))) from pe_has hW (hr.mono (by decide)) rfl (pa_cons (pv 3) (pa_cons (pv 2) pa_nil)))) pa_nil))))
     (pw_and1 (pt_val (pe_has hC hr rfl (pa_cons (pv 0) (pa_cons (pv 2) pa_nil)))))))
     (pss_one (ps_expr (pe_bm PySem.F.plainAttrs_list PySem.F.slot_list_append PySem.F.type_list_append mt_append (pv 1) (pa_cons (pv 2) pa_nil)))) pss_nil)))
   (pss_one (ps_ret (pv 1)))),?_⟩
  have p10:=ML.pow_ten gd.rules
  have up:=ML.clash_up c
  refine ⟨Nat.zero_le _,fun p hp=>?_⟩
  have s1 : Same H (upd H p (.lst [])):=Same.new hp
  have g1 : upd H p (.lst []) p = some (.lst []):=upd_same
  generalize upd H p (.lst []) = H1 at s1 g1 ⊢
  refine ⟨_,rfl,A,c,rfl,hc.same s1,gd,_,rfl,Int.le_trans (by decide) (Int.natCast_nonneg _),Int.lt_of_le_of_lt (Int.ofNat_le.mpr p10) (by decide),?_⟩
  rw [Int.toNat_natCast]
  refine for_range (fun i σ H'=>∃ (v2 : Option V),σ = [some (.ref A.a),some (.ref p),v2,none]∧Same H H'∧H' p = some (.lst ((ML.lowL c.rules.length c.numbered.clash i).map vI))) ?_ ?_ ?_
  ·exact ⟨none,rfl,s1,g1⟩
  ·rintro i σ H' hi ⟨v2,rfl,sm,hL⟩
   have ll:=ML.lowL_len c.rules.length c.numbered.clash i
   have ei : V.int (0 + (i : Int)) = vI i:=by
    show V.int (0 + (i : Int)) = V.int (i : Int)
    rw [Int.zero_add]
   rw [ei]
   refine ⟨_,rfl,p,_,true,rfl,SqL.of hL,fun J Sr D hD=>?_⟩
   refine lc_map (Sr _ (SqL.of hL)) (fun j acc _=>acc = ((ML.lowL c.rules.length c.numbered.clash i).take j).map fun T=>V.bl (within T i)) (fun _ _ _ _ _ z=>z) hD (lt_size (by rw [List.length_map]; omega)) (fun _=>rfl) rfl ?_ ?_
   ·rintro j v acc H2 QA QB hj hv sm2 rfl ka kb
    obtain ⟨T,hT,rfl⟩:=map_vI_get hv
    refine ⟨_,rfl,_,rfl,T,i,rfl,ka _ _ (Same.refl _) ?_⟩
    rw [← take_snoc hT,List.map_append]; rfl
   ·rintro ys H2 rfl hy sm2
    rw [List.length_map,List.take_length] at hy
    refine ⟨D,(ML.lowL c.rules.length c.numbered.clash i).map fun T=>within T i,rfl,SqL.of (by rw [hy,List.map_map]; rfl),_,rfl,?_⟩
    have ea : ((ML.lowL c.rules.length c.numbered.clash i).map fun T=>within T i).any id = (ML.lowL c.rules.length c.numbered.clash i).any fun T=>within T i:=by rw [List.any_map]; rfl
    have st:=ML.pL_step up hi
    have hL2:=sm2 _ _ hL
    have s02:=sm.trans sm2
    have no : ∀ H3,Same H2 H3→ML.pL c.rules.length c.numbered.clash i = false→∃ (v2 : Option V),[some (V.ref A.a),some (V.ref p),some (vI i),none] = [some (.ref A.a),some (.ref p),v2,none]∧Same H H3∧H3 p = some (.lst ((ML.lowL c.rules.length c.numbered.clash (i + 1)).map vI)):=fun H3 s3 e=>⟨_,rfl,s02.trans s3,by rw [ML.lowL_succ,e,if_neg Bool.false_ne_true,List.append_nil]; exact s3 _ _ hL2⟩
    show if (!((ML.lowL c.rules.length c.numbered.clash i).map fun T=>within T i).any id) = true then _ else _
    rw [ea]
    refine ite2 (fun hz=>?_) (fun hz=>?_)
    ·refine ⟨_,rfl,_,rfl,A,c,i,rfl,hc.same s02,gd,fun H3 s3=>⟨_,rfl,?_⟩⟩
     rw [hz,Bool.true_and] at st
     rw [st]
     refine ite2 (fun hq=>?_) (fun hq=>?_)
     ·have hL3:=s3 _ _ hL2
      refine ⟨_,rfl,.inl ⟨rfl,_,SqL.of hL3⟩,_,rfl,p,_,_,rfl,rfl,hL3,lt_size (by rw [List.length_map]; omega),?_⟩
      refine ⟨_,rfl,fun b o e=>by rw [upd_ne (ne_of_none e hp)]; exact s3 _ _ (s02 _ _ e),?_⟩
      rw [upd_same,ML.lowL_succ,if_pos hq,List.map_append]; rfl
     ·exact no H3 s3 (by simpa using hq)
    ·refine iteF (no H2 (Same.refl _) ?_)
     rw [← st]
     have : (!(ML.lowL c.rules.length c.numbered.clash i).any fun T=>within T i) = false:=by simpa using hz
     rw [this]; rfl
  ·rintro σ H' ⟨v2,rfl,sm,hL⟩
   refine ⟨_,rfl,k H' p sm hp ?_⟩
   rw [hL,ML.clashes_eq,← ML.lowL_all,num_rules]
end
end SC
end
section
set_option maxRecDepth 100000
set_option maxHeartbeats 4000000
namespace SC
open PySem L2 L3 Mo
abbrev sStrikersFrom : Stmt:=top 78
theorem mask_one (i : Nat) : ML.maskL [i] = 2 ^ i:=by
 show ([2 ^ i] : List Nat).sum = _
 rw [List.sum_cons,List.sum_nil,Nat.add_zero]
theorem and_dec (S T : Nat) : decide (V.int (Builtin.bitAnd (S : Int) (T : Int)) = V.int 0) = (S &&& T == 0):=by
 rw [dec_int,and_vI,Bool.beq_eq_decide_eq,Bool.beq_eq_decide_eq]
 exact decide_eq_decide.mpr ⟨fun z=>by omega,fun z=>by omega⟩
section
variable {P : Program} {w : World} {K : PySem.W.Frag} {mg : Str→Option Value} {base : Heap}
theorem sc_strikersFrom : FnScope ["least","case","i","lesser","clash"] ["least","case","i"] (defScope sStrikersFrom):=⟨rfl,rfl,rfl,by decide +kernel,rfl,by decide +kernel,by decide +kernel⟩
def spStrikersFrom (P : Program) (w : World) (Cc C : Addr) : Sp:=fun vs H Q _=>∃ (l : Addr) (A : CA) (c : Case) (i : Nat),vs = [.ref l,.ref A.a,vI i]∧H l = some (.lst (c.numbered.clashes.map vI))∧CaseAt P w Cc C H c A∧ML.Good c∧i < c.rules.length ∧
 ∀ H' p,Same H H'→H p = none→H' p = some (.lst ((ML.hitC c i).map vI))→Q (.ref p) H'
theorem ok_strikersFrom {Cc C : Addr} (D : DefAt K mg "strikers_from" sStrikersFrom ["least","case","i"]) (hO : Has P w K mg base 2 "outweighed_by" ["case","i"] (spOutBy P w Cc C)) (hS : Has P w K mg base 1 "set_of" ["numbers"] (spSetOf K)) (hH : Has P w K mg base 1 "has_rule" ["chosen","i"] spHasRule) : Has P w K mg base 3 "strikers_from" ["least","case","i"] (spStrikersFrom P w Cc C):=D.has fun f fd F=>by
 refine F.ok sc_strikersFrom (fun vs H Q E h=>?_) (fun cdv A outer s H vs Q E hr h=>?_)
 ·obtain ⟨l,A,c,i,rfl,_⟩:=h
  rfl
 ·obtain ⟨l,A,c,i,rfl,hl,hc,gd,hi,k⟩:=h
  refine ⟨_,pss_cons (ps_set (i:=3) sc_strikersFrom.nd rfl (Or.inr rfl) (pe_has hO hr rfl (pa_cons (pv 1) (pa_cons (pv 2) pa_nil))))
   (pss_one (ps_ret (pe_lc rfl sc_strikersFrom.nd (pi_seq (pv 0)) (blkOk_by (own:=[("clash",4)]) (by show blkC ["least","case","i","lesser","clash"] (defScope sStrikersFrom) _ _ = true; decide +kernel)) (fun _ _ _ _ _=>pg_name (i:=4) sc_strikersFrom.nd rfl (Or.inl rfl))
    (fun _ _ _ _ _=>pts_one (show PT _ _ (tAnd (tB (tCall spHasRule [] E0 (tCons (tVar 4) (tCons (tVar 2) tNil)))) (tTest (tOp rEq (tOp (rI0 fun i j=>.int (Builtin.bitAnd i j)) (tVar 4) (tVar 3)) (tC (.int 0))))) from PW.pt (pw_and (pt_val (pe_has hH (hr.mono (by decide)) rfl (pa_cons (pv 4) (pa_cons (pv 2) pa_nil)))) (pw_and1 (pt_cmpR op_eq (pe_op op_and (pv 4) (pv 3)) pe_int (nomark _))))))
    (fun _ _ _ _ _=>show PE _ _ (tOp (rI0 fun i j=>.int (i - j)) (tVar 4) (tCall (spSetOf K) [] E0 (tCons (tLst (tCons (tVar 2) tNil)) tNil))) from pe_op op_sub (pv 4) (pe_has hS (hr.mono (by decide)) rfl (pa_cons (pe_lst (pa_cons (pv 2) pa_nil)) pa_nil)))))),?_⟩
  have ln:=ML.clashes_le gd
  have gr:=gd.rules
  refine ⟨_,rfl,_,rfl,A,c,i,rfl,hc,gd,hi,fun H1 s1=>?_⟩
  generalize eu : c.under.getD i 0 = u
  refine ⟨_,rfl,l,_,true,rfl,SqL.of (s1 _ _ hl),fun J Sr D hD=>?_⟩
  let pr : Nat→Bool:=fun C=>held C i && (C &&& u == 0)
  let fm : Nat→Nat:=fun C=>C - 2 ^ i
  refine lc_map (Sr _ (SqL.of (s1 _ _ hl))) (fun j acc _=>acc = (((c.numbered.clashes.take j).filter pr).map fm).map vI) (fun _ _ _ _ _ z=>z) hD (lt_size (by rw [List.length_map]; omega)) (fun _=>rfl) rfl ?_ ?_
  ·rintro j v acc H2 QA QB hj hv sm rfl ka kb
   obtain ⟨S,hS',rfl⟩:=map_vI_get hv
   have fs:=filter_snoc (p:=pr) hS'
   refine ⟨_,rfl,_,rfl,S,i,rfl,_,rfl,?_⟩
   have ed : (decide (V.int (Builtin.bitAnd (S : Int) (u : Int)) = V.int 0)) = (S &&& u == 0):=and_dec S u
   cases e1 : held S i with
   | false =>
    have ep : pr S = false:=by show (held S i && _) = false; rw [e1]; rfl
    refine iteF (iteF (kb _ (Same.refl _) ?_))
    rw [fs,ep,if_neg Bool.false_ne_true,List.append_nil]
   | true =>
    refine iteT ⟨_,rfl,_,rfl,_,_,rfl,rfl,rfl,_,rfl,?_⟩
    show if (decide (V.int (Builtin.bitAnd (S : Int) (u : Int)) = V.int 0)) = true then _ else _
    rw [ed]
    have ep : pr S = (S &&& u == 0):=by show (held S i && _) = _; rw [e1]; rfl
    refine ite2 (fun hz=>?_) (fun hz=>?_)
    ·refine ⟨_,rfl,_,rfl,(by show 1≤sizeLine; decide),fun t ht=>?_⟩
     refine ⟨t,[i],rfl,upd_same,fun n hn=>by rw [List.mem_singleton.mp hn]; omega,(by show 1≤1000; decide),fun H4 s4=>?_⟩
     refine ⟨_,_,rfl,rfl,ka _ _ ((Same.new ht).trans s4) ?_⟩
     rw [fs,ep,if_pos hz,List.map_append,List.map_append]
     congr 1
     show [V.int _] = [V.int _]
     congr 2
     rw [mask_one]
     have:=ML.held_le e1
     show (S : Int) - ((2 ^ i : Nat) : Int) = ((S - 2 ^ i : Nat) : Int)
     omega
    ·refine kb _ (Same.refl _) ?_
     rw [fs,ep,if_neg hz,List.append_nil]
  ·rintro ys H2 rfl hy sm
   rw [List.length_map,List.take_length] at hy
   refine k H2 D (s1.trans sm) (s1.free hD) ?_
   rw [hy,ML.hitC_eq gd hi,eu]
end
end SC
end
section
set_option maxRecDepth 100000
set_option maxHeartbeats 4000000
namespace SC
open PySem L2 L3 Mo
abbrev sDoesStrike : Stmt:=top 80
section
variable {P : Program} {w : World} {K : PySem.W.Frag} {mg : Str→Option Value} {base : Heap}
theorem sc_doesStrike : FnScope ["chosen","strikers","striker"] ["chosen","strikers"] (defScope sDoesStrike):=⟨rfl,rfl,rfl,by decide +kernel,rfl,by decide +kernel,by decide +kernel⟩
def spDoesStrike : Sp:=fun vs H Q _=>∃ (S : Nat) (q : Addr) (l : List Nat),vs = [vI S,.ref q]∧H q = some (.lst (l.map vI))∧l.length≤1024∧∀ H',Same H H'→Q (.bl (l.any fun A=>within A S)) H'
theorem ok_doesStrike (B : Bs mg) (D : DefAt K mg "does_strike" sDoesStrike ["chosen","strikers"]) (hW : Has P w K mg base 1 "is_within" ["chosen","other"] spIsWithin) : Has P w K mg base 2 "does_strike" ["chosen","strikers"] spDoesStrike:=D.has fun f fd F=>by
 refine F.ok sc_doesStrike (fun vs H Q E h=>?_) (fun cdv A outer s H vs Q E hr h=>?_)
 ·obtain ⟨S,q,l,rfl,_⟩:=h
  rfl
 ·obtain ⟨S,q,l,rfl,hq,hn,k⟩:=h
  refine ⟨_,pss_one (ps_ret (pe_callB (cr_any rfl) rfl B.any boot_any2 (pa_cons (pe_lc rfl sc_doesStrike.nd (pi_seq (pv 1)) (blkOk_by (own:=[("striker",2)]) (by show blkC ["chosen","strikers","striker"] (defScope sDoesStrike) _ _ = true; decide +kernel))
          (fun _ _ _ _ _=>pg_name (i:=2) sc_doesStrike.nd rfl (Or.inl rfl)) (fun _ _ _ _ _=>pts_nil) (fun _ _ _ _ _=>show PE _ _ (tCall spIsWithin [] E0 (tCons (tVar 2) (tCons (tVar 0) tNil))) from pe_has hW hr rfl (pa_cons (pv 2) (pa_cons (pv 0) pa_nil)))) pa_nil))),?_⟩
  refine ⟨_,rfl,q,_,true,rfl,SqL.of hq,fun J Sr D hD=>?_⟩
  refine lc_map (Sr _ (SqL.of hq)) (fun j acc _=>acc = (l.take j).map fun T=>V.bl (within T S)) (fun _ _ _ _ _ z=>z) hD (lt_size (by rw [List.length_map]; omega)) (fun _=>rfl) rfl ?_ ?_
  ·rintro j v acc H2 QA QB hj hv sm2 rfl ka kb
   obtain ⟨T,hT,rfl⟩:=map_vI_get hv
   refine ⟨_,rfl,_,rfl,T,S,rfl,ka _ _ (Same.refl _) ?_⟩
   rw [← take_snoc hT,List.map_append]; rfl
  ·rintro ys H2 rfl hy sm2
   rw [List.length_map,List.take_length] at hy
   refine ⟨D,l.map fun T=>within T S,rfl,SqL.of (by rw [hy,List.map_map]; rfl),?_⟩
   have ea : (l.map fun T=>within T S).any id = l.any fun T=>within T S:=by rw [List.any_map]; rfl
   rw [ea]
   exact k H2 sm2
end
end SC
end
section
set_option maxRecDepth 100000
set_option maxHeartbeats 4000000
namespace SC
open PySem L2 L3 Mo
abbrev sStrikersAll : Stmt:=top 79
def OAt (H : Hp) (a : Addr) (hs : List (List Nat)) : Prop:=∃ qs : List Addr,H a = some (.lst (qs.map V.ref))∧All2 (fun (l : List Nat) q=>H q = some (.lst (l.map vI))) hs qs
theorem OAt.same {H H' : Hp} {a : Addr} {hs : List (List Nat)} (h : OAt H a hs) (s : Same H H') : OAt H' a hs:=let ⟨qs,h1,h2⟩:=h; ⟨qs,s _ _ h1,h2.mono fun _ _ r=>s _ _ r⟩
theorem src_range {n : Nat} {H : Hp} : SrcOk (Itr 0 n) H n (fun i x=>x = vI i) :=
 ⟨fun i H' hi s=>hi,fun H' s=>Nat.le_refl _,fun i H' x H2 hi s y=>⟨y.1,by rw [y.2]; show V.int (0 + (i : Int)) = V.int (i : Int); rw [Int.zero_add]⟩⟩
theorem hits_le {c : Case} (g : ML.Good c) : c.seen.hits.length≤10∧∀ l∈c.seen.hits,l.length≤1024:=by
 refine ⟨by rw [ML.hits_len]; exact g.rules,fun l hl=>?_⟩
 rw [ML.hits_eq] at hl
 obtain ⟨i,_,rfl⟩:=List.mem_map.mp hl
 exact ML.hitC_len g i
section
variable {P : Program} {w : World} {K : PySem.W.Frag} {mg : Str→Option Value} {base : Heap}
theorem sc_strikersAll : FnScope ["case","least","i"] ["case"] (defScope sStrikersAll):=⟨rfl,rfl,rfl,by decide +kernel,rfl,by decide +kernel,by decide +kernel⟩
def spStrikersAll (P : Program) (w : World) (Cc C : Addr) : Sp:=fun vs H Q _=>∃ (A : CA) (c : Case),vs = [.ref A.a]∧CaseAt P w Cc C H c A∧ML.Good c ∧
 ∀ H' p,Same H H'→H p = none→OAt H' p c.seen.hits→Q (.ref p) H'
theorem ok_strikersAll {Cc C : Addr} (B : Bs mg) (Br : mg "range" = none) (T : CsT K Cc) (D : DefAt K mg "strikers_of_all" sStrikersAll ["case"]) (hL : Has P w K mg base 6 "least_clashes" ["case"] (spLeastClashes P w Cc C)) (hS : Has P w K mg base 3 "strikers_from" ["least","case","i"] (spStrikersFrom P w Cc C)) : Has P w K mg base 7 "strikers_of_all" ["case"] (spStrikersAll P w Cc C):=D.has fun f fd F=>by
 refine F.ok sc_strikersAll (fun vs H Q E h=>?_) (fun cdv A outer s H vs Q E hr h=>?_)
 ·obtain ⟨A,c,rfl,_⟩:=h
  rfl
 ·obtain ⟨A,c,rfl,hc,gd,k⟩:=h
  refine ⟨_,pss_cons (ps_set (i:=1) sc_strikersAll.nd rfl (Or.inr rfl) (pe_has hL hr rfl (pa_cons (pv 0) pa_nil)))
   (pss_one (ps_ret (pe_lc rfl sc_strikersAll.nd (pi_range1 rfl Br (pa_cons (pe_callB call_len_seq rfl B.len boot_len' (pa_cons (pe_fld (pv 0) rfl) pa_nil)) pa_nil)) (blkOk_by (own:=[("i",2)]) (by show blkC ["case","least","i"] (defScope sStrikersAll) _ _ = true; decide +kernel)) (fun _ _ _ _ _=>pg_name (i:=2) sc_strikersAll.nd rfl (Or.inl rfl)) (fun _ _ _ _ _=>pts_nil)
    (fun _ _ _ _ _=>show PE _ _ (tCall (spStrikersFrom P w Cc C) [] E0 (tCons (tVar 1) (tCons (tVar 0) (tCons (tVar 2) tNil)))) from pe_has hS (hr.mono (by decide)) rfl (pa_cons (pv 1) (pa_cons (pv 0) (pa_cons (pv 2) pa_nil))))))),?_⟩
  have gr:=gd.rules
  refine ⟨_,rfl,A,c,rfl,hc,gd,fun H1 l s1 l0 hl=>?_⟩
  have hc1:=hc.same s1
  obtain ⟨ob,_,⟨rs,r1,r2⟩,_,_,_,_⟩:=id hc1
  have el:=r2.len
  have e2 : (rs.map V.ref).length = c.rules.length:=by rw [List.length_map]; exact el.symm
  refine ⟨_,rfl,A.a,Cc,A.dx,_,_,rfl,ob,T.cl,T.rules,csF_rules _ _ _ _,A.lr,_,rfl,.inl (SqL.of r1),_,rfl,Int.le_trans (by decide) (Int.natCast_nonneg _),by rw [e2]; omega,fun D hD=>?_⟩
  rw [Int.toNat_natCast,e2]
  refine lc_off src_range (fun j acc H'=>∃ qs : List Addr,acc = qs.map V.ref∧All2 (fun (l : List Nat) q=>H' q = some (.lst (l.map vI))∧q≠D) ((List.range j).map (ML.hitC c)) qs) ?_ hD (lt_size (by omega)) (fun _=>rfl) ⟨[],rfl,.nil⟩ ?_ ?_
  ·rintro j acc H2 H3 off ⟨qs,rfl,al⟩
   exact ⟨qs,rfl,al.mono fun _ _ r=>⟨off _ _ r.1 r.2,r.2⟩⟩
  ·rintro j v acc H2 QA QB hj rfl sm ⟨qs,rfl,al⟩ hDa ka kb
   refine ⟨_,rfl,_,rfl,_,rfl,l,A,c,j,rfl,sm _ _ hl,hc1.same sm,gd,hj,fun H3 p s3 p0 hp=>ka _ _ s3 ⟨qs ++ [p],by rw [List.map_append]; rfl,?_⟩⟩
   rw [List.range_succ,List.map_append]
   exact All2.snoc ⟨hp,fun z=>by rw [z,hDa] at p0; cases p0⟩ (al.mono fun _ _ r=>⟨s3 _ _ r.1,r.2⟩)
  ·rintro ys H2 ⟨qs,rfl,al⟩ hy sm
   exact k H2 D (s1.trans sm) (s1.free hD) ⟨qs,hy,by rw [ML.hits_eq]; exact al.mono fun _ _ r=>r.1⟩
end
end SC
end
section
set_option maxRecDepth 100000
set_option maxHeartbeats 4000000
namespace SC
open PySem L2 L3 Mo
abbrev sStruckOut : Stmt:=top 81
theorem form_seen {d : Case} (g : ML.Good d) : d.form.seen = (ML.ordC d).seen:=by
 unfold Case.seen seenBy
 rw [form_under g]
 rfl
section
variable {P : Program} {w : World} {K : PySem.W.Frag} {mg : Str→Option Value} {base : Heap}
theorem sc_struckOut : FnScope ["on","chosen","of_all","i","strikers"] ["on","chosen","of_all"] (defScope sStruckOut):=⟨rfl,rfl,rfl,by decide +kernel,rfl,by decide +kernel,by decide +kernel⟩
def spStruckOut : Sp:=fun vs H Q _=>∃ (on S : Nat) (a : Addr) (hs : List (List Nat)),vs = [vI on,vI S,.ref a]∧OAt H a hs∧hs.length≤10∧(∀ l∈hs,l.length≤1024)∧∀ H',Same H H'→Q (vI (ML.struckH hs on S)) H'
theorem ok_struckOut (Be : mg "enumerate" = none) (D : DefAt K mg "struck_out" sStruckOut ["on","chosen","of_all"]) (hS : Has P w K mg base 1 "set_of" ["numbers"] (spSetOf K)) (hH : Has P w K mg base 1 "has_rule" ["chosen","i"] spHasRule) (hX : Has P w K mg base 2 "does_strike" ["chosen","strikers"] spDoesStrike) : Has P w K mg base 3 "struck_out" ["on","chosen","of_all"] spStruckOut:=D.has fun f fd F=>by
 refine F.ok sc_struckOut (fun vs H Q E h=>?_) (fun cdv A outer s H vs Q E hr h=>?_)
 ·obtain ⟨on,S,a,hs,rfl,_⟩:=h
  rfl
 ·obtain ⟨on,S,a,hs,rfl,⟨qs,ha,al⟩,hn,hb,k⟩:=h
  refine ⟨_,pss_one (ps_ret (pe_has hS (hr.mono (by decide)) rfl (pa_cons (pe_lc rfl sc_struckOut.nd (pi_enum rfl Be (pa_cons (pv 2) pa_nil)) (blkOk_by (own:=[("i",3),("strikers",4)]) (by show blkC ["on","chosen","of_all","i","strikers"] (defScope sStruckOut) _ _ = true; decide +kernel)) (fun _ _ _ _ _=>show PG _ _ (gTup K 2 (gCons (gName 3) (gCons (gName 4) gNil))) from pg_tup rfl (pgs_cons (pg_name (i:=3) sc_struckOut.nd rfl (Or.inl rfl)) (pgs_cons (pg_name (i:=4) sc_struckOut.nd rfl (Or.inl rfl)) pgs_nil)))
   (fun _ _ _ _ _=>pts_one (show PT _ _ (tAnd (tB (tCall spHasRule [] E0 (tCons (tVar 0) (tCons (tVar 3) tNil)))) (tB (tCall spDoesStrike [] E0 (tCons (tVar 1) (tCons (tVar 4) tNil))))) from PW.pt (pw_and (pt_val (pe_has hH (hr.mono (by decide)) rfl (pa_cons (pv 0) (pa_cons (pv 3) pa_nil)))) (pw_and1 (pt_val (pe_has hX hr rfl (pa_cons (pv 1) (pa_cons (pv 4) pa_nil))))))))
   (fun _ _ _ _ _=>show PE _ _ (tVar 3) from pv 3)) pa_nil))),?_⟩
  have el:=al.len
  have lenP : (qs.map V.ref).length = hs.length:=by rw [List.length_map]; exact el.symm
  refine ⟨_,rfl,a,_,rfl,SqL.of ha,fun D hD=>?_⟩
  let t : Nat→Bool:=fun i=>held on i && ML.strikesH hs S i
  refine lc_enum (xs:=qs.map V.ref) (fun H' s'=>SqL.of (s' _ _ ha)) (fun j acc _=>acc = ((List.range j).filter t).map vI) (fun _ _ _ _ _ z=>z) hD (lt_size (by rw [lenP]; omega)) (fun _ _=>rfl) rfl ?_ ?_
  ·rintro j v acc H2 QA QB hv sm rfl ka kb
   obtain ⟨q,hq,rfl⟩:=map_ref_get hv
   obtain ⟨l,hl,hlq⟩:=al.get hq
   have et : t j = (held on j && l.any fun A=>within A S):=by
    show (held on j && (hs.getD j []).any fun A=>within A S) = _
    rw [List.getD_eq_getElem?_getD,hl]; rfl
   have er : (List.range (j + 1)).filter t = (List.range j).filter t ++ (if t j = true then [j] else []):=by
    rw [List.range_succ,List.filter_append]
    congr 1
    rw [List.filter_cons]
    rfl
   refine ⟨_,rfl,_,rfl,on,j,rfl,_,rfl,?_⟩
   cases e1 : held on j with
   | false =>
    rw [e1,Bool.false_and] at et
    refine iteF (iteF (kb _ (Same.refl _) ?_))
    rw [er,et,if_neg Bool.false_ne_true,List.append_nil]
   | true =>
    rw [e1,Bool.true_and] at et
    refine iteT ⟨_,rfl,_,rfl,S,q,l,rfl,sm _ _ hlq,hb l (List.mem_of_getElem? hl),fun H3 s3=>⟨_,rfl,?_⟩⟩
    rw [← et]
    refine ite2 (fun hz=>?_) (fun hz=>?_)
    ·refine ⟨_,rfl,ka _ _ s3 ?_⟩
     rw [er,if_pos hz,List.map_append]; rfl
    ·refine kb _ s3 ?_
     rw [er,if_neg hz,List.append_nil]
  ·rintro ys H2 rfl hy sm
   rw [lenP] at hy
   refine ⟨D,(List.range hs.length).filter t,rfl,hy,fun m hm=>?_,?_,fun H3 s3=>?_⟩
   ·have:=List.mem_range.mp (List.mem_filter.mp hm).1
    omega
   ·have:=List.length_filter_le t (List.range hs.length)
    rw [List.length_range] at this
    omega
   ·have:=k H3 (sm.trans s3)
    unfold ML.struckH at this
    rw [ML.mask_sum] at this
    exact this
end
end SC
end
section
set_option maxRecDepth 100000
set_option maxHeartbeats 4000000
namespace SC
open PySem L2 L3 Mo
abbrev sDefRules : Stmt:=top 82
section
variable {P : Program} {w : World} {K : PySem.W.Frag} {mg : Str→Option Value} {base : Heap}
theorem sub_vI {a b : Nat} (h : b≤a) : V.int ((a : Int) - (b : Int)) = vI (a - b):=by
 show V.int ((a : Int) - (b : Int)) = V.int ((a - b : Nat) : Int)
 congr 1
 omega
theorem sc_defRules : FnScope ["on","chosen","of_all","left"] ["on","chosen","of_all"] (defScope sDefRules):=⟨rfl,rfl,rfl,by decide +kernel,rfl,by decide +kernel,by decide +kernel⟩
def spDefRules : Sp:=fun vs H Q _=>∃ (on S : Nat) (a : Addr) (hs : List (List Nat)),vs = [vI on,vI S,.ref a]∧OAt H a hs∧hs.length≤10∧(∀ l∈hs,l.length≤1024)∧∀ H',Same H H'→Q (vI (ML.defH hs on S)) H'
theorem ok_defRules (D : DefAt K mg "defended_rules" sDefRules ["on","chosen","of_all"]) (hU : Has P w K mg base 3 "struck_out" ["on","chosen","of_all"] spStruckOut) : Has P w K mg base 4 "defended_rules" ["on","chosen","of_all"] spDefRules:=D.has fun f fd F=>by
 refine F.ok sc_defRules (fun vs H Q E h=>?_) (fun cdv A outer s H vs Q E hr h=>?_)
 ·obtain ⟨on,S,a,hs,rfl,_⟩:=h
  rfl
 ·obtain ⟨on,S,a,hs,rfl,ho,hn,hb,k⟩:=h
  refine ⟨_,pss_cons (ps_set (i:=3) sc_defRules.nd rfl (Or.inl rfl) (pe_op op_sub (pv 0) (pe_has hU hr rfl (pa_cons (pv 0) (pa_cons (pv 1) (pa_cons (pv 2) pa_nil))))))
   (pss_one (ps_ret (pe_op op_sub (pv 0) (pe_has hU hr rfl (pa_cons (pv 0) (pa_cons (pv 3) (pa_cons (pv 2) pa_nil))))))),?_⟩
  refine ⟨_,rfl,_,rfl,_,rfl,_,rfl,on,S,a,hs,rfl,ho,hn,hb,fun H1 s1=>⟨_,_,rfl,rfl,?_⟩⟩
  refine ⟨_,rfl,_,rfl,_,rfl,_,rfl,on,on - ML.struckH hs on S,a,hs,(by rw [← sub_vI (ML.struck_lt on S)]; rfl),ho.same s1,hn,hb,fun H2 s2=>⟨_,_,rfl,rfl,?_⟩⟩
  have:=k H2 (s1.trans s2)
  unfold ML.defH at this
  rw [← sub_vI (ML.struck_lt on _)] at this
  exact this
end
end SC
end
section
set_option maxRecDepth 100000
set_option maxHeartbeats 4000000
namespace SC
open PySem L2 L3 Mo
abbrev sDefended : Stmt:=top 86
def caDefended (on S : Nat) (c : Case) : MoA.Answer:=MoA.sets c [on,S] (.told [c.seen.defended on S])
def ansDefended (on S : Nat) (bs : Bytes) : List Int:=ansOf bs (caDefended on S)
def spDefended (P : Program) (w : World) (K : PySem.W.Frag) (Pt : Addr) : Sp:=fun vs H Q _=>∃ (on S : Nat) (a : Addr) (bs : Bytes),vs = [vI on,vI S,.ref a]∧SqL K H a (bs.map vI)∧bs.length≤8300∧H Pt = some (.tbl #[])∧∀ H' p,Kpt Pt H H'→H' p = some (.lst ((ansDefended on S bs).map V.int))→Q (.ref p) H'
section
variable {P : Program} {w : World} {K : PySem.W.Frag} {mg : Str→Option Value} {base : Heap}
theorem sc_defended : FnScope ["on","chosen","t","reading"] ["on","chosen","t"] (defScope sDefended):=⟨rfl,rfl,rfl,by decide +kernel,rfl,by decide +kernel,by decide +kernel⟩
theorem ok_defended {Cc C Cr Pt : Addr} (gD : gI mg "DONE" 0) (gO : gI mg "OUT_OF_BOUNDS" (-1)) (T : RdT K Cr) (hR : Has P w K mg base 9 "read_text" ["t"] (spReadText P w K Cc C Cr Pt)) (hZ : Has P w K mg base 2 "is_set_of_rules" ["case","chosen"] (spIsSet P w Cc C)) (hS : Has P w K mg base 7 "strikers_of_all" ["case"] (spStrikersAll P w Cc C)) (hX : Has P w K mg base 4 "defended_rules" ["on","chosen","of_all"] spDefRules)
 {f : Addr} {fd : FuncData} (F : Fun K "defended" "defended" sDefended f fd) : FnOk P w K mg base CX0 10 f fd ["on","chosen","t"] (spDefended P w K Pt):=by
 refine F.ok sc_defended (fun vs H Q E h=>?_) (fun cdv A outer s H vs Q E hr h=>?_)
 ·obtain ⟨on,S,a,bs,rfl,_⟩:=h
  rfl
 ·obtain ⟨on,S,a,bs,rfl,ha,hl,hPt,k⟩:=h
  refine ⟨_,pss_cons (ps_set (i:=3) sc_defended.nd rfl (Or.inl rfl) (pe_has hR hr rfl (pa_cons (pv 2) pa_nil)))
   (pss_cons (ps_if (pt_cmpR op_ne (pe_fld (pv 3) rfl) (pe_gI gD rfl) (nomark _)) (pss_one (ps_ret (pe_lst (pa_cons (pe_fld (pv 3) rfl) pa_nil)))) pss_nil)
   (pss_cons (ps_if (PW.pt (pw_or (pt_not (pt_val (pe_has hZ (hr.mono (by decide)) rfl (pa_cons (pe_fld (pv 3) rfl) (pa_cons (pv 0) pa_nil))))) (pw_or1 (pt_not (pt_val (pe_has hZ (hr.mono (by decide)) rfl (pa_cons (pe_fld (pv 3) rfl) (pa_cons (pv 1) pa_nil)))))))) (pss_one (ps_ret (pe_lst (pa_cons (pe_gI gO rfl) pa_nil)))) pss_nil)
   (pss_one (ps_ret (pe_lst (pa_cons (pe_gI gD rfl) (pa_cons (pe_has hX (hr.mono (by decide)) rfl (pa_cons (pv 0) (pa_cons (pv 1) (pa_cons (pe_has hS (hr.mono (by decide)) rfl (pa_cons (pe_fld (pv 3) rfl) pa_nil)) pa_nil)))) pa_nil))))))),?_⟩
  refine ⟨_,rfl,a,bs,rfl,ha,hl,hPt,fun H1 p s1 rd=>?_⟩
  refine desk_open (j:=3) (f:=caDefended on S) T rfl rd (fun i' ei l hl=>k _ l (s1.trans (Kpt.of (Same.new hl))) (by rw [upd_same,show ansDefended on S bs = [i'] from ei]; rfl)) fun d dx A' kd pl ea hp hc gd nm=>?_
  have k2 : ∀ (res : List Int) H2 l,MoANeutral.shown (caDefended on S d.form) = res→Same H1 H2→H2 l = none→Q (.ref l) (upd H2 l (.lst (res.map V.int))):=fun res H2 l er s2 hl=>k _ l ((s1.trans (Kpt.of s2)).trans (Kpt.of (Same.new hl))) (by rw [upd_same,show ansDefended on S bs = _ from ea,er])
  have gd2:=ML.good_ord gd
  refine ⟨_,rfl,p,Cr,dx,_,_,rfl,hp,T.cl,T.case,rdF_case _ _ _ _,_,rfl,A',ML.ordC d,on,rfl,hc,gd2,_,rfl,?_⟩
  have el : d.form.rules.length = (ML.ordC d).rules.length:=rfl
  cases hlt : decide (on < 2 ^ (ML.ordC d).rules.length) with
  | false =>
   have h : ¬ on < 2 ^ (ML.ordC d).rules.length:=of_decide_eq_false hlt
   refine iteT (iteT ⟨(by show 1≤sizeLine; decide),fun l hl=>k2 [-1] H1 l ?_ (Same.refl H1) hl⟩)
   unfold caDefended
   rw [sets2_no1 (by rw [el]; exact h)]; rfl
  | true =>
   have h : on < 2 ^ (ML.ordC d).rules.length:=of_decide_eq_true hlt
   refine iteF ⟨_,rfl,p,Cr,dx,_,_,rfl,hp,T.cl,T.case,rdF_case _ _ _ _,_,rfl,A',ML.ordC d,S,rfl,hc,gd2,_,rfl,?_⟩
   cases hlt2 : decide (S < 2 ^ (ML.ordC d).rules.length) with
   | false =>
    have h2 : ¬ S < 2 ^ (ML.ordC d).rules.length:=of_decide_eq_false hlt2
    refine iteT ⟨(by show 1≤sizeLine; decide),fun l hl=>k2 [-1] H1 l ?_ (Same.refl H1) hl⟩
    unfold caDefended
    rw [sets2_no2 (by rw [el]; exact h2)]; rfl
   | true =>
    have h2 : S < 2 ^ (ML.ordC d).rules.length:=of_decide_eq_true hlt2
    refine iteF ⟨_,rfl,_,rfl,_,rfl,p,Cr,dx,_,_,rfl,hp,T.cl,T.case,rdF_case _ _ _ _,A',ML.ordC d,rfl,hc,gd2,fun H2 v s2 v0 hv=>?_⟩
    have hle:=hits_le gd2
    refine ⟨on,S,v,_,rfl,hv,hle.1,hle.2,fun H3 s3=>⟨(by show 2≤sizeLine; decide),fun l hl=>k2 [0,((ML.defH (ML.ordC d).seen.hits on S : Nat) : Int)] H3 l ?_ (s2.trans s3) hl⟩⟩
    unfold caDefended
    rw [sets2_yes (by rw [el]; exact h) (by rw [el]; exact h2),form_seen gd,ML.def_eq (ML.hits_len _) h]
    rfl
end
end SC
end
namespace SC
open PySem PySem.W L2 L3
theorem in_int {x : Int} (h : Codec.inInt 0 4294967295 x = true) : 0≤x:=(Codec.inInt_iff.mp h).1
theorem in_list {ns : List Int} (h : Codec.inList 0 8300 (Codec.inInt 0 255) ns = true) : ns.length≤8300∧∀ x∈ns,(0 : Int)≤x∧x≤255:=by
 have h2 : (Codec.inLen 0 8300 ns && ns.all (Codec.inInt 0 255)) = true:=h
 rw [Bool.and_eq_true] at h2
 have h3 : Codec.inNat 0 8300 ns.length = true:=h2.1
 exact ⟨(Codec.inNat_iff.mp h3).2,fun x hx=>Codec.inInt_iff.mp (List.all_eq_true.mp h2.2 x hx)⟩
theorem within_all {x0 : Int} {x1 : Int} {x2 : List Int} {u : Unit} (h : Codec.withinAll [.int 0 4294967295,.int 0 4294967295,.list 0 8300 (.int 0 255)] (x0,x1,x2,u) = true) : (0≤x0)∧(0≤x1)∧(x2.length≤8300∧∀ x∈x2,(0 : Int)≤x∧x≤255):=by
 have h1 : (Codec.inInt 0 4294967295 x0 && (Codec.inInt 0 4294967295 x1 && (Codec.inList 0 8300 (Codec.inInt 0 255) x2 && (true)))) = true:=h
 simp only [Bool.and_true,Bool.and_eq_true] at h1
 exact ⟨in_int h1.1,in_int h1.2.1,in_list h1.2.2⟩
theorem nats_vI {ns : List Int} (h : ∀ x∈ns,(0 : Int)≤x∧x≤255) : (MoANeutral.nats ns).map vI = ns.map V.int:=by
 unfold MoANeutral.nats
 rw [List.map_map]
 refine List.map_congr_left fun x hx=>?_
 have:=(h x hx).1
 show V.int ((x.toNat : Nat) : Int) = V.int x
 rw [Int.toNat_of_nonneg this]
theorem toNat_vI {x : Int} (h : 0≤x) : vI x.toNat = V.int x:=by
 show V.int ((x.toNat : Nat) : Int) = V.int x
 rw [Int.toNat_of_nonneg h]
theorem nats_len {ns : List Int} {n : Nat} (h : ns.length≤n) : (MoANeutral.nats ns).length≤n:=by unfold MoANeutral.nats; rw [List.length_map]; exact h
def fAns : List GL.Arg→List Int
 | [.inl x0,.inl x1,.inr x2]=>ansDefended x0.toNat x1.toNat (MoANeutral.nats x2)
 | _=>[]
def okArgs (xs : List GL.Arg) : Prop:=∃ (x0 : Int) (x1 : Int) (x2 : List Int),xs = [.inl x0,.inl x1,.inr x2]∧(0≤x0)∧(0≤x1)∧(x2.length≤8300∧∀ x∈x2,(0 : Int)≤x∧x≤255)
end SC
open PySem PySem.W PyProof.Rows
set_option maxRecDepth 100000 in
set_option maxHeartbeats 0 in
theorem PySem.Challenge.cw_strikecase_s14_defended_holds : PySem.Challenge.rw_strikecase_s14_defended.Holds := by
 w_on; k_headS; (case hw=>exact ⟨[.int 0,.int 0,.list []],by decide +kernel,by decide +kernel⟩)
 k_fillS
 have said : PySem.Challenge.rw_strikecase_s14_defended.wellSaid = true:=by decide +kernel
 refine GL.walk_args (r:=PySem.Challenge.rw_strikecase_s14_defended) (k:=10) (x0:="put_in_order") (ps:=["on","chosen","t"]) (sp:=fun w K Pt=>SC.spDefended PySem.Challenge.rw_strikecase_s14_defended.prog w K Pt) (f:=SC.fAns) (ok:=SC.okArgs) ⟨rfl,by decide,by decide⟩ (fun w h Y=>PySem.W.kIn_of Y) ?zN ?zX ?zA ?zS ?zF
 case zN =>
  intro P
  rfl
 case zX =>
  decide +kernel
 case zA =>
  intro args hpre
  obtain ⟨a,h1,h2,e⟩:=(OpenSpec.pre_iff said args).mp hpre
  obtain ⟨x0,x1,x2,u⟩:=a
  have hb:=SC.within_all h1
  refine ⟨[.inl x0,.inl x1,.inr x2],e,⟨x0,x1,x2,rfl,hb⟩,rfl,fun ms hm=>?_,?_⟩
  ·have hm : Sum.inr ms∈([.inl x0,.inl x1,.inr x2] : List GL.Arg):=hm
   simp only [List.mem_cons,List.not_mem_nil,or_false,reduceCtorEq,false_or,Sum.inr.injEq] at hm
   subst hm; exact Nat.le_trans hb.2.2.1 (by decide)
  ·rw [e]
   exact (OpenSpec.post_iff said h1 _ []).mpr rfl
 case zS =>
  rintro w K H Pt xs vs ⟨x0,x1,x2,rfl,h0,h1,h2⟩ hPt pr
  cases pr with
  | cons r0 pr =>
   cases pr with
   | cons r1 pr =>
    cases pr with
    | cons r2 pr =>
     cases pr
     cases r0
     cases r1
     obtain ⟨a2,rfl,sq2⟩:=r2
     exact ⟨x0.toNat,x1.toNat,a2,MoANeutral.nats x2,by rw [SC.toNat_vI h0,SC.toNat_vI h1],by rw [SC.nats_vI h2.2]; exact sq2,SC.nats_len h2.1,hPt,fun H' p _ hp=>⟨p,rfl,hp⟩⟩
 case zF =>
  intro w mg fa h c0 Pt KX G hmg hcode
  have B : SC.Bs mg:=by
   refine' ⟨PySem.W.mg_none_of KX G ?b0,PySem.W.mg_none_of KX G ?b1,PySem.W.mg_none_of KX G ?b2,PySem.W.mg_none_of KX G ?b3,PySem.W.mg_none_of KX G ?b4,PySem.W.mg_none_of KX G ?b5,PySem.W.mg_none_of KX G ?b6⟩
   (case b0=>k_is)
   (case b1=>k_is)
   (case b2=>k_is)
   (case b3=>k_is)
   (case b4=>k_is)
   (case b5=>k_is)
   (case b6=>k_is)
  have Be : mg "enumerate" = none:=by
   refine' PySem.W.mg_none_of KX G ?bz
   (case bz=>k_is)
  have Bso : mg "sorted" = none:=by
   refine' PySem.W.mg_none_of KX G ?bz
   (case bz=>k_is)
  have Br : mg "range" = none:=by
   refine' PySem.W.mg_none_of KX G ?bz
   (case bz=>k_is)
  have Bsum : mg "sum" = none:=by
   refine' PySem.W.mg_none_of KX G ?bz
   (case bz=>k_is)
  have Gs : SC.Gs mg:=by
   refine' ⟨SC.gI_mk KX G ?qz0,SC.gI_mk KX G ?qz1,SC.gI_mk KX G ?qz2,SC.gI_mk KX G ?qz3,SC.gI_mk KX G ?qz4,SC.gI_mk KX G ?qz5,SC.gI_mk KX G ?qz6,SC.gI_mk KX G ?qz7,SC.gI_mk KX G ?qz8,SC.gI_mk KX G ?qz9⟩
   (case qz0=>k_is)
   (case qz1=>k_is)
   (case qz2=>k_is)
   (case qz3=>k_is)
   (case qz4=>k_is)
   (case qz5=>k_is)
   (case qz6=>k_is)
   (case qz7=>k_is)
   (case qz8=>k_is)
   (case qz9=>k_is)
  have G2 : SC.Gs2 mg:=by
   refine' ⟨SC.gI_mk KX G ?qz0,SC.gI_mk KX G ?qz1,SC.gI_mk KX G ?qz2,SC.gI_mk KX G ?qz3⟩
   (case qz0=>k_is)
   (case qz1=>k_is)
   (case qz2=>k_is)
   (case qz3=>k_is)
  have gLN : SC.gI mg "LONGEST_NAME" 15:=by
   refine' SC.gI_mk KX G ?qz
   (case qz=>k_is)
  have gLB : SC.gI mg "LONGEST_BODY" 6:=by
   refine' SC.gI_mk KX G ?qz
   (case qz=>k_is)
  have gMA : SC.gI mg "MOST_ATOMS" 64:=by
   refine' SC.gI_mk KX G ?qz
   (case qz=>k_is)
  have gBL : SC.gI mg "BLANK" 32:=by
   refine' SC.gI_mk KX G ?qz
   (case qz=>k_is)
  have gDN : SC.gI mg "DONE" 0:=by
   refine' SC.gI_mk KX G ?qz
   (case qz=>k_is)
  have gOB : SC.gI mg "OUT_OF_BOUNDS" (-1):=by
   refine' SC.gI_mk KX G ?qz
   (case qz=>k_is)
  have gWS : SC.gS mg "WEIGH_SIGN" ">":=by
   refine' SC.gS_mk KX G ?qz
   (case qz=>k_is)
  have gLA : SC.gS mg "LAW_ARROW" "->":=by
   refine' SC.gS_mk KX G ?qz
   (case qz=>k_is)
  have gRA : SC.gS mg "RULE_ARROW" "=>":=by
   refine' SC.gS_mk KX G ?qz
   (case qz=>k_is)
  have gLW : SC.gS mg "LAW_WORD" "law":=by
   refine' SC.gS_mk KX G ?qz
   (case qz=>k_is)
  have gRW : SC.gS mg "RULE_WORD" "rule":=by
   refine' SC.gS_mk KX G ?qz
   (case qz=>k_is)
  have gWW : SC.gS mg "WEIGH_WORD" "weigh":=by
   refine' SC.gS_mk KX G ?qz
   (case qz=>k_is)
  obtain ⟨CL,cL,tL⟩ : ∃ C,SC.ClsDef (L2.KOf KX) mg "Clause" "Clause.__init__" SC.sClauseInit C ["self","name","body","head"]∧SC.ClT (L2.KOf KX) C:=by
   dsimp only [L2.KOf]
   refine' ⟨_,SC.clsDef_mk KX G ?a ?i ?fn ?l ?c ?k ?mk ?kc ?b,⟨⟨?pg,?hd,?po,?sa⟩,SC.noAttr_mk ?n0,SC.noAttr_mk ?n1,SC.noAttr_mk ?n2⟩⟩
   (case a=>k_is)
   (case i=>k_is)
   (case fn=>k_is)
   (case l=>k_is)
   (case c=>k_is)
   (case k=>k_is)
   (case mk=>k_is)
   (case kc=>k_is)
   (case b=>exact fun _ _ _ _ _ _=>SC.us4 fun _ _ _ _=>rfl)
   (case pg=>k_is)
   (case hd=>k_is)
   (case po=>k_is)
   (case sa=>k_is)
   (case n0=>k_is)
   (case n1=>k_is)
   (case n2=>k_is)
  obtain ⟨CC,cC,tC⟩ : ∃ C,SC.ClsDef (L2.KOf KX) mg "Case" "Case.__init__" SC.sCaseInit C ["self"]∧SC.CsT (L2.KOf KX) C:=by
   dsimp only [L2.KOf]
   refine' ⟨_,SC.clsDef_mk KX G ?a ?i ?fn ?l ?c ?k ?mk ?kc ?b,⟨⟨?pg,?hd,?po,?sa⟩,SC.noAttr_mk ?n0,SC.noAttr_mk ?n1,SC.noAttr_mk ?n2,SC.noAttr_mk ?n3⟩⟩
   (case a=>k_is)
   (case i=>k_is)
   (case fn=>k_is)
   (case l=>k_is)
   (case c=>k_is)
   (case k=>k_is)
   (case mk=>k_is)
   (case kc=>k_is)
   (case b=>exact fun _ _ _ _ _ _=>SC.us1 fun _=>rfl)
   (case pg=>k_is)
   (case hd=>k_is)
   (case po=>k_is)
   (case sa=>k_is)
   (case n0=>k_is)
   (case n1=>k_is)
   (case n2=>k_is)
   (case n3=>k_is)
  obtain ⟨CR,cR,tR⟩ : ∃ C,SC.ClsDef (L2.KOf KX) mg "Reading" "Reading.__init__" SC.sReadingInit C ["self","refusal","case","kind","place"]∧SC.RdT (L2.KOf KX) C:=by
   dsimp only [L2.KOf]
   refine' ⟨_,SC.clsDef_mk KX G ?a ?i ?fn ?l ?c ?k ?mk ?kc ?b,⟨⟨?pg,?hd,?po,?sa⟩,SC.noAttr_mk ?n0,SC.noAttr_mk ?n1,SC.noAttr_mk ?n2,SC.noAttr_mk ?n3⟩⟩
   (case a=>k_is)
   (case i=>k_is)
   (case fn=>k_is)
   (case l=>k_is)
   (case c=>k_is)
   (case k=>k_is)
   (case mk=>k_is)
   (case kc=>k_is)
   (case b=>exact fun _ _ _ _ _ _=>SC.us5 fun _ _ _ _ _=>rfl)
   (case pg=>k_is)
   (case hd=>k_is)
   (case po=>k_is)
   (case sa=>k_is)
   (case n0=>k_is)
   (case n1=>k_is)
   (case n2=>k_is)
   (case n3=>k_is)
  have dSpell : L3.DefAt (L2.KOf KX) mg "spell" SC.sSpell ["text"]:=by
   dsimp only [L2.KOf]
   refine' SC.defAt_mk KX G ?a ?l ?c ?k ?b
   (case a=>k_is)
   (case l=>k_is)
   (case c=>k_is)
   (case k=>k_is)
   (case b=>exact fun _ _ _ _ _ _=>SC.us1 fun _=>rfl)
  have dSplit : L3.DefAt (L2.KOf KX) mg "split_at" SC.sSplit ["row","mark"]:=by
   dsimp only [L2.KOf]
   refine' SC.defAt_mk KX G ?a ?l ?c ?k ?b
   (case a=>k_is)
   (case l=>k_is)
   (case c=>k_is)
   (case k=>k_is)
   (case b=>exact fun _ _ _ _ _ _=>SC.us2 fun _ _=>rfl)
  have dWoEnd : L3.DefAt (L2.KOf KX) mg "without_ending" SC.sWoEnd ["word","sign"]:=by
   dsimp only [L2.KOf]
   refine' SC.defAt_mk KX G ?a ?l ?c ?k ?b
   (case a=>k_is)
   (case l=>k_is)
   (case c=>k_is)
   (case k=>k_is)
   (case b=>exact fun _ _ _ _ _ _=>SC.us2 fun _ _=>rfl)
  have dIsLetter : L3.DefAt (L2.KOf KX) mg "is_letter" SC.sIsLetter ["byte"]:=by
   dsimp only [L2.KOf]
   refine' SC.defAt_mk KX G ?a ?l ?c ?k ?b
   (case a=>k_is)
   (case l=>k_is)
   (case c=>k_is)
   (case k=>k_is)
   (case b=>exact fun _ _ _ _ _ _=>SC.us1 fun _=>rfl)
  have dIsNameByte : L3.DefAt (L2.KOf KX) mg "is_name_byte" SC.sIsNameByte ["byte"]:=by
   dsimp only [L2.KOf]
   refine' SC.defAt_mk KX G ?a ?l ?c ?k ?b
   (case a=>k_is)
   (case l=>k_is)
   (case c=>k_is)
   (case k=>k_is)
   (case b=>exact fun _ _ _ _ _ _=>SC.us1 fun _=>rfl)
  have dIsName : L3.DefAt (L2.KOf KX) mg "is_name" SC.sIsName ["word"]:=by
   dsimp only [L2.KOf]
   refine' SC.defAt_mk KX G ?a ?l ?c ?k ?b
   (case a=>k_is)
   (case l=>k_is)
   (case c=>k_is)
   (case k=>k_is)
   (case b=>exact fun _ _ _ _ _ _=>SC.us1 fun _=>rfl)
  have dParseLit : L3.DefAt (L2.KOf KX) mg "parse_literal" SC.sParseLit ["word"]:=by
   dsimp only [L2.KOf]
   refine' SC.defAt_mk KX G ?a ?l ?c ?k ?b
   (case a=>k_is)
   (case l=>k_is)
   (case c=>k_is)
   (case k=>k_is)
   (case b=>exact fun _ _ _ _ _ _=>SC.us1 fun _=>rfl)
  have dParseBody : L3.DefAt (L2.KOf KX) mg "parse_body" SC.sParseBody ["words"]:=by
   dsimp only [L2.KOf]
   refine' SC.defAt_mk KX G ?a ?l ?c ?k ?b
   (case a=>k_is)
   (case l=>k_is)
   (case c=>k_is)
   (case k=>k_is)
   (case b=>exact fun _ _ _ _ _ _=>SC.us1 fun _=>rfl)
  have dParseClause : L3.DefAt (L2.KOf KX) mg "parse_clause" SC.sParseClause ["words","arrow"]:=by
   dsimp only [L2.KOf]
   refine' SC.defAt_mk KX G ?a ?l ?c ?k ?b
   (case a=>k_is)
   (case l=>k_is)
   (case c=>k_is)
   (case k=>k_is)
   (case b=>exact fun _ _ _ _ _ _=>SC.us2 fun _ _=>rfl)
  have dParseWeight : L3.DefAt (L2.KOf KX) mg "parse_weight" SC.sParseWeight ["words"]:=by
   dsimp only [L2.KOf]
   refine' SC.defAt_mk KX G ?a ?l ?c ?k ?b
   (case a=>k_is)
   (case l=>k_is)
   (case c=>k_is)
   (case k=>k_is)
   (case b=>exact fun _ _ _ _ _ _=>SC.us1 fun _=>rfl)
  have dLitAtoms : L3.DefAt (L2.KOf KX) mg "literal_atoms" SC.sLitAtoms ["clause"]:=by
   dsimp only [L2.KOf]
   refine' SC.defAt_mk KX G ?a ?l ?c ?k ?b
   (case a=>k_is)
   (case l=>k_is)
   (case c=>k_is)
   (case k=>k_is)
   (case b=>exact fun _ _ _ _ _ _=>SC.us1 fun _=>rfl)
  have dRuleAtoms : L3.DefAt (L2.KOf KX) mg "rule_atoms" SC.sRuleAtoms ["rule"]:=by
   dsimp only [L2.KOf]
   refine' SC.defAt_mk KX G ?a ?l ?c ?k ?b
   (case a=>k_is)
   (case l=>k_is)
   (case c=>k_is)
   (case k=>k_is)
   (case b=>exact fun _ _ _ _ _ _=>SC.us1 fun _=>rfl)
  have dAddAtoms : L3.DefAt (L2.KOf KX) mg "add_atoms" SC.sAddAtoms ["case","names"]:=by
   dsimp only [L2.KOf]
   refine' SC.defAt_mk KX G ?a ?l ?c ?k ?b
   (case a=>k_is)
   (case l=>k_is)
   (case c=>k_is)
   (case k=>k_is)
   (case b=>exact fun _ _ _ _ _ _=>SC.us2 fun _ _=>rfl)
  have dAddLaw : L3.DefAt (L2.KOf KX) mg "add_law" SC.sAddLaw ["case","law"]:=by
   dsimp only [L2.KOf]
   refine' SC.defAt_mk KX G ?a ?l ?c ?k ?b
   (case a=>k_is)
   (case l=>k_is)
   (case c=>k_is)
   (case k=>k_is)
   (case b=>exact fun _ _ _ _ _ _=>SC.us2 fun _ _=>rfl)
  have dAddRule : L3.DefAt (L2.KOf KX) mg "add_rule" SC.sAddRule ["case","rule"]:=by
   dsimp only [L2.KOf]
   refine' SC.defAt_mk KX G ?a ?l ?c ?k ?b
   (case a=>k_is)
   (case l=>k_is)
   (case c=>k_is)
   (case k=>k_is)
   (case b=>exact fun _ _ _ _ _ _=>SC.us2 fun _ _=>rfl)
  have dAddWeight : L3.DefAt (L2.KOf KX) mg "add_weight" SC.sAddWeight ["case","over","under"]:=by
   dsimp only [L2.KOf]
   refine' SC.defAt_mk KX G ?a ?l ?c ?k ?b
   (case a=>k_is)
   (case l=>k_is)
   (case c=>k_is)
   (case k=>k_is)
   (case b=>exact fun _ _ _ _ _ _=>SC.us3 fun _ _ _=>rfl)
  have dOwItself : L3.DefAt (L2.KOf KX) mg "outweighs_itself_with" SC.sOwItself ["case","over","under"]:=by
   dsimp only [L2.KOf]
   refine' SC.defAt_mk KX G ?a ?l ?c ?k ?b
   (case a=>k_is)
   (case l=>k_is)
   (case c=>k_is)
   (case k=>k_is)
   (case b=>exact fun _ _ _ _ _ _=>SC.us3 fun _ _ _=>rfl)
  have dPutOrder : L3.DefAt (L2.KOf KX) mg "put_in_order" SC.sPutOrder ["case"]:=by
   dsimp only [L2.KOf]
   refine' SC.defAt_mk KX G ?a ?l ?c ?k ?b
   (case a=>k_is)
   (case l=>k_is)
   (case c=>k_is)
   (case k=>k_is)
   (case b=>exact fun _ _ _ _ _ _=>SC.us1 fun _=>rfl)
  have dPlaces : L3.DefAt (L2.KOf KX) mg "places_by_literal" SC.sPlaces ["clauses"]:=by
   dsimp only [L2.KOf]
   refine' SC.defAt_mk KX G ?a ?l ?c ?k ?b
   (case a=>k_is)
   (case l=>k_is)
   (case c=>k_is)
   (case k=>k_is)
   (case b=>exact fun _ _ _ _ _ _=>SC.us1 fun _=>rfl)
  have dWhatFollows : L3.DefAt (L2.KOf KX) mg "what_follows" SC.sWhatFollows ["clauses"]:=by
   dsimp only [L2.KOf]
   refine' SC.defAt_mk KX G ?a ?l ?c ?k ?b
   (case a=>k_is)
   (case l=>k_is)
   (case c=>k_is)
   (case k=>k_is)
   (case b=>exact fun _ _ _ _ _ _=>SC.us1 fun _=>rfl)
  have dHasOpp : L3.DefAt (L2.KOf KX) mg "has_opposites" SC.sHasOpp ["literals"]:=by
   dsimp only [L2.KOf]
   refine' SC.defAt_mk KX G ?a ?l ?c ?k ?b
   (case a=>k_is)
   (case l=>k_is)
   (case c=>k_is)
   (case k=>k_is)
   (case b=>exact fun _ _ _ _ _ _=>SC.us1 fun _=>rfl)
  have dNameTaken : L3.DefAt (L2.KOf KX) mg "name_is_taken" SC.sNameTaken ["case","name"]:=by
   dsimp only [L2.KOf]
   refine' SC.defAt_mk KX G ?a ?l ?c ?k ?b
   (case a=>k_is)
   (case l=>k_is)
   (case c=>k_is)
   (case k=>k_is)
   (case b=>exact fun _ _ _ _ _ _=>SC.us2 fun _ _=>rfl)
  have dSameClause : L3.DefAt (L2.KOf KX) mg "same_clause_among" SC.sSameClause ["peers","clause"]:=by
   dsimp only [L2.KOf]
   refine' SC.defAt_mk KX G ?a ?l ?c ?k ?b
   (case a=>k_is)
   (case l=>k_is)
   (case c=>k_is)
   (case k=>k_is)
   (case b=>exact fun _ _ _ _ _ _=>SC.us2 fun _ _=>rfl)
  have dTooMany : L3.DefAt (L2.KOf KX) mg "too_many_atoms" SC.sTooMany ["case","names"]:=by
   dsimp only [L2.KOf]
   refine' SC.defAt_mk KX G ?a ?l ?c ?k ?b
   (case a=>k_is)
   (case l=>k_is)
   (case c=>k_is)
   (case k=>k_is)
   (case b=>exact fun _ _ _ _ _ _=>SC.us2 fun _ _=>rfl)
  have dClauseFault : L3.DefAt (L2.KOf KX) mg "clause_fault" SC.sClauseFault ["case","clause","peers","most","names"]:=by
   dsimp only [L2.KOf]
   refine' SC.defAt_mk KX G ?a ?l ?c ?k ?b
   (case a=>k_is)
   (case l=>k_is)
   (case c=>k_is)
   (case k=>k_is)
   (case b=>exact fun _ _ _ _ _ _=>SC.us5 fun _ _ _ _ _=>rfl)
  have dLawFault : L3.DefAt (L2.KOf KX) mg "law_fault" SC.sLawFault ["case","law"]:=by
   dsimp only [L2.KOf]
   refine' SC.defAt_mk KX G ?a ?l ?c ?k ?b
   (case a=>k_is)
   (case l=>k_is)
   (case c=>k_is)
   (case k=>k_is)
   (case b=>exact fun _ _ _ _ _ _=>SC.us2 fun _ _=>rfl)
  have dRuleFault : L3.DefAt (L2.KOf KX) mg "rule_fault" SC.sRuleFault ["case","rule"]:=by
   dsimp only [L2.KOf]
   refine' SC.defAt_mk KX G ?a ?l ?c ?k ?b
   (case a=>k_is)
   (case l=>k_is)
   (case c=>k_is)
   (case k=>k_is)
   (case b=>exact fun _ _ _ _ _ _=>SC.us2 fun _ _=>rfl)
  have dWeightFault : L3.DefAt (L2.KOf KX) mg "weight_fault" SC.sWeightFault ["case","pair"]:=by
   dsimp only [L2.KOf]
   refine' SC.defAt_mk KX G ?a ?l ?c ?k ?b
   (case a=>k_is)
   (case l=>k_is)
   (case c=>k_is)
   (case k=>k_is)
   (case b=>exact fun _ _ _ _ _ _=>SC.us2 fun _ _=>rfl)
  have dTakeLaw : L3.DefAt (L2.KOf KX) mg "take_law" SC.sTakeLaw ["case","words"]:=by
   dsimp only [L2.KOf]
   refine' SC.defAt_mk KX G ?a ?l ?c ?k ?b
   (case a=>k_is)
   (case l=>k_is)
   (case c=>k_is)
   (case k=>k_is)
   (case b=>exact fun _ _ _ _ _ _=>SC.us2 fun _ _=>rfl)
  have dTakeRule : L3.DefAt (L2.KOf KX) mg "take_rule" SC.sTakeRule ["case","words"]:=by
   dsimp only [L2.KOf]
   refine' SC.defAt_mk KX G ?a ?l ?c ?k ?b
   (case a=>k_is)
   (case l=>k_is)
   (case c=>k_is)
   (case k=>k_is)
   (case b=>exact fun _ _ _ _ _ _=>SC.us2 fun _ _=>rfl)
  have dTakeWeight : L3.DefAt (L2.KOf KX) mg "take_weight" SC.sTakeWeight ["case","words"]:=by
   dsimp only [L2.KOf]
   refine' SC.defAt_mk KX G ?a ?l ?c ?k ?b
   (case a=>k_is)
   (case l=>k_is)
   (case c=>k_is)
   (case k=>k_is)
   (case b=>exact fun _ _ _ _ _ _=>SC.us2 fun _ _=>rfl)
  have dTakeLine : L3.DefAt (L2.KOf KX) mg "take_line" SC.sTakeLine ["case","line"]:=by
   dsimp only [L2.KOf]
   refine' SC.defAt_mk KX G ?a ?l ?c ?k ?b
   (case a=>k_is)
   (case l=>k_is)
   (case c=>k_is)
   (case k=>k_is)
   (case b=>exact fun _ _ _ _ _ _=>SC.us2 fun _ _=>rfl)
  have dReadText : L3.DefAt (L2.KOf KX) mg "read_text" SC.sReadText ["t"]:=by
   dsimp only [L2.KOf]
   refine' SC.defAt_mk KX G ?a ?l ?c ?k ?b
   (case a=>k_is)
   (case l=>k_is)
   (case c=>k_is)
   (case k=>k_is)
   (case b=>exact fun _ _ _ _ _ _=>SC.us1 fun _=>rfl)
  have dHasRule : L3.DefAt (L2.KOf KX) mg "has_rule" SC.sHasRule ["chosen","i"]:=by
   dsimp only [L2.KOf]
   refine' SC.defAt_mk KX G ?a ?l ?c ?k ?b
   (case a=>k_is)
   (case l=>k_is)
   (case c=>k_is)
   (case k=>k_is)
   (case b=>exact fun _ _ _ _ _ _=>SC.us2 fun _ _=>rfl)
  have dNumSets : L3.DefAt (L2.KOf KX) mg "number_of_sets" SC.sNumSets ["case"]:=by
   dsimp only [L2.KOf]
   refine' SC.defAt_mk KX G ?a ?l ?c ?k ?b
   (case a=>k_is)
   (case l=>k_is)
   (case c=>k_is)
   (case k=>k_is)
   (case b=>exact fun _ _ _ _ _ _=>SC.us1 fun _=>rfl)
  have dRulesIn : L3.DefAt (L2.KOf KX) mg "rules_in" SC.sRulesIn ["case","chosen"]:=by
   dsimp only [L2.KOf]
   refine' SC.defAt_mk KX G ?a ?l ?c ?k ?b
   (case a=>k_is)
   (case l=>k_is)
   (case c=>k_is)
   (case k=>k_is)
   (case b=>exact fun _ _ _ _ _ _=>SC.us2 fun _ _=>rfl)
  have dClausesWith : L3.DefAt (L2.KOf KX) mg "clauses_with" SC.sClausesWith ["case","chosen"]:=by
   dsimp only [L2.KOf]
   refine' SC.defAt_mk KX G ?a ?l ?c ?k ?b
   (case a=>k_is)
   (case l=>k_is)
   (case c=>k_is)
   (case k=>k_is)
   (case b=>exact fun _ _ _ _ _ _=>SC.us2 fun _ _=>rfl)
  have dFollowsFrom : L3.DefAt (L2.KOf KX) mg "follows_from" SC.sFollowsFrom ["case","chosen"]:=by
   dsimp only [L2.KOf]
   refine' SC.defAt_mk KX G ?a ?l ?c ?k ?b
   (case a=>k_is)
   (case l=>k_is)
   (case c=>k_is)
   (case k=>k_is)
   (case b=>exact fun _ _ _ _ _ _=>SC.us2 fun _ _=>rfl)
  have dSetClashes : L3.DefAt (L2.KOf KX) mg "set_clashes" SC.sSetClashes ["case","chosen"]:=by
   dsimp only [L2.KOf]
   refine' SC.defAt_mk KX G ?a ?l ?c ?k ?b
   (case a=>k_is)
   (case l=>k_is)
   (case c=>k_is)
   (case k=>k_is)
   (case b=>exact fun _ _ _ _ _ _=>SC.us2 fun _ _=>rfl)
  have dIsWithin : L3.DefAt (L2.KOf KX) mg "is_within" SC.sIsWithin ["chosen","other"]:=by
   dsimp only [L2.KOf]
   refine' SC.defAt_mk KX G ?a ?l ?c ?k ?b
   (case a=>k_is)
   (case l=>k_is)
   (case c=>k_is)
   (case k=>k_is)
   (case b=>exact fun _ _ _ _ _ _=>SC.us2 fun _ _=>rfl)
  have dLeastClashes : L3.DefAt (L2.KOf KX) mg "least_clashes" SC.sLeastClashes ["case"]:=by
   dsimp only [L2.KOf]
   refine' SC.defAt_mk KX G ?a ?l ?c ?k ?b
   (case a=>k_is)
   (case l=>k_is)
   (case c=>k_is)
   (case k=>k_is)
   (case b=>exact fun _ _ _ _ _ _=>SC.us1 fun _=>rfl)
  have dIsSet : L3.DefAt (L2.KOf KX) mg "is_set_of_rules" SC.sIsSet ["case","chosen"]:=by
   dsimp only [L2.KOf]
   refine' SC.defAt_mk KX G ?a ?l ?c ?k ?b
   (case a=>k_is)
   (case l=>k_is)
   (case c=>k_is)
   (case k=>k_is)
   (case b=>exact fun _ _ _ _ _ _=>SC.us2 fun _ _=>rfl)
  have dSetOf : L3.DefAt (L2.KOf KX) mg "set_of" SC.sSetOf ["numbers"]:=by
   dsimp only [L2.KOf]
   refine' SC.defAt_mk KX G ?a ?l ?c ?k ?b
   (case a=>k_is)
   (case l=>k_is)
   (case c=>k_is)
   (case k=>k_is)
   (case b=>exact fun _ _ _ _ _ _=>SC.us1 fun _=>rfl)
  have dOutBy : L3.DefAt (L2.KOf KX) mg "outweighed_by" SC.sOutBy ["case","i"]:=by
   dsimp only [L2.KOf]
   refine' SC.defAt_mk KX G ?a ?l ?c ?k ?b
   (case a=>k_is)
   (case l=>k_is)
   (case c=>k_is)
   (case k=>k_is)
   (case b=>exact fun _ _ _ _ _ _=>SC.us2 fun _ _=>rfl)
  have dStrikersFrom : L3.DefAt (L2.KOf KX) mg "strikers_from" SC.sStrikersFrom ["least","case","i"]:=by
   dsimp only [L2.KOf]
   refine' SC.defAt_mk KX G ?a ?l ?c ?k ?b
   (case a=>k_is)
   (case l=>k_is)
   (case c=>k_is)
   (case k=>k_is)
   (case b=>exact fun _ _ _ _ _ _=>SC.us3 fun _ _ _=>rfl)
  have dStrikersAll : L3.DefAt (L2.KOf KX) mg "strikers_of_all" SC.sStrikersAll ["case"]:=by
   dsimp only [L2.KOf]
   refine' SC.defAt_mk KX G ?a ?l ?c ?k ?b
   (case a=>k_is)
   (case l=>k_is)
   (case c=>k_is)
   (case k=>k_is)
   (case b=>exact fun _ _ _ _ _ _=>SC.us1 fun _=>rfl)
  have dDoesStrike : L3.DefAt (L2.KOf KX) mg "does_strike" SC.sDoesStrike ["chosen","strikers"]:=by
   dsimp only [L2.KOf]
   refine' SC.defAt_mk KX G ?a ?l ?c ?k ?b
   (case a=>k_is)
   (case l=>k_is)
   (case c=>k_is)
   (case k=>k_is)
   (case b=>exact fun _ _ _ _ _ _=>SC.us2 fun _ _=>rfl)
  have dStruckOut : L3.DefAt (L2.KOf KX) mg "struck_out" SC.sStruckOut ["on","chosen","of_all"]:=by
   dsimp only [L2.KOf]
   refine' SC.defAt_mk KX G ?a ?l ?c ?k ?b
   (case a=>k_is)
   (case l=>k_is)
   (case c=>k_is)
   (case k=>k_is)
   (case b=>exact fun _ _ _ _ _ _=>SC.us3 fun _ _ _=>rfl)
  have dDefRules : L3.DefAt (L2.KOf KX) mg "defended_rules" SC.sDefRules ["on","chosen","of_all"]:=by
   dsimp only [L2.KOf]
   refine' SC.defAt_mk KX G ?a ?l ?c ?k ?b
   (case a=>k_is)
   (case l=>k_is)
   (case c=>k_is)
   (case k=>k_is)
   (case b=>exact fun _ _ _ _ _ _=>SC.us3 fun _ _ _=>rfl)
  have dDefended : L3.DefAt (L2.KOf KX) mg "defended" SC.sDefended ["on","chosen","t"]:=by
   dsimp only [L2.KOf]
   refine' SC.defAt_mk KX G ?a ?l ?c ?k ?b
   (case a=>k_is)
   (case l=>k_is)
   (case c=>k_is)
   (case k=>k_is)
   (case b=>exact fun _ _ _ _ _ _=>SC.us3 fun _ _ _=>rfl)
  obtain ⟨f,fd,hF,hb,hm⟩:=dDefended
  have e:=hmg.symm.trans hm
  cases e
  refine ⟨fd,hb,fun base _ _ TB=>?_⟩
  have hSpell:=SC.ok_spell (P:=PySem.Challenge.rw_strikecase_s14_defended.prog) (w:=w) (base:=base) B dSpell
  have hSplit:=SC.ok_split (P:=PySem.Challenge.rw_strikecase_s14_defended.prog) (w:=w) (base:=base) B dSplit
  have hWo:=SC.ok_woEnd B dWoEnd hSpell
  have hIL:=SC.ok_isLetter (P:=PySem.Challenge.rw_strikecase_s14_defended.prog) (w:=w) (base:=base) B dIsLetter
  have hNB:=SC.ok_isNameByte B dIsNameByte hIL
  have hN:=SC.ok_isName B gLN dIsName hIL hNB
  have hPL:=SC.ok_parseLit B dParseLit hSpell hN
  have hCl:=SC.ok_clause (P:=PySem.Challenge.rw_strikecase_s14_defended.prog) (w:=w) (base:=base) tL cL
  have hPB:=SC.ok_parseBody B gLB dParseBody hWo hPL
  have hPC:=SC.ok_parseClause B dParseClause hSpell hWo hN hPL hPB hCl
  have hPW:=SC.ok_parseWeight B gWS dParseWeight hSpell hN
  have hCs:=SC.ok_case (P:=PySem.Challenge.rw_strikecase_s14_defended.prog) (w:=w) (base:=base) tC cC
  have hLA:=SC.ok_litAtoms (P:=PySem.Challenge.rw_strikecase_s14_defended.prog) (w:=w) (base:=base) tL dLitAtoms
  have hRA:=SC.ok_ruleAtoms tL dRuleAtoms hLA
  have hAA:=SC.ok_addAtoms (P:=PySem.Challenge.rw_strikecase_s14_defended.prog) (w:=w) (base:=base) tC dAddAtoms
  have hAL:=SC.ok_addLaw tC dAddLaw hLA hAA
  have hAR:=SC.ok_addRule tC dAddRule hRA hAA
  have hAW:=SC.ok_addWeight (P:=PySem.Challenge.rw_strikecase_s14_defended.prog) (w:=w) (base:=base) (C:=CL) tC dAddWeight
  have hOI:=SC.ok_owItself (P:=PySem.Challenge.rw_strikecase_s14_defended.prog) (w:=w) (base:=base) (C:=CL) tC dOwItself
  have hPO:=SC.ok_putOrder (P:=PySem.Challenge.rw_strikecase_s14_defended.prog) (w:=w) Bso tC tL TB (SC.defC_of KX dPutOrder hcode)
  have hPl:=SC.ok_places (P:=PySem.Challenge.rw_strikecase_s14_defended.prog) (w:=w) (base:=base) Be tL dPlaces
  have hWF:=SC.ok_whatFollows (P:=PySem.Challenge.rw_strikecase_s14_defended.prog) (w:=w) (base:=base) B tL dWhatFollows hPl
  have hHO:=SC.ok_hasOpp (P:=PySem.Challenge.rw_strikecase_s14_defended.prog) (w:=w) (base:=base) B dHasOpp
  have hNT:=SC.ok_nameTaken (P:=PySem.Challenge.rw_strikecase_s14_defended.prog) (w:=w) (base:=base) B tC tL dNameTaken
  have hSC:=SC.ok_sameClause (P:=PySem.Challenge.rw_strikecase_s14_defended.prog) (w:=w) (base:=base) B tL dSameClause
  have hTM:=SC.ok_tooMany (P:=PySem.Challenge.rw_strikecase_s14_defended.prog) (w:=w) (base:=base) (C:=CL) B tC gMA dTooMany
  have hCF:=SC.ok_clauseFault B Gs tL dClauseFault hNT hSC hTM
  have hLF:=SC.ok_lawFault B Gs tC dLawFault hCF hLA hWF hHO
  have hRF:=SC.ok_ruleFault Gs tC dRuleFault hCF hRA
  have hWg:=SC.ok_weightFault Gs tC tL dWeightFault hOI
  have hTL:=SC.ok_takeLaw Gs gLA dTakeLaw hPC hLF hAL
  have hTR:=SC.ok_takeRule Gs gRA dTakeRule hPC hRF hAR
  have hTW:=SC.ok_takeWeight Gs dTakeWeight hPW hWg hAW
  have hTk:=SC.ok_takeLine Gs gBL gLW gRW gWW dTakeLine hSpell hSplit hTL hTR hTW
  have hRd:=SC.ok_reading (P:=PySem.Challenge.rw_strikecase_s14_defended.prog) (w:=w) (base:=base) tR cR
  have hRT:=SC.ok_readText B Gs G2 dReadText hSplit hCs hRd hTk hPO
  have hNS:=SC.ok_numSets (P:=PySem.Challenge.rw_strikecase_s14_defended.prog) (w:=w) (base:=base) (C:=CL) B tC dNumSets
  have hHR:=SC.ok_hasRule (P:=PySem.Challenge.rw_strikecase_s14_defended.prog) (w:=w) (base:=base) dHasRule
  have hRI:=SC.ok_rulesIn (C:=CL) Be tC dRulesIn hHR
  have hCW:=SC.ok_clausesWith B tC tL dClausesWith hCl hRI
  have hFF:=SC.ok_followsFrom dFollowsFrom hCW hWF
  have hSCl:=SC.ok_setClashes dSetClashes hFF hHO
  have hIW:=SC.ok_isWithin (P:=PySem.Challenge.rw_strikecase_s14_defended.prog) (w:=w) (base:=base) dIsWithin
  have hLC:=SC.ok_leastClashes B Br dLeastClashes hNS hIW hSCl
  have hIS:=SC.ok_isSet dIsSet hNS
  have hSO:=SC.ok_setOf (P:=PySem.Challenge.rw_strikecase_s14_defended.prog) (w:=w) (base:=base) Bsum dSetOf
  have hOB:=SC.ok_outBy Be tC tL dOutBy hSO
  have hSF:=SC.ok_strikersFrom dStrikersFrom hOB hSO hHR
  have hSA:=SC.ok_strikersAll B Br tC dStrikersAll hLC hSF
  have hDS:=SC.ok_doesStrike B dDoesStrike hIW
  have hSU:=SC.ok_struckOut Be dStruckOut hSO hHR hDS
  have hDe:=SC.ok_defRules dDefRules hSU
  exact SC.ok_defended gDN gOB tR hRT hIS hSA hDe hF
end
