import PyProof.Rows.All
import KE.BitLaws
import Wide.All
import OpenK.AllK
import Wide.FinOn
import PyProof.EqAt
import PyProof.EqKinds
import PyProof.TupleCall
import Open.SpecLaws
import KE.OsHead
import KE.OsGo
import KE.KRevIter
import KE.KDictOf
import KE.KDictList
import KE.IntBitsLaws
import PySem.Challenge.RW_pointgame_s01_answers
set_option Elab.async false
set_option linter.all false
set_option maxRecDepth 100000
set_option compiler.extract_closed false
noncomputable section
section
namespace Pg
open Rc82
theorem name_back {x:Nat} (h:isName x=true) : 117+(x - 117)=x:=by
 unfold isName at h
 simp only [Bool.and_eq_true,decide_eq_true_eq] at h
 omega
theorem read_written :∀ (k:Nat) (t:Text) (f:Form) (r:Text),Rc82.read k t=some (f,r)→t=written f ++ r:=by
 intro k
 induction k with
 | zero=>intro t f r h;simp [Rc82.read] at h
 | succ k ih =>
  intro t f r h
  cases t with
  | nil=>simp [Rc82.read] at h
  | cons c t =>
   unfold Rc82.read at h
   split at h
   ·rename_i hc
    split at h
    ·rename_i x y u
     split at h
     ·rename_i hn
      have e1:=name_back hn.1
      have e2:=name_back hn.2
      rcases hc with rfl | rfl
      ·simp at h
       obtain ⟨rfl,rfl⟩:=h
       simp [written,e1,e2]
      ·simp at h
       obtain ⟨rfl,rfl⟩:=h
       simp [written,e1,e2]
     ·cases h
    ·cases h
   ·split at h
    ·rename_i hc
     split at h
     ·rename_i x u
      split at h
      ·rename_i hn
       have e1:=name_back hn
       rcases hc with rfl | rfl
       ·simp at h
        obtain ⟨rfl,rfl⟩:=h
        simp [written,e1]
       ·simp at h
        obtain ⟨rfl,rfl⟩:=h
        simp [written,e1]
      ·cases h
     ·cases h
    ·split at h
     ·rename_i hc
      subst hc
      cases e:Rc82.read k t with
      | none=>rw [e] at h;cases h
      | some x =>
       rw [e] at h
       simp at h
       obtain ⟨rfl,rfl⟩:=h
       rw [ih t x.1 x.2 e]
       simp [written]
     ·split at h
      ·rename_i hc
       subst hc
       cases e:Rc82.read k t with
       | none=>rw [e] at h;cases h
       | some x =>
        rw [e] at h
        obtain ⟨f1,t1⟩:=x
        have i1:=ih t f1 t1 e
        simp only [Option.bind_some] at h
        split at h
        ·rename_i t2
         cases e2:Rc82.read k t2 with
         | none=>rw [e2] at h;cases h
         | some y =>
          rw [e2] at h
          obtain ⟨f2,t3⟩:=y
          have i2:=ih t2 f2 t3 e2
          simp only [Option.bind_some] at h
          split at h
          ·simp at h
           obtain ⟨rfl,rfl⟩:=h
           simp_all [written]
          ·cases h
        ·rename_i t2
         cases e2:Rc82.read k t2 with
         | none=>rw [e2] at h;cases h
         | some y =>
          rw [e2] at h
          obtain ⟨f2,t3⟩:=y
          have i2:=ih t2 f2 t3 e2
          simp only [Option.bind_some] at h
          split at h
          ·simp at h
           obtain ⟨rfl,rfl⟩:=h
           simp_all [written]
          ·cases h
        ·cases h
      ·split at h
       ·rename_i hc
        split at h
        ·rename_i x u
         split at h
         ·rename_i hn
          have e1:=name_back hn
          cases e:Rc82.read k u with
          | none=>rw [e] at h;cases h
          | some y =>
           rw [e] at h
           have i1:=ih u y.1 y.2 e
           rcases hc with rfl | rfl
           ·simp at h
            obtain ⟨rfl,rfl⟩:=h
            rw [i1]
            simp [written,e1]
           ·simp at h
            obtain ⟨rfl,rfl⟩:=h
            rw [i1]
            simp [written,e1]
         ·cases h
        ·cases h
       ·cases h
theorem sentence_read {t:Text} {f:Form} (h:sentence t=some f) : Rc82.read (t.length+1) t=some (f,[])∧closed [] f=true∧rank f≤DEEP:=by
 unfold sentence at h
 split at h
 ·rename_i g e
  split at h
  ·rename_i q
   cases h
   exact ⟨e,q.1,q.2⟩
  ·cases h
 ·cases h
theorem sentence_written {t:Text} {f:Form} (h:sentence t=some f) : written f=t:=by
 have:=read_written _ _ _ _ (sentence_read h).1
 rw [List.append_nil] at this
 exact this.symm
theorem putBit_on (m b i:Nat) : (putBit m b true).testBit i=(decide (i=b) || m.testBit i):=by
 unfold putBit
 rw [if_pos rfl]
 show (m ||| 2 ^ b).testBit i=_
 rw [Nat.testBit_or,Nat.testBit_two_pow,Bool.or_comm]
 by_cases h:i=b
 ·subst h;simp
 ·simp [h,Ne.symm h]
theorem sub_testBit :∀ (b m i:Nat),m.testBit b=true→(m - 2 ^ b).testBit i=(!decide (i=b) && m.testBit i):=by
 intro b
 induction b with
 | zero =>
  intro m i h
  rw [Nat.testBit_zero] at h
  have hm:m % 2=1:=by simpa using h
  cases i with
  | zero=>rw [Nat.testBit_zero];simp;omega
  | succ i =>
   rw [Nat.testBit_succ,Nat.testBit_succ]
   have e:(m - 2 ^ 0) / 2=m / 2:=by simp;omega
   rw [e];simp
 | succ b ih =>
  intro m i h
  have ge:=Nat.ge_two_pow_of_testBit h
  rw [Nat.testBit_succ] at h
  have e2:2 ^ (b+1)=2*2 ^ b:=by rw [Nat.pow_succ,Nat.mul_comm]
  rw [e2] at ge ⊢
  cases i with
  | zero=>rw [Nat.testBit_zero,Nat.testBit_zero];simp;omega
  | succ i =>
   rw [Nat.testBit_succ,Nat.testBit_succ]
   have e:(m - 2*2 ^ b) / 2=m / 2 - 2 ^ b:=by omega
   rw [e,ih _ _ h];simp
theorem putBit_test (m b i:Nat) (on:Bool) : (putBit m b on).testBit i=if i=b then on else m.testBit i:=by
 cases on with
 | true=>rw [putBit_on];by_cases h:i=b <;> simp [h]
 | false =>
  unfold putBit
  simp only [Bool.false_eq_true,if_false]
  split
  ·rename_i h
   rw [sub_testBit _ _ _ h]
   by_cases q:i=b <;> simp [q]
  ·rename_i h
   by_cases q:i=b
   ·subst q;simp [h]
   ·simp [q]
end Pg
end
section
namespace Pg
open Rc82
def fsize :Form→Nat
 | .not_ f=>fsize f+1
 | .both f g=>fsize f+fsize g+1
 | .either f g=>fsize f+fsize g+1
 | .all_ _ f=>fsize f+1
 | .some_ _ f=>fsize f+1
 | _=>1
theorem isName_of {x:Nat} (h:x < 6) : isName (117+x)=true:=by
 unfold isName
 simp only [Bool.and_eq_true,decide_eq_true_eq]
 omega
theorem sub117 (x:Nat) : 117+x - 117=x:=by omega
theorem read_of :∀ (f:Form) (k:Nat) (r:Text),named 6 f=true→fsize f≤k→Rc82.read k (written f ++ r)=some (f,r):=by
 intro f
 induction f with
 | arc x y =>
  intro k r hn hk
  cases k with
  | zero=>simp [fsize] at hk
  | succ k =>
   simp only [named,Bool.and_eq_true,decide_eq_true_eq] at hn
   simp [written,Rc82.read,isName_of hn.1,isName_of hn.2,sub117]
 | same x y =>
  intro k r hn hk
  cases k with
  | zero=>simp [fsize] at hk
  | succ k =>
   simp only [named,Bool.and_eq_true,decide_eq_true_eq] at hn
   simp [written,Rc82.read,isName_of hn.1,isName_of hn.2,sub117]
 | first x =>
  intro k r hn hk
  cases k with
  | zero=>simp [fsize] at hk
  | succ k =>
   simp only [named,decide_eq_true_eq] at hn
   simp [written,Rc82.read,isName_of hn,sub117]
 | second x =>
  intro k r hn hk
  cases k with
  | zero=>simp [fsize] at hk
  | succ k =>
   simp only [named,decide_eq_true_eq] at hn
   simp [written,Rc82.read,isName_of hn,sub117]
 | not_ f ih =>
  intro k r hn hk
  cases k with
  | zero=>simp [fsize] at hk
  | succ k =>
   have h1:=ih k r (by simpa [named] using hn) (by simp [fsize] at hk;omega)
   simp [written,Rc82.read,h1]
 | both f g ihf ihg =>
  intro k r hn hk
  cases k with
  | zero=>simp [fsize] at hk
  | succ k =>
   simp only [named,Bool.and_eq_true] at hn
   simp only [fsize] at hk
   have h1:=ihf k (38 :: (written g ++ (41 :: r))) hn.1 (by omega)
   have h2:=ihg k (41 :: r) hn.2 (by omega)
   simp [written,Rc82.read,h1,h2]
 | either f g ihf ihg =>
  intro k r hn hk
  cases k with
  | zero=>simp [fsize] at hk
  | succ k =>
   simp only [named,Bool.and_eq_true] at hn
   simp only [fsize] at hk
   have h1:=ihf k (124 :: (written g ++ (41 :: r))) hn.1 (by omega)
   have h2:=ihg k (41 :: r) hn.2 (by omega)
   simp [written,Rc82.read,h1,h2]
 | all_ x f ih =>
  intro k r hn hk
  cases k with
  | zero=>simp [fsize] at hk
  | succ k =>
   simp only [named,Bool.and_eq_true,decide_eq_true_eq] at hn
   simp only [fsize] at hk
   have h1:=ih k r hn.2 (by omega)
   simp [written,Rc82.read,h1,isName_of hn.1,sub117]
 | some_ x f ih =>
  intro k r hn hk
  cases k with
  | zero=>simp [fsize] at hk
  | succ k =>
   simp only [named,Bool.and_eq_true,decide_eq_true_eq] at hn
   simp only [fsize] at hk
   have h1:=ih k r hn.2 (by omega)
   simp [written,Rc82.read,h1,isName_of hn.1,sub117]
theorem fsize_le :∀ f:Form,fsize f≤(written f).length:=by
 intro f
 induction f with
 | arc x y=>simp [fsize,written]
 | same x y=>simp [fsize,written]
 | first x=>simp [fsize,written]
 | second x=>simp [fsize,written]
 | not_ f ih=>simp [fsize,written];omega
 | both f g i j=>simp [fsize,written];omega
 | either f g i j=>simp [fsize,written];omega
 | all_ x f ih=>simp [fsize,written];omega
 | some_ x f ih=>simp [fsize,written];omega
theorem sentence_of {f:Form} (hn:named 6 f=true) (hc:closed [] f=true) (hr:rank f≤4) : sentence (written f)=some f:=by
 have h:=read_of f ((written f).length+1) [] hn (by have:=fsize_le f;omega)
 rw [List.append_nil] at h
 unfold sentence
 rw [h]
 simp [hc,DEEP,hr]
theorem read_named :∀ (k:Nat) (t:Text) (f:Form) (r:Text),Rc82.read k t=some (f,r)→named 6 f=true:=by
 have nm:∀ {x:Nat},isName x=true→x - 117 < 6:=by
  intro x h
  unfold isName at h
  simp only [Bool.and_eq_true,decide_eq_true_eq] at h
  omega
 intro k
 induction k with
 | zero=>intro t f r h;simp [Rc82.read] at h
 | succ k ih =>
  intro t f r h
  cases t with
  | nil=>simp [Rc82.read] at h
  | cons c t =>
   unfold Rc82.read at h
   split at h
   ·rename_i hc
    split at h
    ·rename_i x y u
     split at h
     ·rename_i hn
      have e1:=nm hn.1
      have e2:=nm hn.2
      rcases hc with rfl | rfl <;> (simp at h;obtain ⟨rfl,rfl⟩:=h;simp [named,e1,e2])
     ·cases h
    ·cases h
   ·split at h
    ·rename_i hc
     split at h
     ·rename_i x u
      split at h
      ·rename_i hn
       have e1:=nm hn
       rcases hc with rfl | rfl <;> (simp at h;obtain ⟨rfl,rfl⟩:=h;simp [named,e1])
      ·cases h
     ·cases h
    ·split at h
     ·cases e:Rc82.read k t with
      | none=>rw [e] at h;cases h
      | some x =>
       rw [e] at h
       simp at h
       obtain ⟨rfl,rfl⟩:=h
       simpa [named] using ih t x.1 x.2 e
     ·split at h
      ·cases e:Rc82.read k t with
       | none=>rw [e] at h;cases h
       | some x =>
        rw [e] at h
        obtain ⟨f1,t1⟩:=x
        have i1:=ih t f1 t1 e
        simp only [Option.bind_some] at h
        split at h
        ·rename_i t2
         cases e2:Rc82.read k t2 with
         | none=>rw [e2] at h;cases h
         | some y =>
          rw [e2] at h
          obtain ⟨f2,t3⟩:=y
          have i2:=ih t2 f2 t3 e2
          simp only [Option.bind_some] at h
          split at h
          ·simp at h
           obtain ⟨rfl,rfl⟩:=h
           simp [named,i1,i2]
          ·cases h
        ·rename_i t2
         cases e2:Rc82.read k t2 with
         | none=>rw [e2] at h;cases h
         | some y =>
          rw [e2] at h
          obtain ⟨f2,t3⟩:=y
          have i2:=ih t2 f2 t3 e2
          simp only [Option.bind_some] at h
          split at h
          ·simp at h
           obtain ⟨rfl,rfl⟩:=h
           simp [named,i1,i2]
          ·cases h
        ·cases h
      ·split at h
       ·rename_i hc
        split at h
        ·rename_i x u
         split at h
         ·rename_i hn
          have e1:=nm hn
          cases e:Rc82.read k u with
          | none=>rw [e] at h;cases h
          | some y =>
           rw [e] at h
           have i1:=ih u y.1 y.2 e
           rcases hc with rfl | rfl <;> (simp at h;obtain ⟨rfl,rfl⟩:=h;simp [named,e1,i1])
         ·cases h
        ·cases h
       ·cases h
def IsSen (t:Text) (f:Form) : Prop:=written f=t∧named 6 f=true∧closed [] f=true∧rank f≤4
theorem sentence_iff {t:Text} {f:Form}:sentence t=some f↔IsSen t f:=by
 constructor
 ·intro h
  obtain ⟨a,b,c⟩:=sentence_read h
  exact ⟨sentence_written h,read_named _ _ _ _ a,b,c⟩
 ·rintro ⟨rfl,h1,h2,h3⟩
  exact sentence_of h1 h2 h3
inductive Part where
 | form | join | close | bind | leave | name | fin
 deriving DecidableEq
noncomputable def fol (c:Nat) : Option (List Part) :=
 if c=69∨c=61 then some [.name,.name,.fin] else if c=80∨c=81 then some [.name,.fin] else if c=33 then some [.form,.fin]
 else if c=40 then some [.form,.join,.form,.close,.fin] else if c=65∨c=83 then some [.bind,.form,.fin,.leave] else none
abbrev StepP :=Nat × Nat × List Nat
def lvl :List Nat→Nat→Nat
 | [],_=>0
 | y :: sc,x=>if y=x then sc.length else lvl sc x
theorem lvl_lt {x:Nat}:∀ {sc:List Nat},x∈sc→lvl sc x < sc.length
 | y :: sc,h=>by
  unfold lvl
  split
  ·simp
  ·rename_i ne
   have:=lvl_lt ((List.mem_cons.mp h).resolve_left fun e=>ne e.symm)
   simp;omega
noncomputable def post (sc:List Nat) : Form→List StepP
 | .arc x y=>[(69,sc.length,[lvl sc (117+x),lvl sc (117+y)])]
 | .first x=>[(80,sc.length,[lvl sc (117+x)])]
 | .second x=>[(81,sc.length,[lvl sc (117+x)])]
 | .same x y=>[(61,sc.length,[lvl sc (117+x),lvl sc (117+y)])]
 | .not_ f=>post sc f ++ [(33,sc.length,[])]
 | .both f g=>post sc f ++ (post sc g ++ [(38,sc.length,[])])
 | .either f g=>post sc f ++ (post sc g ++ [(124,sc.length,[])])
 | .all_ x f=>post ((117+x) :: sc) f ++ [(65,sc.length+1,[])]
 | .some_ x f=>post ((117+x) :: sc) f ++ [(83,sc.length+1,[])]
inductive Run :List Part→List Nat→Text→List Nat→List Nat→List StepP→Nat→List StepP × Nat→Prop
 | done {sc bg lv:List Nat} {dn:List StepP} {dp:Nat}:Run [] sc [] bg lv dn dp (dn,dp)
 | fin {E:List Part} {sc:List Nat} {t:Text} {bg lv:List Nat} {dn:List StepP} {dp c:Nat} {res:List StepP × Nat}:Run E sc t bg [] (dn ++ [(c,sc.length,lv)]) dp res→Run (.fin :: E) sc t (c :: bg) lv dn dp res
 | leave {E:List Part} {sc:List Nat} {t:Text} {bg lv:List Nat} {dn:List StepP} {dp x:Nat} {res:List StepP × Nat}:Run E sc t bg lv dn dp res→Run (.leave :: E) (x :: sc) t bg lv dn dp res
 | form {E ps:List Part} {sc:List Nat} {t:Text} {bg lv:List Nat} {dn:List StepP} {dp c:Nat} {res:List StepP × Nat}:fol c=some ps→Run (ps ++ E) sc t (c :: bg) lv dn dp res→Run (.form :: E) sc (c :: t) bg lv dn dp res
 | bind {E:List Part} {sc:List Nat} {t:Text} {bg lv:List Nat} {dn:List StepP} {dp x:Nat} {res:List StepP × Nat}:isName x=true→sc.length < 4→Run E (x :: sc) t bg lv dn (max dp (sc.length+1)) res→Run (.bind :: E) sc (x :: t) bg lv dn dp res
 | name {E:List Part} {sc:List Nat} {t:Text} {bg lv:List Nat} {dn:List StepP} {dp x:Nat} {res:List StepP × Nat}:x∈sc→Run E sc t bg (lv ++ [lvl sc x]) dn dp res→Run (.name :: E) sc (x :: t) bg lv dn dp res
 | join {E:List Part} {sc:List Nat} {t:Text} {bg lv:List Nat} {dn:List StepP} {dp x c:Nat} {res:List StepP × Nat}:x=38∨x=124→Run E sc t (x :: bg) lv dn dp res→Run (.join :: E) sc (x :: t) (c :: bg) lv dn dp res
 | close {E:List Part} {sc:List Nat} {t:Text} {bg lv:List Nat} {dn:List StepP} {dp:Nat} {res:List StepP × Nat}:Run E sc t bg lv dn dp res→Run (.close :: E) sc (41 :: t) bg lv dn dp res
def rInv (E:List Part) (sc:List Nat) (t:Text) (bg lv:List Nat) (dn:List StepP) (dp:Nat) (res:List StepP × Nat) : Prop:=match E with
 | []=>t=[]∧res=(dn,dp)
 | .fin :: E=>∃ c b,bg=c :: b∧Run E sc t b [] (dn ++ [(c,sc.length,lv)]) dp res
 | .leave :: E=>∃ x s,sc=x :: s∧Run E s t bg lv dn dp res
 | .form :: E=>∃ c u ps,t=c :: u∧fol c=some ps∧Run (ps ++ E) sc u (c :: bg) lv dn dp res
 | .bind :: E=>∃ x u,t=x :: u∧isName x=true∧sc.length < 4∧Run E (x :: sc) u bg lv dn (max dp (sc.length+1)) res
 | .name :: E=>∃ x u,t=x :: u∧x∈sc∧Run E sc u bg (lv ++ [lvl sc x]) dn dp res
 | .join :: E=>∃ x u c b,t=x :: u∧bg=c :: b∧(x=38∨x=124)∧Run E sc u (x :: b) lv dn dp res
 | .close :: E=>∃ u,t=41 :: u∧Run E sc u bg lv dn dp res
theorem Run.inv {E:List Part} {sc:List Nat} {t:Text} {bg lv:List Nat} {dn:List StepP} {dp:Nat} {res:List StepP × Nat} (h:Run E sc t bg lv dn dp res) : rInv E sc t bg lv dn dp res:=by
 cases h with
 | done=>exact ⟨rfl,rfl⟩
 | fin h=>exact ⟨_,_,rfl,h⟩
 | leave h=>exact ⟨_,_,rfl,h⟩
 | form a h=>exact ⟨_,_,_,rfl,a,h⟩
 | bind a b h=>exact ⟨_,_,rfl,a,b,h⟩
 | name a h=>exact ⟨_,_,rfl,a,h⟩
 | join a h=>exact ⟨_,_,_,_,rfl,rfl,a,h⟩
 | close h=>exact ⟨_,rfl,h⟩
def NamesOk (sc:List Nat) : Prop:=∀ x∈sc,isName x=true
def sub (sc:List Nat) : List Nat:=sc.map (· - 117)
theorem mem_sub {sc:List Nat} {x:Nat} (h:x∈sc) : (sub sc).contains (x - 117)=true:=by
 rw [List.contains_iff_mem]
 exact List.mem_map.mpr ⟨x,h,rfl⟩
theorem of_mem_sub {sc:List Nat} (hs:NamesOk sc) {x:Nat} (h:(sub sc).contains x=true) : 117+x∈sc:=by
 rw [List.contains_iff_mem] at h
 obtain ⟨y,hy,rfl⟩:=List.mem_map.mp h
 rw [name_back (hs y hy)]
 exact hy
theorem name_lt {x:Nat} (h:isName x=true) : x - 117 < 6:=by
 unfold isName at h
 simp only [Bool.and_eq_true,decide_eq_true_eq] at h
 omega
theorem NamesOk.cons {sc:List Nat} {x:Nat} (hs:NamesOk sc) (hx:isName x=true) : NamesOk (x :: sc):=fun y hy =>
 (List.mem_cons.mp hy).elim (fun e=>by rw [e];exact hx) (hs y)
theorem run_of :∀ (f:Form) (E:List Part) (sc:List Nat) (r:Text) (bg:List Nat) (dn:List StepP) (dp:Nat) (res:List StepP × Nat),NamesOk sc→named 6 f=true→closed (sub sc) f=true→rank f+sc.length≤4→sc.length≤dp →
  Run E sc r bg [] (dn ++ post sc f) (max dp (rank f+sc.length)) res→Run (.form :: E) sc (written f ++ r) bg [] dn dp res:=by
 intro f
 induction f with
 | arc x y =>
  intro E sc r bg dn dp res hs hn hc hr hd h
  simp only [closed,Bool.and_eq_true] at hc
  rw [show rank (.arc x y)+sc.length=sc.length by simp [rank],Nat.max_eq_left hd] at h
  exact .form (ps:=[.name,.name,.fin]) (by simp [fol]) (.name (of_mem_sub hs hc.1) (.name (of_mem_sub hs hc.2) (.fin h)))
 | same x y =>
  intro E sc r bg dn dp res hs hn hc hr hd h
  simp only [closed,Bool.and_eq_true] at hc
  rw [show rank (.same x y)+sc.length=sc.length by simp [rank],Nat.max_eq_left hd] at h
  exact .form (ps:=[.name,.name,.fin]) (by simp [fol]) (.name (of_mem_sub hs hc.1) (.name (of_mem_sub hs hc.2) (.fin h)))
 | first x =>
  intro E sc r bg dn dp res hs hn hc hr hd h
  rw [show rank (.first x)+sc.length=sc.length by simp [rank],Nat.max_eq_left hd] at h
  exact .form (ps:=[.name,.fin]) (by simp [fol]) (.name (of_mem_sub hs hc) (.fin h))
 | second x =>
  intro E sc r bg dn dp res hs hn hc hr hd h
  rw [show rank (.second x)+sc.length=sc.length by simp [rank],Nat.max_eq_left hd] at h
  exact .form (ps:=[.name,.fin]) (by simp [fol]) (.name (of_mem_sub hs hc) (.fin h))
 | not_ f ih =>
  intro E sc r bg dn dp res hs hn hc hr hd h
  refine .form (ps:=[.form,.fin]) (by simp [fol]) (ih _ sc r _ dn dp res hs hn hc hr hd (.fin ?_))
  rw [List.append_assoc];exact h
 | both f g ihf ihg =>
  intro E sc r bg dn dp res hs hn hc hr hd h
  simp only [named,closed,Bool.and_eq_true,rank] at hn hc hr h
  have e:written (.both f g) ++ r=40 :: (written f ++ (38 :: (written g ++ (41 :: r)))):=by simp [written]
  rw [e]
  refine .form (ps:=[.form,.join,.form,.close,.fin]) (by simp [fol]) (ihf _ sc _ _ dn dp res hs hn.1 hc.1 (by omega) hd (.join (.inl rfl) (ihg _ sc _ _ _ _ res hs hn.2 hc.2 (by omega) (by omega) (.close (.fin ?_)))))
  rw [List.append_assoc,List.append_assoc]
  rwa [show max (max dp (rank f+sc.length)) (rank g+sc.length)=max dp (max (rank f) (rank g)+sc.length) by omega]
 | either f g ihf ihg =>
  intro E sc r bg dn dp res hs hn hc hr hd h
  simp only [named,closed,Bool.and_eq_true,rank] at hn hc hr h
  have e:written (.either f g) ++ r=40 :: (written f ++ (124 :: (written g ++ (41 :: r)))):=by simp [written]
  rw [e]
  refine .form (ps:=[.form,.join,.form,.close,.fin]) (by simp [fol]) (ihf _ sc _ _ dn dp res hs hn.1 hc.1 (by omega) hd (.join (.inr rfl) (ihg _ sc _ _ _ _ res hs hn.2 hc.2 (by omega) (by omega) (.close (.fin ?_)))))
  rw [List.append_assoc,List.append_assoc]
  rwa [show max (max dp (rank f+sc.length)) (rank g+sc.length)=max dp (max (rank f) (rank g)+sc.length) by omega]
 | all_ x f ih =>
  intro E sc r bg dn dp res hs hn hc hr hd h
  simp only [named,closed,Bool.and_eq_true,decide_eq_true_eq,rank] at hn hc hr h
  have nx:=isName_of hn.1
  refine .form (ps:=[.bind,.form,.fin,.leave]) (by simp [fol]) (.bind nx (by omega) (ih _ _ r _ dn _ res (hs.cons nx) hn.2 (by simpa [sub,sub117] using hc) (by simp;omega) (by simp;omega) (.fin (.leave ?_))))
  rw [List.append_assoc]
  rwa [show max (max dp (sc.length+1)) (rank f+((117+x) :: sc).length)=max dp (rank f+1+sc.length) by simp;omega]
 | some_ x f ih =>
  intro E sc r bg dn dp res hs hn hc hr hd h
  simp only [named,closed,Bool.and_eq_true,decide_eq_true_eq,rank] at hn hc hr h
  have nx:=isName_of hn.1
  refine .form (ps:=[.bind,.form,.fin,.leave]) (by simp [fol]) (.bind nx (by omega) (ih _ _ r _ dn _ res (hs.cons nx) hn.2 (by simpa [sub,sub117] using hc) (by simp;omega) (by simp;omega) (.fin (.leave ?_))))
  rw [List.append_assoc]
  rwa [show max (max dp (sc.length+1)) (rank f+((117+x) :: sc).length)=max dp (rank f+1+sc.length) by simp;omega]
theorem of_run :∀ (n:Nat) (E:List Part) (sc:List Nat) (t:Text) (bg:List Nat) (dn:List StepP) (dp:Nat) (res:List StepP × Nat),t.length≤n→NamesOk sc→sc.length≤4→sc.length≤dp→Run (.form :: E) sc t bg [] dn dp res →
  ∃ f r,t=written f ++ r∧named 6 f=true∧closed (sub sc) f=true∧rank f+sc.length≤4∧Run E sc r bg [] (dn ++ post sc f) (max dp (rank f+sc.length)) res:=by
 intro n
 induction n with
 | zero =>
  intro E sc t bg dn dp res hl hs h4 hd h
  have hv:=h.inv;clear h
  obtain ⟨_,_,_,eb,_,_⟩:=hv
  cases eb
  simp at hl
 | succ n ih =>
  intro E sc t bg dn dp res hl hs h4 hd h
  have hv:=h.inv;clear h
  obtain ⟨c,t,ps,eb,hf,h⟩:=hv
  cases eb
  ·have hl':t.length≤n:=by simpa using hl
   unfold fol at hf
   split at hf
   ·rename_i hc
    cases hf
    have hv:=h.inv;clear h
    obtain ⟨x,t1,eb,h1,h⟩:=hv
    cases eb
    ·have hv:=h.inv;clear h
     obtain ⟨y,t2,eb,h2,h⟩:=hv
     cases eb
     ·have hv:=h.inv;clear h
      obtain ⟨_,_,eb,h⟩:=hv
      cases eb
      ·have n1:=name_back (hs x h1)
       have n2:=name_back (hs y h2)
       rcases hc with rfl | rfl
       ·exact ⟨.arc (x - 117) (y - 117),t2,by simp [written,n1,n2],by simp [named,name_lt (hs x h1),name_lt (hs y h2)],by simp only [closed,Bool.and_eq_true];exact ⟨mem_sub h1,mem_sub h2⟩,by simpa [rank] using h4,by rw [show rank (.arc (x - 117) (y - 117))+sc.length=sc.length by simp [rank],Nat.max_eq_left hd];simpa [post,n1,n2] using h⟩
       ·exact ⟨.same (x - 117) (y - 117),t2,by simp [written,n1,n2],by simp [named,name_lt (hs x h1),name_lt (hs y h2)],by simp only [closed,Bool.and_eq_true];exact ⟨mem_sub h1,mem_sub h2⟩,by simpa [rank] using h4,by rw [show rank (.same (x - 117) (y - 117))+sc.length=sc.length by simp [rank],Nat.max_eq_left hd];simpa [post,n1,n2] using h⟩
   ·split at hf
    ·rename_i hc
     cases hf
     have hv:=h.inv;clear h
     obtain ⟨x,t1,eb,h1,h⟩:=hv
     cases eb
     ·have hv:=h.inv;clear h
      obtain ⟨_,_,eb,h⟩:=hv
      cases eb
      ·have n1:=name_back (hs x h1)
       rcases hc with rfl | rfl
       ·exact ⟨.first (x - 117),t1,by simp [written,n1],by simp [named,name_lt (hs x h1)],by simp only [closed];exact mem_sub h1,by simpa [rank] using h4,by rw [show rank (.first (x - 117))+sc.length=sc.length by simp [rank],Nat.max_eq_left hd];simpa [post,n1] using h⟩
       ·exact ⟨.second (x - 117),t1,by simp [written,n1],by simp [named,name_lt (hs x h1)],by simp only [closed];exact mem_sub h1,by simpa [rank] using h4,by rw [show rank (.second (x - 117))+sc.length=sc.length by simp [rank],Nat.max_eq_left hd];simpa [post,n1] using h⟩
    ·split at hf
     ·rename_i hc
      cases hf
      subst hc
      obtain ⟨f,r,rfl,a,b,c,d⟩:=ih _ _ _ _ _ _ _ hl' hs h4 hd h
      have hv:=d.inv;clear d
      obtain ⟨_,_,eb,d⟩:=hv
      cases eb
      exact ⟨.not_ f,r,by simp [written],a,b,c,by rw [List.append_assoc] at d;exact d⟩
     ·split at hf
      ·rename_i hc
       cases hf
       subst hc
       obtain ⟨f,r,rfl,a,b,c,d⟩:=ih _ _ _ _ _ _ _ hl' hs h4 hd h
       have hv:=d.inv;clear d
       obtain ⟨x,t1,_,_,eb,ec,hx,d⟩:=hv
       cases eb
       cases ec
       ·simp at hl'
        obtain ⟨g,r2,rfl,a2,b2,c2,d2⟩:=ih _ _ _ _ _ _ _ (by omega) hs h4 (by omega) d
        have hv:=d2.inv;clear d2
        obtain ⟨t3,eb,d3⟩:=hv
        cases eb
        ·have hv:=d3.inv;clear d3
         obtain ⟨_,_,eb,d3⟩:=hv
         cases eb
         ·rw [List.append_assoc,List.append_assoc,show max (max dp (rank f+sc.length)) (rank g+sc.length)=max dp (max (rank f) (rank g)+sc.length) by omega] at d3
          rcases hx with rfl | rfl
          ·exact ⟨.both f g,t3,by simp [written],by simp [named,a,a2],by simp [closed,b,b2],by simp only [rank];omega,d3⟩
          ·exact ⟨.either f g,t3,by simp [written],by simp [named,a,a2],by simp [closed,b,b2],by simp only [rank];omega,d3⟩
      ·split at hf
       ·rename_i hc
        cases hf
        have hv:=h.inv;clear h
        obtain ⟨x,t1,eb,h1,h2,h⟩:=hv
        cases eb
        ·simp at hl'
         obtain ⟨f,r,rfl,a,b,c,d⟩:=ih _ _ _ _ _ _ _ (by omega) (hs.cons h1) (by simp;omega) (by simp;omega) h
         have hv:=d.inv;clear d
         obtain ⟨_,_,eb,d⟩:=hv
         cases eb
         ·have hv:=d.inv;clear d
          obtain ⟨_,_,eb,d⟩:=hv
          cases eb
          ·have n1:=name_back h1
           rw [List.append_assoc,show max (max dp (sc.length+1)) (rank f+(x :: sc).length)=max dp (rank f+1+sc.length) by simp;omega] at d
           simp only [List.length_cons] at c
           have b':closed ((x - 117) :: sub sc) f=true:=b
           rcases hc with rfl | rfl
           ·exact ⟨.all_ (x - 117) f,r,by simp [written,n1],by simp [named,name_lt h1,a],by simp only [closed];exact b',by simp only [rank];omega,by simpa [post,n1,rank] using d⟩
           ·exact ⟨.some_ (x - 117) f,r,by simp [written,n1],by simp [named,name_lt h1,a],by simp only [closed];exact b',by simp only [rank];omega,by simpa [post,n1,rank] using d⟩
       ·cases hf
theorem run_sen {t:Text} {f:Form} (h:sentence t=some f) : Run [.form] [] t [] [] [] 0 (post [] f,rank f):=by
 obtain ⟨rfl,a,b,c⟩:=sentence_iff.mp h
 have:=run_of f [] [] [] [] [] 0 (post [] f,rank f) (fun _ h=>nomatch h) a b (by simpa using c) (by simp) (by simpa using Run.done)
 simpa using this
theorem sen_run {t:Text} {res:List StepP × Nat} (h:Run [.form] [] t [] [] [] 0 res) : ∃ f,sentence t=some f∧res=(post [] f,rank f):=by
 obtain ⟨f,r,rfl,a,b,c,d⟩:=of_run t.length [] [] t [] [] 0 res (Nat.le_refl _) (fun _ h=>nomatch h) (by simp) (by simp) h
 obtain ⟨rfl,rfl⟩:=d.inv
 exact ⟨f,sentence_iff.mpr ⟨by simp,a,b,by simpa using c⟩,by simp⟩
end Pg
end
section
namespace Pg
open Rc82
theorem sat_congr (S:Struct) : ∀ (f:Form) (l:List Nat) (e e':Env),closed l f=true→(∀ x∈l,e x=e' x)→sat S f e=sat S f e':=by
 intro f
 induction f with
 | arc x y =>
  intro l e e' hc h
  simp only [closed,Bool.and_eq_true,List.contains_iff_mem] at hc
  simp only [sat,h x hc.1,h y hc.2]
 | same x y =>
  intro l e e' hc h
  simp only [closed,Bool.and_eq_true,List.contains_iff_mem] at hc
  simp only [sat,h x hc.1,h y hc.2]
 | first x =>
  intro l e e' hc h
  simp only [closed,List.contains_iff_mem] at hc
  simp only [sat,h x hc]
 | second x =>
  intro l e e' hc h
  simp only [closed,List.contains_iff_mem] at hc
  simp only [sat,h x hc]
 | not_ f ih =>
  intro l e e' hc h
  simp only [sat,ih l e e' hc h]
 | both f g ihf ihg =>
  intro l e e' hc h
  simp only [closed,Bool.and_eq_true] at hc
  simp only [sat,ihf l e e' hc.1 h,ihg l e e' hc.2 h]
 | either f g ihf ihg =>
  intro l e e' hc h
  simp only [closed,Bool.and_eq_true] at hc
  simp only [sat,ihf l e e' hc.1 h,ihg l e e' hc.2 h]
 | all_ x f ih =>
  intro l e e' hc h
  have q:∀ a,sat S f (Env.put e x a)=sat S f (Env.put e' x a):=fun a=>ih (x :: l) _ _ hc fun y hy=>by
   unfold Env.put
   split
   ·rfl
   ·rename_i ne
    exact h y ((List.mem_cons.mp hy).resolve_left ne)
  simp only [sat,q]
 | some_ x f ih =>
  intro l e e' hc h
  have q:∀ a,sat S f (Env.put e x a)=sat S f (Env.put e' x a):=fun a=>ih (x :: l) _ _ hc fun y hy=>by
   unfold Env.put
   split
   ·rfl
   ·rename_i ne
    exact h y ((List.mem_cons.mp hy).resolve_left ne)
  simp only [sat,q]
structure StrRel (S:Struct) (E:List (List Bool)) (M:List (List Bool)) : Prop where
 rows:S.rows.length=S.n
 len:E.length=S.n
 row:∀ (x:Nat) (r:List Bool),E[x]? = some r→r.length=S.n∧∀ (y:Nat) (b:Bool),r[y]? = some b→b=arc S x y
 mlen:M.length=2
 mrow:∀ (m:Nat) (r:List Bool),M[m]? = some r→r.length=S.n∧∀ (x:Nat) (b:Bool),r[x]? = some b→b=(if m=0 then S.p else S.q).testBit x
theorem get_rep {α:Type} {n i:Nat} {a b:α} (h:(List.replicate n a)[i]? = some b) : b=a∧i < n:=by
 rw [List.getElem?_replicate] at h
 split at h
 ·cases h;exact ⟨rfl,by assumption⟩
 ·cases h
theorem StrRel.new (n:Nat) : StrRel { n:=n,rows:=List.replicate n 0 } (List.replicate n (List.replicate n false)) [List.replicate n false,List.replicate n false] where
 rows:=List.length_replicate
 len:=List.length_replicate
 row:=fun x r h=>by
  obtain ⟨rfl,hx⟩:=get_rep h
  refine ⟨List.length_replicate,fun y b hb=>?_⟩
  obtain ⟨rfl,hy⟩:=get_rep hb
  simp [arc,List.getD,List.getElem?_replicate,hx]
 mlen:=rfl
 mrow:=fun m r h=>by
  have:r=List.replicate n false:=by
   match m,h with
   | 0,h=>exact (Option.some.inj h).symm
   | 1,h=>exact (Option.some.inj h).symm
   | m+2,h=>simp at h
  subst this
  refine ⟨List.length_replicate,fun x b hb=>?_⟩
  obtain ⟨rfl,hx⟩:=get_rep hb
  simp
theorem StrRel.arc {S:Struct} {E M:List (List Bool)} (R:StrRel S E M) {x y:Nat} {r:List Bool} (hr:E[x]? = some r) (on:Bool) :
  StrRel { S with rows:=S.rows.set x (putBit (S.rows.getD x 0) y on) } (E.set x (r.set y on)) M:=by
 have hx:x < S.n:=by rw [←R.len];exact (List.getElem?_eq_some_iff.mp hr).1
 refine ⟨by simp [R.rows],by simp [R.len],fun x' r' h=>?_,R.mlen,R.mrow⟩
 by_cases e:x'=x
 ·subst e
  rw [List.getElem?_set_self (by rw [R.len];exact hx)] at h
  cases h
  obtain ⟨a,b⟩:=R.row x' r hr
  refine ⟨by simpa using a,fun y' c hc=>?_⟩
  have q:Rc82.arc { S with rows:=S.rows.set x' (putBit (S.rows.getD x' 0) y on) } x' y'=(putBit (S.rows.getD x' 0) y on).testBit y':=by
   unfold Rc82.arc
   simp [List.getD,List.getElem?_set_self,R.rows,hx]
  rw [q,putBit_test]
  by_cases e2:y'=y
  ·subst e2
   rw [List.getElem?_set] at hc
   simp only [if_pos] at hc
   split at hc
   ·cases hc;simp
   ·cases hc
  ·rw [List.getElem?_set_ne (fun z=>e2 z.symm)] at hc
   rw [if_neg e2]
   exact b y' c hc
 ·rw [List.getElem?_set_ne (fun z=>e z.symm)] at h
  obtain ⟨a,b⟩:=R.row x' r' h
  refine ⟨a,fun y' c hc=>?_⟩
  rw [b y' c hc]
  unfold Rc82.arc
  simp [List.getD,List.getElem?_set_ne (fun z=>e z.symm)]
theorem StrRel.mark {S:Struct} {E M:List (List Bool)} (R:StrRel S E M) {m x:Nat} {r:List Bool} (hr:M[m]? = some r) (on:Bool) :
  StrRel (if m=0 then { S with p:=putBit S.p x on } else { S with q:=putBit S.q x on }) E (M.set m (r.set x on)):=by
 have hm:m < 2:=by rw [←R.mlen];exact (List.getElem?_eq_some_iff.mp hr).1
 have hn:(if m=0 then { S with p:=putBit S.p x on } else { S with q:=putBit S.q x on }:Struct).n=S.n:=by split <;> rfl
 have hrw:(if m=0 then { S with p:=putBit S.p x on } else { S with q:=putBit S.q x on }:Struct).rows=S.rows:=by split <;> rfl
 have ha:∀ a b,Rc82.arc (if m=0 then { S with p:=putBit S.p x on } else { S with q:=putBit S.q x on }:Struct) a b=Rc82.arc S a b:=fun a b=>by unfold Rc82.arc;rw [hrw]
 refine ⟨by rw [hn,hrw];exact R.rows,by rw [hn];exact R.len,fun x' r' h=>?_,by simp [R.mlen],fun m' r' h=>?_⟩
 ·obtain ⟨a,b⟩:=R.row x' r' h
  exact ⟨by rw [hn];exact a,fun y c hc=>by rw [ha];exact b y c hc⟩
 ·rw [hn]
  by_cases e:m'=m
  ·subst e
   rw [List.getElem?_set_self (by rw [R.mlen];exact hm)] at h
   cases h
   obtain ⟨a,b⟩:=R.mrow m' r hr
   refine ⟨by simpa using a,fun y c hc=>?_⟩
   have q:(if m'=0 then (if m'=0 then { S with p:=putBit S.p x on } else { S with q:=putBit S.q x on }:Struct).p else (if m'=0 then { S with p:=putBit S.p x on } else { S with q:=putBit S.q x on }:Struct).q)=putBit (if m'=0 then S.p else S.q) x on:=by
    by_cases z:m'=0 <;> simp [z]
   rw [q,putBit_test]
   by_cases e2:y=x
   ·subst e2
    rw [List.getElem?_set] at hc
    simp only [if_pos] at hc
    split at hc
    ·cases hc;simp
    ·cases hc
   ·rw [List.getElem?_set_ne (fun z=>e2 z.symm)] at hc
    rw [if_neg e2]
    exact b y c hc
  ·rw [List.getElem?_set_ne (fun z=>e z.symm)] at h
   obtain ⟨a,b⟩:=R.mrow m' r' h
   refine ⟨a,fun y c hc=>?_⟩
   rw [b y c hc]
   by_cases z:m'=0
   ·have z2:m≠0:=fun k=>e (by rw [z,k])
    simp [z,z2]
   ·have hm':m' < 2:=by rw [←R.mlen];have:=(List.getElem?_eq_some_iff.mp h).1;simpa using this
    have z2:m=0:=by omega
    simp [z,z2]
end Pg
end
section
namespace Pg
open Rc82
abbrev Pos :=List (Option (Nat × Nat))
def Clo (A B:Struct) (G:Pos→Prop) : Prop :=
 ∀ t,G t→like A B (lie t)=true∧∀ i,i < t.length→(∀ a,a < A.n→∃ b,b < B.n∧G (t.set i (some (a,b))))∧(∀ b,b < B.n→∃ a,a < A.n∧G (t.set i (some (a,b))))
def Ever (A B:Struct) (p:Nat) : Prop:=∃ G,Clo A B G∧G (List.replicate p none)
def okS (A B:Struct) : Option (Nat × Nat)→Prop
 | none=>True
 | some y=>y.1 < A.n∧y.2 < B.n
def Okp (A B:Struct) (p:Nat) (t:Pos) : Prop:=t.length=p∧∀ x∈t,okS A B x
theorem okp_set {A B:Struct} {p:Nat} {t:Pos} {i a b:Nat} (h:Okp A B p t) (ha:a < A.n) (hb:b < B.n) : Okp A B p (t.set i (some (a,b))):=by
 refine ⟨by rw [List.length_set];exact h.1,fun x hx=>?_⟩
 rcases List.mem_or_eq_of_mem_set hx with hx | rfl
 ·exact h.2 x hx
 ·exact ⟨ha,hb⟩
theorem okp_rep (A B:Struct) (p:Nat) : Okp A B p (List.replicate p none) :=
 ⟨List.length_replicate,fun x hx=>by rw [(List.mem_replicate.mp hx).2];trivial⟩
theorem ways_pos (A B:Struct) : 0 < ways A B:=Nat.succ_pos _
def dig (B:Struct) : Option (Nat × Nat)→Nat
 | none=>0
 | some y=>y.1*B.n+y.2+1
theorem code_cons (A B:Struct) (x:Option (Nat × Nat)) (r:Pos) : codeOf A B (x :: r)=dig B x+ways A B*codeOf A B r:=by
 cases x <;> rfl
theorem dig_lt {A B:Struct} {x:Option (Nat × Nat)} (h:okS A B x) : dig B x < ways A B:=by
 cases x with
 | none=>exact ways_pos A B
 | some y =>
  obtain ⟨h1,h2⟩:=h
  have:y.1*B.n+B.n≤A.n*B.n:=by
   have:=Nat.mul_le_mul_right B.n (Nat.succ_le_of_lt h1)
   rw [Nat.succ_mul] at this
   exact this
  show y.1*B.n+y.2+1 < A.n*B.n+1
  omega
theorem stones_code {A B:Struct}:∀ (p:Nat) (t:Pos),Okp A B p t→stonesOf A B p (codeOf A B t)=t∧codeOf A B t < ways A B ^ p
 | 0,t,h=>by
  have:t=[]:=List.length_eq_zero_iff.mp h.1
  subst this
  exact ⟨rfl,by simp [codeOf]⟩
 | p+1,[],h=>by simp [Okp] at h
 | p+1,x :: r,h=>by
  have hr:Okp A B p r:=⟨by simpa using h.1,fun y hy=>h.2 y (List.mem_cons_of_mem _ hy)⟩
  obtain ⟨i1,i2⟩:=stones_code p r hr
  have hx:=h.2 x List.mem_cons_self
  have hd:=dig_lt hx
  have wp:=ways_pos A B
  have e1:codeOf A B (x :: r) % ways A B=dig B x:=by
   rw [code_cons,Nat.add_mul_mod_self_left,Nat.mod_eq_of_lt hd]
  have e2:codeOf A B (x :: r) / ways A B=codeOf A B r:=by
   rw [code_cons,Nat.add_mul_div_left _ _ wp,Nat.div_eq_of_lt hd,Nat.zero_add]
  refine ⟨?_,?_⟩
  ·show (if codeOf A B (x :: r) % ways A B=0 then none else some ((codeOf A B (x :: r) % ways A B - 1) / B.n,(codeOf A B (x :: r) % ways A B - 1) % B.n)) :: stonesOf A B p (codeOf A B (x :: r) / ways A B)=x :: r
   rw [e1,e2,i1]
   cases x with
   | none=>simp [dig]
   | some y =>
    obtain ⟨h1,h2⟩:=hx
    have bp:0 < B.n:=by omega
    have q1:(y.1*B.n+y.2) / B.n=y.1:=by
     rw [Nat.add_comm,Nat.add_mul_div_right _ _ bp,Nat.div_eq_of_lt h2,Nat.zero_add]
    have q2:(y.1*B.n+y.2) % B.n=y.2:=by
     rw [Nat.add_comm,Nat.add_mul_mod_self_right,Nat.mod_eq_of_lt h2]
    simp [dig,q1,q2]
  ·rw [code_cons,Nat.pow_succ,Nat.mul_comm (ways A B ^ p)]
   have:ways A B*codeOf A B r+ways A B≤ways A B*ways A B ^ p:=by
    have:=Nat.mul_le_mul_left (ways A B) (Nat.succ_le_of_lt i2)
    rw [Nat.mul_succ] at this
    exact this
   omega
theorem code_rep (A B:Struct) : ∀ p,codeOf A B (List.replicate p none)=0
 | 0=>rfl
 | p+1=>by
  show 0+ways A B*codeOf A B (List.replicate p none)=0
  rw [code_rep A B p];simp
theorem getD_map (N:Nat) (F:Nat→Bool) (c:Nat) : ((List.range N).map F).toArray.getD c false=(decide (c < N) && F c):=by
 by_cases h:c < N
 ·simp [Array.getD,h]
 ·simp [Array.getD,h]
def moves (A B:Struct) (p:Nat) (g:Array Bool) (t:Pos) : Bool :=
 (List.range p).all fun (i:Nat)=>(points A).all (fun (a:Nat)=>(points B).any fun (b:Nat)=>g.getD (codeOf A B (t.set i (some (a,b)))) false) && (points B).all fun (b:Nat)=>(points A).any fun (a:Nat)=>g.getD (codeOf A B (t.set i (some (a,b)))) false
theorem once_at (A B:Struct) (p:Nat) (g:Array Bool) (c:Nat) : (once A B p g).getD c false=(decide (c < ways A B ^ p) && (g.getD c false && moves A B p g (stonesOf A B p c))):=by
 unfold once
 rw [getD_map]
 rfl
theorem once_size (A B:Struct) (p:Nat) (g:Array Bool) : (once A B p g).size=ways A B ^ p:=by
 unfold once;simp
theorem moves_iff {A B:Struct} {p:Nat} {g:Array Bool} {t:Pos}:moves A B p g t=true↔∀ i,i < p →
  (∀ a,a < A.n→∃ b,b < B.n∧g.getD (codeOf A B (t.set i (some (a,b)))) false=true)∧(∀ b,b < B.n→∃ a,a < A.n∧g.getD (codeOf A B (t.set i (some (a,b)))) false=true):=by
 unfold moves points
 simp only [List.all_eq_true,List.any_eq_true,List.mem_range,Bool.and_eq_true]
def cnt (N:Nat) (g:Array Bool) : Nat:=(List.range N).countP fun c=>g.getD c false
theorem countP_strict {α:Type} {p q:α→Bool}:∀ {l:List α},(∀ x,p x=true→q x=true)→(∃ x∈l,q x=true∧p x=false)→l.countP p < l.countP q
 | [],_,⟨_,h,_⟩=>by cases h
 | x :: l,hi,⟨y,hy,h1,h2⟩=>by
  have mono:l.countP p≤l.countP q:=List.countP_mono_left fun x _=>hi x
  rw [List.countP_cons,List.countP_cons]
  rcases List.mem_cons.mp hy with rfl | hy
  ·simp only [h1,h2];simp;omega
  ·have:=countP_strict (l:=l) hi ⟨y,hy,h1,h2⟩
   by_cases e:p x=true
   ·simp only [e,hi x e];omega
   ·by_cases e2:q x=true <;> simp only [e,e2] <;> simp <;> omega
theorem left_fix {A B:Struct} {p:Nat}:∀ (f:Nat) (g:Array Bool),g.size=ways A B ^ p→cnt (ways A B ^ p) g < f →
  once A B p (left A B p f g)=left A B p f g
 | 0,g,_,h=>by omega
 | f+1,g,hs,h=>by
  unfold left
  show once A B p (if (once A B p g == g)=true then g else left A B p f (once A B p g))=if (once A B p g == g)=true then g else left A B p f (once A B p g)
  by_cases e:once A B p g=g
  ·rw [if_pos (by simp [e])];exact e
  ·rw [if_neg (by simpa using e)]
   refine left_fix f _ (once_size A B p g) ?_
   have:cnt (ways A B ^ p) (once A B p g) < cnt (ways A B ^ p) g:=by
    refine countP_strict (fun c hc=>?_) ?_
    ·rw [once_at] at hc
     simp only [Bool.and_eq_true] at hc
     exact hc.2.1
    ·apply Classical.byContradiction
     intro hn
     apply e
     apply Array.ext
     ·rw [once_size,hs]
     ·intro i h1 h2
      have hi:i < ways A B ^ p:=by rw [once_size] at h1;exact h1
      have a1:(once A B p g).getD i false=(once A B p g)[i]:=by simp [Array.getD,h1]
      have a2:g.getD i false=g[i]:=by simp [Array.getD,h2]
      rw [←a1,←a2]
      cases q:g.getD i false with
      | false=>rw [once_at,q];simp
      | true =>
       cases q2:(once A B p g).getD i false with
       | true=>rfl
       | false=>exact (hn ⟨i,List.mem_range.mpr hi,q,q2⟩).elim
   omega
theorem left_le {A B:Struct} {p:Nat}:∀ (f:Nat) (g:Array Bool) (c:Nat),(left A B p f g).getD c false=true→g.getD c false=true
 | 0,g,c,h=>h
 | f+1,g,c,h=>by
  unfold left at h
  change (if (once A B p g == g)=true then g else left A B p f (once A B p g)).getD c false=true at h
  split at h
  ·exact h
  ·have:=left_le f _ c h
   rw [once_at] at this
   simp only [Bool.and_eq_true] at this
   exact this.2.1
theorem left_keeps {A B:Struct} {p:Nat} {G:Pos→Prop} (hG:Clo A B G) (hp:∀ t,G t→Okp A B p t) : ∀ (f:Nat) (g:Array Bool),(∀ t,G t→g.getD (codeOf A B t) false=true)→∀ t,G t→(left A B p f g).getD (codeOf A B t) false=true
 | 0,g,h=>h
 | f+1,g,h=>by
  intro t ht
  unfold left
  show (if (once A B p g == g)=true then g else left A B p f (once A B p g)).getD _ false=true
  split
  ·exact h t ht
  ·refine left_keeps hG hp f _ (fun u hu=>?_) t ht
   obtain ⟨c1,c2⟩:=stones_code p u (hp u hu)
   rw [once_at,c1,h u hu,decide_eq_true c2]
   simp only [Bool.true_and]
   rw [moves_iff]
   intro i hi
   have hl:=(hp u hu).1
   obtain ⟨m1,m2⟩:=(hG u hu).2 i (by omega)
   exact ⟨fun a ha=>let ⟨b,hb,q⟩:=m1 a ha;⟨b,hb,h _ q⟩,fun b hb=>let ⟨a,ha,q⟩:=m2 b hb;⟨a,ha,h _ q⟩⟩
def first (A B:Struct) (p:Nat) : Array Bool:=((List.range (ways A B ^ p)).map fun (c:Nat)=>like A B (lie (stonesOf A B p c))).toArray
theorem everOf_iff (A B:Struct) (p:Nat) : everOf A B p=true↔Ever A B p:=by
 have hs:(first A B p).size=ways A B ^ p:=by simp [first]
 have he:everOf A B p=(left A B p (ways A B ^ p+1) (first A B p)).getD 0 false:=rfl
 rw [he]
 constructor
 ·intro h
  have hc:cnt (ways A B ^ p) (first A B p) < ways A B ^ p+1:=by
   have:=List.countP_le_length (p:=fun c=>(first A B p).getD c false) (l:=List.range (ways A B ^ p))
   rw [List.length_range] at this
   unfold cnt
   omega
  have fx:=left_fix (ways A B ^ p+1) (first A B p) hs hc
  refine ⟨fun t=>Okp A B p t∧(left A B p (ways A B ^ p+1) (first A B p)).getD (codeOf A B t) false=true,?_,okp_rep A B p,by rw [code_rep];exact h⟩
  rintro t ⟨ho,ht⟩
  obtain ⟨c1,c2⟩:=stones_code p t ho
  constructor
  ·have:=left_le _ _ _ ht
   unfold first at this
   rw [getD_map,c1] at this
   simp only [Bool.and_eq_true] at this
   exact this.2
  ·intro i hi
   rw [←fx,once_at,c1] at ht
   simp only [Bool.and_eq_true] at ht
   obtain ⟨m1,m2⟩:=moves_iff.mp ht.2.2 i (by rw [←ho.1];exact hi)
   exact ⟨fun a ha=>let ⟨b,hb,q⟩:=m1 a ha;⟨b,hb,okp_set ho ha hb,q⟩,fun b hb=>let ⟨a,ha,q⟩:=m2 b hb;⟨a,ha,okp_set ho ha hb,q⟩⟩
 ·rintro ⟨G,hG,h0⟩
  have:=left_keeps (p:=p) (G:=fun t=>G t∧Okp A B p t) (A:=A) (B:=B) ?_ (fun t h=>h.2) (ways A B ^ p+1) (first A B p) ?_ _ ⟨h0,okp_rep A B p⟩
  ·rw [code_rep] at this;exact this
  ·rintro t ⟨ht,ho⟩
   refine ⟨(hG t ht).1,fun i hi=>?_⟩
   obtain ⟨m1,m2⟩:=(hG t ht).2 i hi
   exact ⟨fun a ha=>let ⟨b,hb,q⟩:=m1 a ha;⟨b,hb,q,okp_set ho ha hb⟩,fun b hb=>let ⟨a,ha,q⟩:=m2 b hb;⟨a,ha,q,okp_set ho ha hb⟩⟩
  ·rintro t ⟨ht,ho⟩
   obtain ⟨c1,c2⟩:=stones_code p t ho
   unfold first
   rw [getD_map,c1,(hG t ht).1,decide_eq_true c2]
   rfl
end Pg
end
section
namespace Pg
open PyRc82
theorem calls_step {f:Nat} {l:List Int} {cs:List (List (List Int))} (h:PyFlat.calls shape f l=some cs) :
  (l=[]∧cs=[])∨∃ c t cs' f',PyFlat.call shape l=some (c,t)∧cs=c :: cs'∧PyFlat.calls shape f' t=some cs':=by
 cases l with
 | nil=>left;cases f <;> (simp only [PyFlat.calls] at h;cases h;exact ⟨rfl,rfl⟩)
 | cons p r =>
  right
  cases f with
  | zero=>simp only [PyFlat.calls] at h;cases h
  | succ f =>
   simp only [PyFlat.calls] at h
   cases e:PyFlat.call shape (p :: r) with
   | none=>rw [e] at h;cases h
   | some ct =>
    obtain ⟨c,t⟩:=ct
    rw [e] at h
    simp only at h
    cases e2:PyFlat.calls shape f t with
    | none=>rw [e2] at h;cases h
    | some cs' =>
     rw [e2] at h
     simp only [Option.some.injEq] at h
     exact ⟨c,t,cs',f,rfl,h.symm,e2⟩
theorem call_in {l:List Int} {c:List (List Int)} {t:List Int} (h:PyFlat.call shape l=some (c,t)) :
  ∃ (p:Int) (a:List Int),(shape p=some (a.length,0)∧l=p :: (a ++ t)∧c=[p :: a]) ∨
   ∃ b:List Int,shape p=some (a.length,1)∧l=p :: (a ++ ((b.length:Int) :: (b ++ t)))∧c=[p :: a,b]:=by
 cases l with
 | nil=>simp only [PyFlat.call] at h;cases h
 | cons p r =>
  simp only [PyFlat.call] at h
  cases e:shape p with
  | none=>rw [e] at h;cases h
  | some nk =>
   obtain ⟨n,k⟩:=nk
   rw [e] at h
   simp only at h
   split at h
   ·cases h
   ·rename_i hl
    have ln:(r.take n).length=n:=by rw [List.length_take];omega
    have hk:k=0∨k=1:=by
     unfold shape at e
     repeat' split at e
     all_goals first | cases e | skip
     all_goals simp_all
    refine ⟨p,r.take n,?_⟩
    rcases hk with rfl | rfl
    ·left
     simp only [PyFlat.rows,Option.some.injEq,Prod.mk.injEq] at h
     obtain ⟨rfl,rfl⟩:=h
     exact ⟨by rw [ln];exact e,by rw [List.take_append_drop],rfl⟩
    ·right
     simp only [PyFlat.rows] at h
     cases e2:PyFlat.row (r.drop n) with
     | none=>rw [e2] at h;cases h
     | some xs =>
      obtain ⟨x,s⟩:=xs
      rw [e2] at h
      simp only [Option.some.injEq,Prod.mk.injEq] at h
      obtain ⟨rfl,rfl⟩:=h
      cases e3:r.drop n with
      | nil=>rw [e3] at e2;simp only [PyFlat.row] at e2;cases e2
      | cons m q =>
       rw [e3] at e2
       simp only [PyFlat.row] at e2
       split at e2
       ·rename_i hm
        simp only [Option.some.injEq,Prod.mk.injEq] at e2
        obtain ⟨rfl,rfl⟩:=e2
        refine ⟨q.take m.toNat,by rw [ln];exact e,?_,rfl⟩
        have lm:((q.take m.toNat).length:Int)=m:=by rw [List.length_take];omega
        rw [lm,List.take_append_drop,←e3,List.take_append_drop]
       ·cases e2
theorem whole_c {p:Int} {a b:List Int} {n k:Nat} (h:shape p=some (n,k)) (e:n=a.length) : (k=0→whole [p :: a]=[p :: a])∧(k=1→whole [p :: a,b]=[p :: a,b]):=by
 unfold shape at h
 by_cases h4:p=4
 ·subst h4;cases h
  match a,e with
  | [_,_],_=>exact ⟨nofun,fun _=>rfl⟩
 by_cases h9:p=9
 ·subst h9;cases h
  match a,e with
  | [_,_,_,_],_=>exact ⟨nofun,fun _=>rfl⟩
 rw [if_neg h4,if_neg h9] at h
 by_cases h0:p=0
 ·subst h0;cases h
  match a,e with
  | [],_=>exact ⟨fun _=>rfl,nofun⟩
 by_cases h1:p=1
 ·subst h1;cases h
  match a,e with
  | [_,_],_=>exact ⟨fun _=>rfl,nofun⟩
 by_cases h2:p=2
 ·subst h2;cases h
  match a,e with
  | [_,_,_,_],_=>exact ⟨fun _=>rfl,nofun⟩
 by_cases h3:p=3
 ·subst h3;cases h
  match a,e with
  | [_,_,_,_],_=>exact ⟨fun _=>rfl,nofun⟩
 by_cases h5:p=5
 ·subst h5;cases h
  match a,e with
  | [_,_],_=>exact ⟨fun _=>rfl,nofun⟩
 by_cases h6:p=6
 ·subst h6;cases h
  match a,e with
  | [_],_=>exact ⟨fun _=>rfl,nofun⟩
 by_cases h7:p=7
 ·subst h7;cases h
  match a,e with
  | [_,_],_=>exact ⟨fun _=>rfl,nofun⟩
 by_cases h8:p=8
 ·subst h8;cases h
  match a,e with
  | [],_=>exact ⟨fun _=>rfl,nofun⟩
 by_cases ha:p=10
 ·subst ha;cases h
  match a,e with
  | [_],_=>exact ⟨fun _=>rfl,nofun⟩
 rw [if_neg h0,if_neg h1,if_neg h2,if_neg h3,if_neg h5,if_neg h6,if_neg h7,if_neg h8,if_neg ha] at h
 cases h
theorem map_whole {cs:List (List (List Int))} : ∀ {f:Nat} {l:List Int},PyFlat.calls shape f l=some cs→cs.map whole=cs:=by
 induction cs with
 | nil=>intros;rfl
 | cons c r ih =>
  intro f l h
  rcases calls_step h with ⟨_,h⟩ | ⟨c,t,r,f,h1,h2,h3⟩
  ·cases h
  cases h2
  rw [List.map_cons,ih h3]
  obtain ⟨p,a,⟨s,_,rfl⟩ | ⟨b,s,_,rfl⟩⟩:=call_in h1
  ·rw [(whole_c (b:=[]) s rfl).1 rfl]
  ·rw [(whole_c s rfl).2 rfl]
theorem answers_of {l:List Int} (h:answers_asked l=true) : ∃ f cs,PyFlat.calls shape f l=some cs∧cs.length≤400∧(∃ r,cs=[[0]] :: r)∧Rc82Neutral.goes Rc82Neutral.start cs=true ∧
  answers l=PyFlat.told (PyFlat.played Rc82Neutral.step Rc82Neutral.start cs):=by
 unfold answers_asked calls at h
 unfold answers calls
 cases e:PyFlat.calls shape l.length l with
 | none=>rw [e] at h;cases h
 | some cs =>
  rw [e] at h
  simp only [map_whole e] at h ⊢
  simp only [Bool.and_eq_true,PyFlat.atMost,decide_eq_true_eq,Rc82Neutral.asked] at h
  refine ⟨l.length,cs,e,h.1,?_,h.2.2.2,rfl⟩
  have q:=h.2.2.1
  cases cs with
  | nil=>simp at q
  | cons c r =>
   simp at q
   exact ⟨r,by rw [q]⟩
end Pg
end
section
namespace Pg
open Rc82
def two (B:Struct) (x:Nat × Nat) : Nat:=x.1*B.n+x.2
def pt (B:Struct) (z:Nat) : Nat × Nat:=(z / B.n,z % B.n)
noncomputable def relB (A B:Struct) (x y:Nat × Nat) : Bool:=((x.1 == y.1) == (x.2 == y.2)) && (arc A x.1 y.1 == arc B x.2 y.2)
noncomputable def mkB (A B:Struct) (x:Nat × Nat) : Bool:=(A.p.testBit x.1 == B.p.testBit x.2) && (A.q.testBit x.1 == B.q.testBit x.2)
def frd (A B:Struct) (z w:Nat) : Bool:=relB A B (pt B z) (pt B w) && relB A B (pt B w) (pt B z)
def alone (A B:Struct) (z:Nat) : Bool:=mkB A B (pt B z) && frd A B z z
def fit (A B:Struct) (s z:Nat) : Bool:=alone A B z && (List.range (A.n*B.n)).all fun w=>!s.testBit w || frd A B w z
def line0 (A B:Struct) (x:Nat) : List Nat:=(List.range B.n).map fun b=>two B (x,b)
def line1 (A B:Struct) (x:Nat) : List Nat:=(List.range A.n).map fun a=>two B (a,x)
def lines (A B:Struct) : List (List Nat):=(List.range A.n).map (line0 A B) ++ (List.range B.n).map (line1 A B)
def wst (A B:Struct) : Nat→Nat→Bool
 | 0,_=>true
 | k+1,s=>(lines A B).all fun L=>L.any fun z=>fit A B s z && wst A B k (s ||| 2 ^ z)
def InR (A B:Struct) (x:Nat × Nat) : Prop:=x.1 < A.n∧x.2 < B.n
theorem pt_two {A B:Struct} {x:Nat × Nat} (h:InR A B x) : pt B (two B x)=x:=by
 have bp:0 < B.n:=by have:=h.2;omega
 unfold pt two
 rw [Nat.add_comm,Nat.add_mul_div_right _ _ bp,Nat.div_eq_of_lt h.2,Nat.zero_add,Nat.add_mul_mod_self_right,Nat.mod_eq_of_lt h.2]
theorem two_lt {A B:Struct} {x:Nat × Nat} (h:InR A B x) : two B x < A.n*B.n:=by
 have:=Nat.mul_le_mul_right B.n (Nat.succ_le_of_lt h.1)
 rw [Nat.succ_mul] at this
 have:=h.2
 unfold two
 omega
theorem pt_in {A B:Struct} {z:Nat} (h:z < A.n*B.n) : InR A B (pt B z):=by
 have bp:0 < B.n:=Nat.pos_of_ne_zero fun e=>by rw [e] at h;simp at h
 exact ⟨(Nat.div_lt_iff_lt_mul bp).mpr h,Nat.mod_lt _ bp⟩
theorem two_inj {A B:Struct} {x y:Nat × Nat} (hx:InR A B x) (hy:InR A B y) (e:two B x=two B y) : x=y:=by
 rw [←pt_two hx,←pt_two hy,e]
theorem frd_two {A B:Struct} {x y:Nat × Nat} (hx:InR A B x) (hy:InR A B y) : frd A B (two B x) (two B y)=(relB A B x y && relB A B y x):=by
 unfold frd;rw [pt_two hx,pt_two hy]
theorem like_iff {A B:Struct} {l:List (Nat × Nat)}:like A B l=true↔∀ x∈l,mkB A B x=true∧∀ y∈l,relB A B x y=true:=by
 unfold like
 rw [List.all_eq_true]
 refine forall_congr' fun x=>forall_congr' fun _=>?_
 rw [Bool.and_eq_true,List.all_eq_true]
 rfl
theorem like_congr {A B:Struct} {l l':List (Nat × Nat)} (h:∀ x,x∈l↔x∈l') : like A B l=like A B l':=by
 rw [Bool.eq_iff_iff,like_iff,like_iff]
 simp only [h]
structure InS (A B:Struct) (s:Nat) (l:List (Nat × Nat)) : Prop where
 rng:∀ x∈l,InR A B x
 bit:∀ z,s.testBit z=true↔∃ x∈l,two B x=z
theorem InS.nil (A B:Struct) : InS A B 0 []:=⟨(fun _ h=>nomatch h),fun z=>by simp⟩
theorem InS.congr {A B:Struct} {s:Nat} {l l':List (Nat × Nat)} (h:InS A B s l) (e:∀ x,x∈l↔x∈l') : InS A B s l' :=
 ⟨fun x hx=>h.rng x ((e x).mpr hx),fun z=>(h.bit z).trans ⟨fun ⟨x,a,b⟩=>⟨x,(e x).mp a,b⟩,fun ⟨x,a,b⟩=>⟨x,(e x).mpr a,b⟩⟩⟩
theorem or_test (s z w:Nat) : (s ||| 2 ^ z).testBit w=(s.testBit w || decide (z=w)):=by
 rw [Nat.testBit_or,Nat.testBit_two_pow]
theorem InS.cons {A B:Struct} {s:Nat} {l:List (Nat × Nat)} {x:Nat × Nat} (h:InS A B s l) (hx:InR A B x) : InS A B (s ||| 2 ^ two B x) (x :: l):=by
 refine ⟨fun y hy=>?_,fun z=>?_⟩
 ·rcases List.mem_cons.mp hy with rfl | hy
  ·exact hx
  ·exact h.rng y hy
 ·rw [or_test,Bool.or_eq_true,h.bit,decide_eq_true_eq]
  simp only [List.mem_cons,exists_eq_or_imp]
  exact Or.comm
theorem InS.lt {A B:Struct} {s:Nat} {l:List (Nat × Nat)} (h:InS A B s l) {z:Nat} (e:s.testBit z=true) : z < A.n*B.n:=by
 obtain ⟨x,hx,rfl⟩:=(h.bit z).mp e
 exact two_lt (h.rng x hx)
theorem fit_iff {A B:Struct} {s z:Nat}:fit A B s z=true↔alone A B z=true∧∀ w,w < A.n*B.n→s.testBit w=true→frd A B w z=true:=by
 unfold fit
 simp only [Bool.and_eq_true,List.all_eq_true,List.mem_range,Bool.or_eq_true,Bool.not_eq_true']
 refine and_congr Iff.rfl (forall_congr' fun w=>forall_congr' fun _=>?_)
 cases s.testBit w <;> simp
theorem like_cons {A B:Struct} {s:Nat} {l:List (Nat × Nat)} {x:Nat × Nat} (h:InS A B s l) (hx:InR A B x) (hl:like A B l=true) : like A B (x :: l)=fit A B s (two B x):=by
 rw [Bool.eq_iff_iff,like_iff,fit_iff]
 have hl':=like_iff.mp hl
 constructor
 ·intro q
  have qx:=q x List.mem_cons_self
  refine ⟨?_,fun w hw e=>?_⟩
  ·unfold alone
   rw [pt_two hx,frd_two hx hx,qx.1,qx.2 x List.mem_cons_self];rfl
  ·obtain ⟨y,hy,rfl⟩:=(h.bit w).mp e
   rw [frd_two (h.rng y hy) hx,(q y (List.mem_cons_of_mem _ hy)).2 x List.mem_cons_self,qx.2 y (List.mem_cons_of_mem _ hy)];rfl
 ·rintro ⟨q1,q2⟩
  unfold alone at q1
  rw [pt_two hx,frd_two hx hx,Bool.and_eq_true,Bool.and_eq_true] at q1
  have q3:∀ y∈l,relB A B y x=true∧relB A B x y=true:=fun y hy=>by
   have:=q2 _ (two_lt (h.rng y hy)) ((h.bit _).mpr ⟨y,hy,rfl⟩)
   rw [frd_two (h.rng y hy) hx,Bool.and_eq_true] at this
   exact this
  intro y hy
  rcases List.mem_cons.mp hy with rfl | hy
  ·refine ⟨q1.1,fun z hz=>?_⟩
   rcases List.mem_cons.mp hz with rfl | hz
   ·exact q1.2.1
   ·exact (q3 z hz).2
  ·refine ⟨(hl' y hy).1,fun z hz=>?_⟩
   rcases List.mem_cons.mp hz with e | hz
   ·rw [e];exact (q3 y hy).1
   ·exact (hl' y hy).2 z hz
theorem stands_like {A B:Struct} {k:Nat} {l:List (Nat × Nat)} (h:like A B l=false) : stands A B k l=false:=by
 cases k <;> simp [stands,h]
theorem stands_wst {A B:Struct}:∀ (k:Nat) (s:Nat) (l:List (Nat × Nat)),InS A B s l→like A B l=true→stands A B k l=wst A B k s:=by
 intro k
 induction k with
 | zero=>intro s l _ hl;simp [stands,wst,hl]
 | succ k ih =>
  intro s l h hl
  have st:∀ x,InR A B x→stands A B k (x :: l)=(fit A B s (two B x) && wst A B k (s ||| 2 ^ two B x)):=fun x hx=>by
   rw [←like_cons h hx hl]
   cases e:like A B (x :: l) with
   | false=>rw [stands_like e];rfl
   | true=>rw [ih _ _ (h.cons hx) e];rfl
  rw [Bool.eq_iff_iff]
  simp only [stands,wst,hl,Bool.true_and,lines,points,line0,line1,List.all_append,Bool.and_eq_true,List.all_eq_true,List.any_eq_true,List.mem_map,List.mem_range,forall_exists_index,and_imp,forall_apply_eq_imp_iff₂]
  refine and_congr (forall_congr' fun a=>forall_congr' fun ha=>?_) (forall_congr' fun b=>forall_congr' fun hb=>?_)
  ·constructor
   ·rintro ⟨b,hb,q⟩
    rw [st (a,b) ⟨ha,hb⟩,Bool.and_eq_true] at q
    exact ⟨_,⟨b,hb,rfl⟩,q⟩
   ·rintro ⟨_,⟨b,hb,rfl⟩,q⟩
    exact ⟨b,hb,by rw [st (a,b) ⟨ha,hb⟩,Bool.and_eq_true];exact q⟩
  ·constructor
   ·rintro ⟨a,ha,q⟩
    rw [st (a,b) ⟨ha,hb⟩,Bool.and_eq_true] at q
    exact ⟨_,⟨a,ha,rfl⟩,q⟩
   ·rintro ⟨_,⟨a,ha,rfl⟩,q⟩
    exact ⟨a,ha,by rw [st (a,b) ⟨ha,hb⟩,Bool.and_eq_true];exact q⟩
def place (A B:Struct) (k s:Nat) (L:List Nat) : Option Nat:=L.findIdx? fun z=>fit A B s z && wst A B k (s ||| 2 ^ z)
def lineOf (A B:Struct) (side x:Nat) : List Nat:=if side=0 then line0 A B x else line1 A B x
def laid (A B:Struct) : Nat→List (Nat × Nat)→Option Nat
 | s,[]=>some s
 | s,x :: r=>if fit A B s (two B x)=true then laid A B (s ||| 2 ^ two B x) r else none
theorem find_range {n:Nat} {f:Nat→Nat} {p:Nat→Bool} {q:Nat→Bool} (h:∀ i,i < n→p i=q (f i)) : (List.range n).find? p=((List.range n).map f).findIdx? q:=by
 rw [List.findIdx?_map]
 have e:∀ (m k:Nat),(∀ i,i < m→p (k+i)=q (f (k+i)))→(List.range' k m).find? p=((List.range' k m).findIdx? (q ∘ f)).map (k + ·):=by
  intro m
  induction m with
  | zero=>intro k _;simp
  | succ m ih =>
   intro k hk
   rw [List.range'_succ,List.find?_cons,List.findIdx?_cons]
   have:=hk 0 (by omega)
   simp only [Nat.add_zero] at this
   rw [Function.comp,←this]
   cases p k with
   | true=>simp
   | false =>
    rw [ih (k+1) fun i hi=>by have:=hk (i+1) (by omega);rwa [show k+(i+1)=k+1+i by omega] at this]
    simp only [Bool.false_eq_true,if_false,Option.map_map]
    congr 1
    funext i
    simp only [Function.comp]
    omega
 have:=e n 0 fun i hi=>by rw [Nat.zero_add];exact h i hi
 rw [List.range_eq_range',this]
 simp
theorem reply_place {A B:Struct} {side k x s:Nat} {l:List (Nat × Nat)} (h:InS A B s l) (hl:like A B l=true) (hs:side < 2) (hx:x < if side=0 then A.n else B.n) :
  reply A B side k l x=place A B k s (lineOf A B side x):=by
 have st:∀ x,InR A B x→stands A B k (x :: l)=(fit A B s (two B x) && wst A B k (s ||| 2 ^ two B x)):=fun x hx=>by
  rw [←like_cons h hx hl]
  cases e:like A B (x :: l) with
  | false=>rw [stands_like e];rfl
  | true=>rw [stands_wst k _ _ (h.cons hx) e];rfl
 unfold reply place lineOf points line0 line1
 by_cases e:side=0
 ·rw [if_pos e] at hx
  rw [if_pos e,if_pos e]
  exact find_range fun b hb=>st (x,b) ⟨hx,hb⟩
 ·rw [if_neg e] at hx
  rw [if_neg e,if_neg e]
  exact find_range fun a ha=>st (a,x) ⟨ha,hx⟩
theorem reply_none {A B:Struct} {side k x:Nat} {l:List (Nat × Nat)} (hl:like A B l=false) : reply A B side k l x=none:=by
 have hc:∀ y,like A B (y :: l)=false:=fun y=>by
  cases e:like A B (y :: l) with
  | false=>rfl
  | true =>
   rw [←hl]
   symm
   rw [like_iff] at e ⊢
   exact fun z hz=>⟨(e z (List.mem_cons_of_mem _ hz)).1,fun w hw=>(e z (List.mem_cons_of_mem _ hz)).2 w (List.mem_cons_of_mem _ hw)⟩
 unfold reply
 split
 ·rw [List.find?_eq_none]
  intro b _
  rw [stands_like (hc _)];simp
 ·rw [List.find?_eq_none]
  intro b _
  rw [stands_like (hc _)];simp
theorem laid_is {A B:Struct}:∀ (r:List (Nat × Nat)) (s:Nat) (l:List (Nat × Nat)),InS A B s l→like A B l=true→(∀ x∈r,InR A B x) →
  (∃ s',laid A B s r=some s'∧InS A B s' (r ++ l)∧like A B (r ++ l)=true)∨(laid A B s r=none∧like A B (r ++ l)=false)
 | [],s,l,h,hl,_=>.inl ⟨s,rfl,h,hl⟩
 | x :: r,s,l,h,hl,hr=>by
  have hx:=hr x List.mem_cons_self
  have me:∀ y,y∈r ++ x :: l↔y∈x :: r ++ l:=fun y=>by simp only [List.cons_append,List.mem_append,List.mem_cons];exact ⟨fun h=>h.elim (fun a=>.inr (.inl a)) fun h=>h.elim .inl fun a=>.inr (.inr a),fun h=>h.elim (fun a=>.inr (.inl a)) fun h=>h.elim .inl fun a=>.inr (.inr a)⟩
  unfold laid
  by_cases e:fit A B s (two B x)=true
  ·rw [if_pos e]
   rcases laid_is r (s ||| 2 ^ two B x) (x :: l) (h.cons hx) (by rw [like_cons h hx hl];exact e) (fun y hy=>hr y (List.mem_cons_of_mem _ hy)) with ⟨s',a,b,c⟩ | ⟨a,b⟩
   ·exact .inl ⟨s',a,b.congr me,by rw [←like_congr me];exact c⟩
   ·exact .inr ⟨a,by rw [←like_congr me];exact b⟩
  ·rw [if_neg e]
   refine .inr ⟨rfl,?_⟩
   cases q:like A B (x :: r ++ l) with
   | false=>rfl
   | true =>
    refine (e ?_).elim
    rw [←like_cons h hx hl,like_iff]
    rw [like_iff] at q
    have m:∀ y,y∈x :: l→y∈x :: r ++ l:=fun y hy=>by simp only [List.cons_append,List.mem_cons,List.mem_append] at hy ⊢;rcases hy with a | a <;> simp [a]
    exact fun y hy=>⟨(q y (m y hy)).1,fun z hz=>(q y (m y hy)).2 z (m z hz)⟩
theorem reply_is {A B:Struct} {side k x:Nat} {l:List (Nat × Nat)} (hr:∀ x∈l,InR A B x) (hs:side < 2) (hx:x < if side=0 then A.n else B.n) :
  reply A B side k l x=(laid A B 0 l).bind fun s=>place A B k s (lineOf A B side x):=by
 rcases laid_is l 0 [] (InS.nil A B) rfl hr with ⟨s',a,b,c⟩ | ⟨a,b⟩
 ·rw [a,List.append_nil] at *
  exact reply_place b c hs hx
 ·rw [a,List.append_nil] at *
  exact reply_none b
theorem told_is (A B:Struct) : told A B=if wst A B 1 0=false then some 1 else if wst A B 2 0=false then some 2 else if wst A B 3 0=false then some 3 else if wst A B 4 0=false then some 4 else none:=by
 have st:∀ k,stands A B k []=wst A B k 0:=fun k=>stands_wst k 0 [] (InS.nil A B) rfl
 unfold told DEEP
 rw [show List.range (4+1)=[0,1,2,3,4] from rfl]
 simp only [List.find?_cons,List.find?_nil,st]
 rw [show wst A B 0 0=true from rfl]
 cases wst A B 1 0 <;> cases wst A B 2 0 <;> cases wst A B 3 0 <;> cases wst A B 4 0 <;> rfl
end Pg
end
section
namespace Pg
open Rc82
def card (N s:Nat) : Nat:=(List.range N).countP s.testBit
def AL (A B:Struct) (s:Nat) : Prop:=∀ z,s.testBit z=true→z < A.n*B.n∧fit A B s z=true
def AnsS (A B:Struct) (p:Nat) (G:Nat→Prop) (r:Nat) : Prop:=card (A.n*B.n) r < p∧∀ L∈lines A B,∃ z∈L,G (r ||| 2 ^ z)
def Good (A B:Struct) (p:Nat) (G:Nat→Prop) (s:Nat) : Prop:=(∀ z,s.testBit z=true→AnsS A B p G (s ^^^ 2 ^ z))∧(card (A.n*B.n) s < p→AnsS A B p G s)
def CloS (A B:Struct) (p:Nat) (G:Nat→Prop) : Prop:=∀ s,G s→AL A B s∧card (A.n*B.n) s≤p∧Good A B p G s
theorem countP_flip {p q:Nat→Bool} {z:Nat}:∀ {l:List Nat},l.Nodup→(∀ w,w≠z→p w=q w)→p z=false→q z=true→l.countP q=l.countP p+if z∈l then 1 else 0
 | [],_,_,_,_=>by simp
 | x :: l,nd,h,h1,h2=>by
  have nd':=List.nodup_cons.mp nd
  have ih:=countP_flip nd'.2 h h1 h2
  rw [List.countP_cons,List.countP_cons,ih]
  by_cases e:x=z
  ·subst e
   simp [h1,h2,nd'.1]
  ·rw [h x e]
   simp only [List.mem_cons,Ne.symm e,false_or]
   omega
theorem xor_test (s z w:Nat) : (s ^^^ 2 ^ z).testBit w=(s.testBit w != decide (z=w)):=by
 rw [Nat.testBit_xor,Nat.testBit_two_pow]
theorem card_zero (N:Nat) : card N 0=0:=by
 unfold card;rw [List.countP_eq_zero];simp
theorem card_add {N s z:Nat} (h:s.testBit z=false) (hz:z < N) : card N (s ||| 2 ^ z)=card N s+1:=by
 unfold card
 have:=countP_flip (p:=s.testBit) (q:=(s ||| 2 ^ z).testBit) (z:=z) (l:=List.range N) List.nodup_range (fun w hw=>by rw [or_test,decide_eq_false (Ne.symm hw),Bool.or_false]) h (by rw [or_test];simp)
 rw [this,if_pos (List.mem_range.mpr hz)]
theorem or_self {s z:Nat} (h:s.testBit z=true) : s ||| 2 ^ z=s:=by
 apply Nat.eq_of_testBit_eq
 intro w
 rw [or_test]
 by_cases e:z=w
 ·subst e;simp [h]
 ·simp [e]
theorem card_or (N s z:Nat) : card N (s ||| 2 ^ z)≤card N s+1:=by
 cases h:s.testBit z with
 | true=>rw [or_self h];omega
 | false =>
  by_cases hz:z < N
  ·rw [card_add h hz];exact Nat.le_refl _
  ·unfold card
   rw [List.countP_congr (q:=s.testBit)]
   ·omega
   ·intro w hw
    have:=List.mem_range.mp hw
    rw [or_test,decide_eq_false (by omega),Bool.or_false]
theorem xor_or {s z:Nat} (h:s.testBit z=true) : (s ^^^ 2 ^ z) ||| 2 ^ z=s:=by
 apply Nat.eq_of_testBit_eq
 intro w
 rw [or_test,xor_test]
 by_cases e:z=w
 ·subst e;simp [h]
 ·simp [e]
theorem card_xor {N s z:Nat} (h:s.testBit z=true) (hz:z < N) : card N s=card N (s ^^^ 2 ^ z)+1:=by
 have:=card_add (N:=N) (s:=s ^^^ 2 ^ z) (z:=z) (by rw [xor_test,h];simp) hz
 rwa [xor_or h] at this
theorem card_none {N s:Nat} (h:card N s=0) (hb:∀ z,s.testBit z=true→z < N) : s=0:=by
 unfold card at h
 rw [List.countP_eq_zero] at h
 apply Nat.eq_of_testBit_eq
 intro z
 rw [Nat.zero_testBit]
 cases e:s.testBit z with
 | false=>rfl
 | true=>exact absurd e (h z (List.mem_range.mpr (hb z e)))
theorem frd_comm (A B:Struct) (z w:Nat) : frd A B z w=frd A B w z:=by unfold frd;rw [Bool.and_comm]
theorem AL.zero (A B:Struct) : AL A B 0:=fun z h=>by simp at h
theorem AL.add {A B:Struct} {s z:Nat} (h:AL A B s) (hz:z < A.n*B.n) (hf:fit A B s z=true) : AL A B (s ||| 2 ^ z):=by
 intro w hw
 have hf':=fit_iff.mp hf
 rw [or_test,Bool.or_eq_true,decide_eq_true_eq] at hw
 rcases hw with hw | rfl
 ·refine ⟨(h w hw).1,fit_iff.mpr ⟨(fit_iff.mp (h w hw).2).1,fun v hv e=>?_⟩⟩
  rw [or_test,Bool.or_eq_true,decide_eq_true_eq] at e
  rcases e with e | rfl
  ·exact (fit_iff.mp (h w hw).2).2 v hv e
  ·rw [frd_comm];exact hf'.2 w (h w hw).1 hw
 ·refine ⟨hz,fit_iff.mpr ⟨hf'.1,fun v hv e=>?_⟩⟩
  rw [or_test,Bool.or_eq_true,decide_eq_true_eq] at e
  rcases e with e | rfl
  ·exact hf'.2 v hv e
  ·unfold alone at hf';exact (Bool.and_eq_true _ _ ▸ hf'.1).2
theorem AL.sub {A B:Struct} {s r:Nat} (h:AL A B s) (hr:∀ z,r.testBit z=true→s.testBit z=true) : AL A B r:=fun z hz =>
 ⟨(h z (hr z hz)).1,fit_iff.mpr ⟨(fit_iff.mp (h z (hr z hz)).2).1,fun w hw e=>(fit_iff.mp (h z (hr z hz)).2).2 w hw (hr w e)⟩⟩
theorem AL.fitSub {A B:Struct} {s r z:Nat} (h:AL A B s) (hz:s.testBit z=true) (hr:∀ w,r.testBit w=true→s.testBit w=true) : fit A B r z=true :=
 fit_iff.mpr ⟨(fit_iff.mp (h z hz).2).1,fun w hw e=>(fit_iff.mp (h z hz).2).2 w hw (hr w e)⟩
theorem xor_sub {s z w:Nat} (h:s.testBit z=true) (e:(s ^^^ 2 ^ z).testBit w=true) : s.testBit w=true:=by
 rw [xor_test] at e
 by_cases q:z=w
 ·subst q;exact h
 ·simpa [q] using e
theorem like_AL {A B:Struct} {s:Nat} {l:List (Nat × Nat)} (h:InS A B s l) : like A B l=true↔AL A B s:=by
 rw [like_iff]
 constructor
 ·intro q z hz
  obtain ⟨x,hx,rfl⟩:=(h.bit z).mp hz
  refine ⟨two_lt (h.rng x hx),fit_iff.mpr ⟨?_,fun w hw e=>?_⟩⟩
  ·unfold alone
   rw [pt_two (h.rng x hx),frd_two (h.rng x hx) (h.rng x hx),(q x hx).1,(q x hx).2 x hx];rfl
  ·obtain ⟨y,hy,rfl⟩:=(h.bit w).mp e
   rw [frd_two (h.rng y hy) (h.rng x hx),(q x hx).2 y hy,(q y hy).2 x hx];rfl
 ·intro q x hx
  have qx:=fit_iff.mp (q _ ((h.bit _).mpr ⟨x,hx,rfl⟩)).2
  refine ⟨?_,fun y hy=>?_⟩
  ·have:=qx.1
   unfold alone at this
   rw [pt_two (h.rng x hx),Bool.and_eq_true] at this
   exact this.1
  ·have:=qx.2 _ (two_lt (h.rng y hy)) ((h.bit _).mpr ⟨y,hy,rfl⟩)
   rw [frd_two (h.rng y hy) (h.rng x hx),Bool.and_eq_true] at this
   exact this.2
def maskL (B:Struct) : List (Nat × Nat)→Nat
 | []=>0
 | x :: l=>maskL B l ||| 2 ^ two B x
theorem InS.mask {A B:Struct}:∀ {l:List (Nat × Nat)},(∀ x∈l,InR A B x)→InS A B (maskL B l) l
 | [],_=>InS.nil A B
 | x :: l,h=>(InS.mask fun y hy=>h y (List.mem_cons_of_mem _ hy)).cons (h x List.mem_cons_self)
theorem InS.uniq {A B:Struct} {s r:Nat} {l l':List (Nat × Nat)} (h:InS A B s l) (h':InS A B r l') (e:∀ x,x∈l↔x∈l') : s=r:=by
 apply Nat.eq_of_testBit_eq
 intro z
 rw [Bool.eq_iff_iff,(h.congr e).bit,h'.bit]
theorem card_mask (N:Nat) (B:Struct) : ∀ l:List (Nat × Nat),card N (maskL B l)≤l.length
 | []=>by rw [maskL,card_zero];exact Nat.zero_le _
 | x :: l=>by
  have:=card_mask N B l
  have:=card_or N (maskL B l) (two B x)
  simp only [maskL,List.length_cons]
  omega
theorem mem_lie {t:Pos} {x:Nat × Nat}:x∈lie t↔∃ j:Nat,t[j]? = some (some x):=by
 unfold lie
 rw [List.mem_filterMap]
 constructor
 ·rintro ⟨a,ha,rfl⟩
  exact List.mem_iff_getElem?.mp ha
 ·rintro ⟨j,hj⟩
  exact ⟨some x,List.mem_of_getElem? hj,rfl⟩
theorem mem_lie_set {t:Pos} {i:Nat} {y x:Nat × Nat} (hi:i < t.length) : x∈lie (t.set i (some y))↔x=y∨x∈lie (t.set i none):=by
 rw [mem_lie,mem_lie]
 constructor
 ·rintro ⟨j,hj⟩
  by_cases e:i=j
  ·subst e
   rw [List.getElem?_set_self hi] at hj
   cases hj;exact .inl rfl
  ·rw [List.getElem?_set_ne e] at hj
   exact .inr ⟨j,by rw [List.getElem?_set_ne e];exact hj⟩
 ·rintro (rfl | ⟨j,hj⟩)
  ·exact ⟨i,by rw [List.getElem?_set_self hi]⟩
  ·by_cases e:i=j
   ·subst e
    rw [List.getElem?_set_self hi] at hj
    cases hj
   ·rw [List.getElem?_set_ne e] at hj
    exact ⟨j,by rw [List.getElem?_set_ne e];exact hj⟩
theorem lie_len (t:Pos) : (lie t).length≤t.length:=List.length_filterMap_le _ _
theorem lie_set_len :∀ {t:Pos} {i:Nat},i < t.length→(lie (t.set i none)).length < t.length
 | x :: t,0,_=>by have:=lie_len t;show (lie t).length < _;simp;omega
 | x :: t,i+1,h=>by
  have:=lie_set_len (t:=t) (i:=i) (by simpa using h)
  cases x with
  | none=>show (lie (t.set i none)).length < _;simp;omega
  | some y=>show (lie (t.set i none)).length+1 < _;simp;omega
theorem lie_ok {A B:Struct} {p:Nat} {t:Pos} (h:Okp A B p t) : ∀ x∈lie t,InR A B x:=fun x hx=>by
 obtain ⟨j,hj⟩:=mem_lie.mp hx
 exact h.2 _ (List.mem_of_getElem? hj)
theorem okp_none {A B:Struct} {p:Nat} {t:Pos} {i:Nat} (h:Okp A B p t) : Okp A B p (t.set i none) :=
 ⟨by rw [List.length_set];exact h.1,fun x hx=>(List.mem_or_eq_of_mem_set hx).elim (h.2 x) fun e=>by rw [e];trivial⟩
theorem cover {A B:Struct}:∀ (t:Pos) (r:Nat),(∀ x∈lie t,InR A B x)→card (A.n*B.n) r < t.length→(∀ z,r.testBit z=true→∃ x∈lie t,two B x=z)→∃ i,i < t.length∧∀ z,r.testBit z=true→∃ x∈lie (t.set i none),two B x=z
 | [],r,_,h,_=>by simp at h
 | x :: t,r,ho,h,hc=>by
  have ho':∀ y∈lie t,InR A B y:=fun y hy=>ho y (by cases x <;> simp [lie] at hy ⊢ <;> simp [hy])
  by_cases q:∀ z,r.testBit z=true→∃ y∈lie t,two B y=z
  ·exact ⟨0,by simp,fun z hz=>q z hz⟩
  ·have ⟨z,hz⟩:=Classical.not_forall.mp q
   have ⟨h1,h2⟩:=Classical.not_imp.mp hz
   obtain ⟨y,hy,rfl⟩:=hc z h1
   have hx:x=some y:=by
    cases x with
    | none=>exact (h2 ⟨y,hy,rfl⟩).elim
    | some y' =>
     have:y=y'∨y∈lie t:=by simpa [lie] using hy
     rcases this with e | e
     ·rw [e]
     ·exact (h2 ⟨y,e,rfl⟩).elim
   subst hx
   have iy:InR A B y:=ho y hy
   have cd:=card_xor h1 (two_lt iy)
   obtain ⟨i,hi,hcov⟩:=cover t (r ^^^ 2 ^ two B y) ho' (by simp at h;omega) fun w hw=>by
    obtain ⟨v,hv,e⟩:=hc w (xor_sub h1 hw)
    have:v=y∨v∈lie t:=by simpa [lie] using hv
    rcases this with rfl | hv
    ·rw [←e,xor_test,h1] at hw;simp at hw
    ·exact ⟨v,hv,e⟩
   refine ⟨i+1,by simp;omega,fun w hw=>?_⟩
   show ∃ v∈lie (some y :: t.set i none),two B v=w
   by_cases e:two B y=w
   ·exact ⟨y,by simp [lie],e⟩
   ·obtain ⟨v,hv,e2⟩:=hcov w (by rw [xor_test,hw];simp [e])
    exact ⟨v,by simp only [lie,List.filterMap_cons] at hv ⊢;exact List.mem_cons_of_mem _ hv,e2⟩
theorem mem_lines {A B:Struct} {L:List Nat}:L∈lines A B↔(∃ a,a < A.n∧L=line0 A B a)∨∃ b,b < B.n∧L=line1 A B b:=by
 unfold lines
 rw [List.mem_append,List.mem_map,List.mem_map]
 simp only [List.mem_range]
 exact or_congr ⟨fun ⟨a,h,e⟩=>⟨a,h,e.symm⟩,fun ⟨a,h,e⟩=>⟨a,h,e.symm⟩⟩ ⟨fun ⟨a,h,e⟩=>⟨a,h,e.symm⟩,fun ⟨a,h,e⟩=>⟨a,h,e.symm⟩⟩
theorem mem_line0 {A B:Struct} {a z:Nat}:z∈line0 A B a↔∃ b,b < B.n∧two B (a,b)=z:=by
 unfold line0;simp [List.mem_map]
theorem mem_line1 {A B:Struct} {b z:Nat}:z∈line1 A B b↔∃ a,a < A.n∧two B (a,b)=z:=by
 unfold line1;simp [List.mem_map]
theorem ever_sets (A B:Struct) (p:Nat) : Ever A B p↔∃ G,CloS A B p G∧G 0:=by
 constructor
 ·rintro ⟨G,hG,h0⟩
  refine ⟨fun s=>card (A.n*B.n) s≤p∧∃ t,G t∧Okp A B p t∧∀ z,s.testBit z=true→∃ x∈lie t,two B x=z,?_,by rw [card_zero];exact Nat.zero_le _,_,h0,okp_rep A B p,fun z h=>by simp at h⟩
  rintro s ⟨hc,t,gt,ok,cov⟩
  have hs:AL A B s:=by
   have i:=InS.mask (lie_ok ok)
   exact ((like_AL i).mp (hG t gt).1).sub fun z hz=>(i.bit z).mpr (cov z hz)
  have key:∀ r,card (A.n*B.n) r < p→(∀ z,r.testBit z=true→s.testBit z=true)→AnsS A B p (fun s=>card (A.n*B.n) s≤p∧∃ t,G t∧Okp A B p t∧∀ z,s.testBit z=true→∃ x∈lie t,two B x=z) r:=by
   intro r hr sub
   refine ⟨hr,fun L hL=>?_⟩
   obtain ⟨i,hi,hcov⟩:=cover t r (lie_ok ok) (by rw [ok.1];exact hr) fun z hz=>cov z (sub z hz)
   have put:∀ a b,a < A.n→b < B.n→G (t.set i (some (a,b)))→(card (A.n*B.n) (r ||| 2 ^ two B (a,b))≤p∧∃ t,G t∧Okp A B p t∧∀ z,(r ||| 2 ^ two B (a,b)).testBit z=true→∃ x∈lie t,two B x=z):=fun a b ha hb g=>by
    refine ⟨by have:=card_or (A.n*B.n) r (two B (a,b));omega,_,g,okp_set ok ha hb,fun z hz=>?_⟩
    rw [or_test,Bool.or_eq_true,decide_eq_true_eq] at hz
    rcases hz with hz | rfl
    ·obtain ⟨x,hx,e⟩:=hcov z hz
     exact ⟨x,(mem_lie_set hi).mpr (.inr hx),e⟩
    ·exact ⟨(a,b),(mem_lie_set hi).mpr (.inl rfl),rfl⟩
   obtain ⟨m1,m2⟩:=(hG t gt).2 i hi
   rcases mem_lines.mp hL with ⟨a,ha,rfl⟩ | ⟨b,hb,rfl⟩
   ·obtain ⟨b,hb,g⟩:=m1 a ha
    exact ⟨_,mem_line0.mpr ⟨b,hb,rfl⟩,put a b ha hb g⟩
   ·obtain ⟨a,ha,g⟩:=m2 b hb
    exact ⟨_,mem_line1.mpr ⟨a,ha,rfl⟩,put a b ha hb g⟩
  exact ⟨hs,hc,fun z hz=>key _ (by have:=card_xor hz (hs z hz).1;omega) fun w=>xor_sub hz,fun h=>key s h fun _ q=>q⟩
 ·rintro ⟨G,hG,h0⟩
  refine ⟨fun t=>Okp A B p t∧G (maskL B (lie t)),?_,okp_rep A B p,?_⟩
  ·rintro t ⟨ok,g⟩
   have i:=InS.mask (lie_ok ok)
   obtain ⟨al,cd,g1,g2⟩:=hG _ g
   refine ⟨(like_AL i).mpr al,fun k hk=>?_⟩
   have ok':=okp_none (i:=k) ok
   have i':=InS.mask (lie_ok ok')
   have cr:card (A.n*B.n) (maskL B (lie (t.set k none))) < p:=by
    have a:=card_mask (A.n*B.n) B (lie (t.set k none))
    have b:=lie_set_len hk
    have:=ok.1
    omega
   have an:AnsS A B p G (maskL B (lie (t.set k none))):=by
    cases e:t[k]? with
    | none=>rw [List.getElem?_eq_none_iff] at e;omega
    | some o =>
     have et:t.set k o=t:=by
      apply List.ext_getElem?
      intro j
      by_cases q:k=j
      ·subst q;rw [List.getElem?_set_self hk,e]
      ·rw [List.getElem?_set_ne q]
     cases o with
     | none=>rw [et] at cr ⊢;exact g2 cr
     | some y =>
      have my:y∈lie t:=mem_lie.mpr ⟨k,e⟩
      have bz:(maskL B (lie t)).testBit (two B y)=true:=(i.bit _).mpr ⟨y,my,rfl⟩
      have mm:∀ x,x∈lie t↔x=y∨x∈lie (t.set k none):=fun x=>by have:=mem_lie_set (t:=t) (y:=y) (x:=x) hk;rwa [et] at this
      cases q:(maskL B (lie (t.set k none))).testBit (two B y) with
      | true =>
       have es:maskL B (lie t)=maskL B (lie (t.set k none)):=i.uniq i' fun x=>(mm x).trans ⟨fun h=>h.elim (fun e=>?_) id,.inr⟩
       ·rw [←es] at cr ⊢;exact g2 cr
       ·obtain ⟨v,hv,e3⟩:=(i'.bit _).mp q
        rw [e,←two_inj (lie_ok ok' v hv) (lie_ok ok y my) e3];exact hv
      | false =>
       have es:maskL B (lie (t.set k none))=maskL B (lie t) ^^^ 2 ^ two B y:=by
        apply Nat.eq_of_testBit_eq
        intro w
        rw [xor_test]
        by_cases e3:two B y=w
        ·subst e3;rw [q,bz];simp
        ·simp only [e3,decide_false,Bool.bne_false]
         rw [Bool.eq_iff_iff,i.bit,i'.bit]
         exact ⟨fun ⟨v,hv,r⟩=>⟨v,(mm v).mpr (.inr hv),r⟩,fun ⟨v,hv,r⟩=>⟨v,((mm v).mp hv).resolve_left fun z=>e3 (by rw [←z];exact r),r⟩⟩
       rw [es]
       exact g1 _ bz
   have put:∀ a b,a < A.n→b < B.n→G (maskL B (lie (t.set k none)) ||| 2 ^ two B (a,b))→Okp A B p (t.set k (some (a,b)))∧G (maskL B (lie (t.set k (some (a,b))))):=fun a b ha hb g=>by
    have ok2:=okp_set (i:=k) ok ha hb
    refine ⟨ok2,?_⟩
    rw [(InS.mask (lie_ok ok2)).uniq (i'.cons (x:=(a,b)) ⟨ha,hb⟩) fun x=>(mem_lie_set hk).trans List.mem_cons.symm]
    exact g
   refine ⟨fun a ha=>?_,fun b hb=>?_⟩
   ·obtain ⟨z,hz,g⟩:=an.2 _ (mem_lines.mpr (.inl ⟨a,ha,rfl⟩))
    obtain ⟨b,hb,rfl⟩:=mem_line0.mp hz
    exact ⟨b,hb,put a b ha hb g⟩
   ·obtain ⟨z,hz,g⟩:=an.2 _ (mem_lines.mpr (.inr ⟨b,hb,rfl⟩))
    obtain ⟨a,ha,rfl⟩:=mem_line1.mp hz
    exact ⟨a,ha,put a b ha hb g⟩
  ·have:lie (List.replicate p none)=[]:=by
    apply List.eq_nil_iff_forall_not_mem.mpr
    intro x hx
    obtain ⟨j,hj⟩:=mem_lie.mp hx
    rw [List.getElem?_replicate] at hj
    split at hj <;> cases hj
   rw [this];exact h0
end Pg
end
section
namespace Pg
open Rc82
abbrev Vl :=Nat→Nat
def setv (v:Vl) (d x:Nat) : Vl:=fun l=>if l=d then x else v l
def idx (n:Nat) : Nat→Vl→Nat
 | 0,_=>0
 | d+1,v=>idx n d v+v d*n ^ d
def InV (n d:Nat) (v:Vl) : Prop:=∀ l,l < d→v l < n
structure Num (n d m:Nat) (φ:Vl→Bool) : Prop where
 lt:m < 2 ^ n ^ d
 bit:∀ v,InV n d v→m.testBit (idx n d v)=φ v
def Dep (d:Nat) (φ:Vl→Bool) : Prop:=∀ v v',(∀ l,l < d→v l=v' l)→φ v=φ v'
def Tab (n:Nat) : Nat→List Nat→(Vl→Bool)→Prop
 | 0,tab,φ=>∃ m,tab=[m]∧Num n 0 m φ
 | d+1,tab,φ=>tab.length=n∧∀ x m,tab[x]? = some m→Num n d m fun v=>φ (setv v d x)
theorem idx_lt {n:Nat}:∀ {d:Nat} {v:Vl},InV n d v→idx n d v < n ^ d
 | 0,v,_=>by simp [idx]
 | d+1,v,h=>by
  have h1:=idx_lt (d:=d) (v:=v) fun l hl=>h l (by omega)
  have h2:=h d (by omega)
  have h3:(v d+1)*n ^ d≤n*n ^ d:=Nat.mul_le_mul_right _ h2
  rw [Nat.succ_mul] at h3
  rw [idx,Nat.pow_succ,Nat.mul_comm (n ^ d)]
  omega
theorem idx_congr {n:Nat}:∀ {d:Nat} {v v':Vl},(∀ l,l < d→v l=v' l)→idx n d v=idx n d v'
 | 0,_,_,_=>rfl
 | d+1,v,v',h=>by rw [idx,idx,idx_congr (d:=d) fun l hl=>h l (by omega),h d (by omega)]
theorem idx_set {n d x:Nat} {v:Vl}:idx n d (setv v d x)=idx n d v:=idx_congr fun l hl=>by unfold setv;rw [if_neg (by omega)]
theorem inv_set' {n d x:Nat} {v:Vl} (h:InV n d v) (hx:x < n) : InV n (d+1) (setv v d x):=fun l hl=>by
 unfold setv
 split
 ·exact hx
 ·exact h l (by omega)
theorem setv_self (v:Vl) (d:Nat) : setv v d (v d)=v:=by
 funext l;unfold setv;split
 ·rename_i e;rw [e]
 ·rfl
theorem setv_at (v:Vl) (d x:Nat) : setv v d x d=x:=if_pos rfl
theorem setv_ne {v:Vl} {d x l:Nat} (h:l≠d) : setv v d x l=v l:=if_neg h
theorem ones_bit (k i:Nat) : (2 ^ k - 1).testBit i=decide (i < k):=Nat.testBit_two_pow_sub_one k i
theorem shl_bit (m k i:Nat) : (m*2 ^ k).testBit i=(decide (k≤i) && m.testBit (i - k)):=by
 rw [←Nat.shiftLeft_eq,Nat.testBit_shiftLeft]
theorem big_bit {m k i:Nat} (h:m < 2 ^ k) (hi:k≤i) : m.testBit i=false:=Nat.testBit_lt_two_pow (Nat.lt_of_lt_of_le h (Nat.pow_le_pow_right (by decide) hi))
theorem lt_of_bits {m k:Nat} (h:∀ i,k≤i→m.testBit i=false) : m < 2 ^ k:=Nat.lt_pow_two_of_testBit m h
def orShift (w:Nat) : Nat→List Nat→Nat→Nat
 | _,[],m=>m
 | x,a :: r,m=>orShift w (x+1) r (m ||| a*2 ^ (x*w))
theorem blocks {w i j x y:Nat} (hi:i < w) (hj:j < w) : (x*w≤y*w+j∧y*w+j - x*w < w)↔x=y:=by
 constructor
 ·rintro ⟨h1,h2⟩
  have a:x≤y:=by
   rcases Nat.lt_or_ge y x with q | q
   ·have:=Nat.mul_le_mul_right w (Nat.succ_le_of_lt q)
    rw [Nat.succ_mul] at this;omega
   ·exact q
  have b:y≤x:=by
   rcases Nat.lt_or_ge x y with q | q
   ·have:=Nat.mul_le_mul_right w (Nat.succ_le_of_lt q)
    rw [Nat.succ_mul] at this;omega
   ·exact q
  omega
 ·rintro rfl;omega
theorem orShift_bit {w:Nat}:∀ (r:List Nat) (x m:Nat),(∀ a∈r,a < 2 ^ w)→∀ y j,j < w→(orShift w x r m).testBit (y*w+j)=(m.testBit (y*w+j) || (decide (x≤y) && (r.getD (y - x) 0).testBit j))
 | [],x,m,_,y,j,_=>by simp [orShift]
 | a :: r,x,m,h,y,j,hj=>by
  rw [orShift,orShift_bit r (x+1) _ (fun b hb=>h b (List.mem_cons_of_mem _ hb)) y j hj,Nat.testBit_or,shl_bit]
  have ha:=h a List.mem_cons_self
  by_cases e:x=y
  ·subst e
   have e1:x*w+j - x*w=j:=by omega
   have e2:¬ (x+1≤x):=by omega
   have e3:x*w≤x*w+j:=by omega
   simp [e1,e2,e3]
  ·have q:(decide (x*w≤y*w+j) && a.testBit (y*w+j - x*w))=false:=by
    by_cases l:x*w≤y*w+j
    ·have:¬ (y*w+j - x*w < w):=fun z=>e ((blocks hj hj).mp ⟨l,z⟩)
     rw [big_bit ha (by omega)];simp
    ·simp [l]
   rw [q,Bool.or_false]
   by_cases l:x+1≤y
   ·have l2:x≤y:=by omega
    have e5:(a :: r).getD (y - x) 0=r.getD (y - (x+1)) 0:=by
     rw [show y - x=(y - (x+1))+1 by omega];rfl
    rw [e5];simp [l,l2]
   ·have l2:¬ x≤y:=by omega
    simp [l,l2]
theorem orShift_lt {w:Nat}:∀ (r:List Nat) (x m n:Nat),(∀ a∈r,a < 2 ^ w)→x+r.length≤n→m < 2 ^ (n*w)→orShift w x r m < 2 ^ (n*w)
 | [],x,m,n,_,_,hm=>hm
 | a :: r,x,m,n,h,hl,hm=>by
  rw [orShift]
  refine orShift_lt r (x+1) _ n (fun b hb=>h b (List.mem_cons_of_mem _ hb)) (by simp at hl;omega) (Nat.or_lt_two_pow hm ?_)
  have ha:=h a List.mem_cons_self
  have h1:a*2 ^ (x*w) < 2 ^ w*2 ^ (x*w):=Nat.mul_lt_mul_of_pos_right ha (Nat.two_pow_pos _)
  rw [←Nat.pow_add] at h1
  refine Nat.lt_of_lt_of_le h1 (Nat.pow_le_pow_right (by decide) ?_)
  have:=Nat.mul_le_mul_right w (show x+1≤n by simp at hl;omega)
  rw [Nat.succ_mul] at this;omega
def joinedN (n d:Nat) (tab:List Nat) : Nat:=orShift (n ^ d) 0 tab 0
theorem Tab.joined {n d:Nat} {tab:List Nat} {φ:Vl→Bool} (h:Tab n (d+1) tab φ) : Num n (d+1) (joinedN n d tab) φ:=by
 have hb:∀ a∈tab,a < 2 ^ n ^ d:=fun a ha=>by
  obtain ⟨i,hi⟩:=List.mem_iff_getElem?.mp ha
  exact (h.2 i a hi).lt
 constructor
 ·rw [Nat.pow_succ,Nat.mul_comm (n ^ d)]
  exact orShift_lt tab 0 0 n hb (by rw [h.1];omega) (Nat.two_pow_pos _)
 ·intro v hv
  have h1:=idx_lt (d:=d) (v:=v) fun l hl=>hv l (by omega)
  have h2:=hv d (by omega)
  rw [idx,Nat.add_comm,joinedN,orShift_bit tab 0 0 hb (v d) _ h1]
  obtain ⟨m,hm⟩ : ∃ m,tab[v d]? = some m:=⟨_,List.getElem?_eq_getElem (by rw [h.1];exact h2)⟩
  have:=(h.2 _ m hm).bit v fun l hl=>hv l (by omega)
  rw [setv_self] at this
  simp [List.getD,hm,this]
def partedN (n:Nat) : Nat→Nat→List Nat
 | 0,m=>[m]
 | d+1,m=>(List.range n).map fun x=>(m / 2 ^ (x*n ^ d)) &&& (2 ^ n ^ d - 1)
theorem Num.parted {n m:Nat} {φ:Vl→Bool}:∀ {d:Nat},Num n d m φ→Tab n d (partedN n d m) φ
 | 0,h=>⟨m,rfl,h⟩
 | d+1,h=>by
  refine ⟨by simp [partedN],fun x a ha=>?_⟩
  have hx:x < n:=by have:=(List.getElem?_eq_some_iff.mp ha).1;simpa [partedN] using this
  simp only [partedN,List.getElem?_map,List.getElem?_range hx,Option.map_some,Option.some.injEq] at ha
  subst ha
  constructor
  ·refine lt_of_bits fun i hi=>?_
   rw [Nat.testBit_and,ones_bit,decide_eq_false (by omega),Bool.and_false]
  ·intro v hv
   have h1:=idx_lt hv
   rw [Nat.testBit_and,ones_bit,decide_eq_true h1,Bool.and_true,Nat.testBit_div_two_pow]
   have:=h.bit _ (inv_set' hv hx)
   rw [idx,idx_set,setv_at] at this
   rw [←this,Nat.add_comm]
theorem Num.congr {n d m:Nat} {φ ψ:Vl→Bool} (h:Num n d m φ) (e:∀ v,InV n d v→φ v=ψ v) : Num n d m ψ:=⟨h.lt,fun v hv=>by rw [h.bit v hv,e v hv]⟩
theorem Tab.congr {n:Nat} {tab:List Nat} {φ ψ:Vl→Bool}:∀ {d:Nat},Tab n d tab φ→(∀ v,InV n d v→φ v=ψ v)→Tab n d tab ψ
 | 0,⟨m,a,b⟩,e=>⟨m,a,b.congr e⟩
 | d+1,h,e=>⟨h.1,fun x m hm=>(h.2 x m hm).congr fun v hv=>e _ (inv_set' hv (by rw [←h.1];exact (List.getElem?_eq_some_iff.mp hm).1))⟩
theorem Tab.map {n:Nat} {tab:List Nat} {φ ψ:Vl→Bool} {g:Nat→Nat}:∀ {d:Nat},Tab n d tab φ→(∀ m φ ψ,Num n (d - 1) m φ→(∀ v,ψ v = !φ v)→Num n (d - 1) (g m) ψ)→(∀ v,ψ v = !φ v)→Tab n d (tab.map g) ψ
 | 0,⟨m,a,b⟩,h,e=>⟨g m,by rw [a];rfl,h m φ ψ b e⟩
 | d+1,t,h,e=>⟨by rw [List.length_map];exact t.1,fun x m hm=>by
   rw [List.getElem?_map] at hm
   cases q:tab[x]? with
   | none=>rw [q] at hm;cases hm
   | some a=>rw [q] at hm;cases hm;exact h a _ _ (t.2 x a q) fun v=>e _⟩
theorem Num.opp {n d m:Nat} {φ ψ:Vl→Bool} (h:Num n d m φ) (e:∀ v,ψ v = !φ v) : Num n d ((2 ^ n ^ d - 1) ^^^ m) ψ:=by
 constructor
 ·refine Nat.xor_lt_two_pow ?_ h.lt
  have:=Nat.two_pow_pos (n ^ d)
  omega
 ·intro v hv
  rw [Nat.testBit_xor,ones_bit,decide_eq_true (idx_lt hv),h.bit v hv,e]
  cases φ v <;> rfl
theorem Tab.opp {n d:Nat} {tab:List Nat} {φ ψ:Vl→Bool} (h:Tab n d tab φ) (e:∀ v,ψ v = !φ v) : Tab n d (tab.map ((2 ^ n ^ (d - 1) - 1) ^^^ ·)) ψ :=
 h.map (fun m _ _ q e=>q.opp e) e
theorem Num.and {n d a b:Nat} {φ ψ:Vl→Bool} (h:Num n d a φ) (h':Num n d b ψ) : Num n d (a &&& b) fun v=>φ v && ψ v :=
 ⟨Nat.lt_of_le_of_lt Nat.and_le_left h.lt,fun v hv=>by rw [Nat.testBit_and,h.bit v hv,h'.bit v hv]⟩
theorem Num.or {n d a b:Nat} {φ ψ:Vl→Bool} (h:Num n d a φ) (h':Num n d b ψ) : Num n d (a ||| b) fun v=>φ v || ψ v :=
 ⟨Nat.or_lt_two_pow h.lt h'.lt,fun v hv=>by rw [Nat.testBit_or,h.bit v hv,h'.bit v hv]⟩
theorem Tab.zip {n:Nat} {s t:List Nat} {φ ψ:Vl→Bool} {g:Nat→Nat→Nat} {k:Bool→Bool→Bool} (hg:∀ d a b φ ψ,Num n d a φ→Num n d b ψ→Num n d (g a b) fun v=>k (φ v) (ψ v)) : ∀ {d:Nat},Tab n d s φ→Tab n d t ψ→Tab n d (List.zipWith g s t) fun v=>k (φ v) (ψ v)
 | 0,⟨a,e,h⟩,⟨b,e',h'⟩=>⟨g a b,by rw [e,e'];rfl,hg _ _ _ _ _ h h'⟩
 | d+1,h,h'=>⟨by rw [List.length_zipWith,h.1,h'.1];simp,fun x m hm=>by
   rw [List.getElem?_zipWith] at hm
   cases q:s[x]? with
   | none=>rw [q] at hm;cases hm
   | some a=>cases q':t[x]? with
    | none=>rw [q,q'] at hm;cases hm
    | some b=>rw [q,q'] at hm;cases hm;exact hg _ _ _ _ _ (h.2 x a q) (h'.2 x b q')⟩
theorem Tab.len {n d:Nat} {s t:List Nat} {φ ψ:Vl→Bool} (h:Tab n d s φ) (h':Tab n d t ψ) : s.length=t.length:=by
 cases d with
 | zero=>obtain ⟨a,rfl,_⟩:=h;obtain ⟨b,rfl,_⟩:=h';rfl
 | succ d=>rw [h.1,h'.1]
theorem Num.ones (n d:Nat) : Num n d (2 ^ n ^ d - 1) fun _=>true :=
 ⟨by have:=Nat.two_pow_pos (n ^ d);omega,fun v hv=>by rw [ones_bit,decide_eq_true (idx_lt hv)]⟩
theorem Num.zero (n d:Nat) : Num n d 0 fun _=>false:=⟨Nat.two_pow_pos _,fun v _=>by rw [Nat.zero_testBit]⟩
theorem fold_and {n d:Nat} {φ:Nat→Vl→Bool}:∀ (l:List Nat) (x m:Nat) (ψ:Vl→Bool),Num n d m ψ→(∀ i a,l[i]? = some a→Num n d a (φ (x+i)))→Num n d (l.foldl (· &&& ·) m) fun v=>ψ v && (List.range' x l.length).all fun y=>φ y v
 | [],x,m,ψ,h,_=>by simpa using h
 | a :: l,x,m,ψ,h,hl=>by
  have:=fold_and l (x+1) (m &&& a) _ (h.and (hl 0 a rfl)) fun i b hb=>by rw [show x+1+i=x+(i+1) by omega];exact hl (i+1) b hb
  refine this.congr fun v _=>?_
  simp [List.range'_succ,Bool.and_assoc]
theorem fold_or {n d:Nat} {φ:Nat→Vl→Bool}:∀ (l:List Nat) (x m:Nat) (ψ:Vl→Bool),Num n d m ψ→(∀ i a,l[i]? = some a→Num n d a (φ (x+i)))→Num n d (l.foldl (· ||| ·) m) fun v=>ψ v || (List.range' x l.length).any fun y=>φ y v
 | [],x,m,ψ,h,_=>by simpa using h
 | a :: l,x,m,ψ,h,hl=>by
  have:=fold_or l (x+1) (m ||| a) _ (h.or (hl 0 a rfl)) fun i b hb=>by rw [show x+1+i=x+(i+1) by omega];exact hl (i+1) b hb
  refine this.congr fun v _=>?_
  simp [List.range'_succ,Bool.or_assoc]
theorem Tab.all {n d:Nat} {tab:List Nat} {φ:Vl→Bool} (h:Tab n (d+1) tab φ) : Num n d (tab.foldl (· &&& ·) (2 ^ n ^ d - 1)) fun v=>(List.range n).all fun x=>φ (setv v d x):=by
 have:=fold_and (φ:=fun x v=>φ (setv v d x)) tab 0 _ _ (Num.ones n d) fun i a ha=>by rw [Nat.zero_add];exact h.2 i a ha
 rw [h.1] at this
 refine this.congr fun v _=>?_
 rw [List.range_eq_range'];simp
theorem Tab.any {n d:Nat} {tab:List Nat} {φ:Vl→Bool} (h:Tab n (d+1) tab φ) : Num n d (tab.foldl (· ||| ·) 0) fun v=>(List.range n).any fun x=>φ (setv v d x):=by
 have:=fold_or (φ:=fun x v=>φ (setv v d x)) tab 0 _ _ (Num.zero n d) fun i a ha=>by rw [Nat.zero_add];exact h.2 i a ha
 rw [h.1] at this
 refine this.congr fun v _=>?_
 rw [List.range_eq_range'];simp
theorem Num.rep {n d m:Nat} {φ:Vl→Bool} (h:Num n d m φ) (dep:Dep d φ) : Tab n (d+1) (List.replicate n m) φ :=
 ⟨List.length_replicate,fun x a ha=>by
  obtain ⟨rfl,hx⟩:=get_rep ha
  exact h.congr fun v _=>dep _ _ fun l hl=>by rw [setv_ne (by omega)]⟩
def waysN (n d:Nat) : List Nat→Nat→Nat
 | [],m=>m
 | x :: r,m=>waysN n d r (m ||| (2 ^ n ^ d - 1)*2 ^ (x*n ^ d))
theorem waysN_num {n d:Nat}:∀ (l:List Nat) (m:Nat) (ψ:Vl→Bool),(∀ x∈l,x < n)→Num n (d+1) m ψ→Num n (d+1) (waysN n d l m) fun v=>ψ v || l.contains (v d)
 | [],m,ψ,_,h=>by simpa [waysN] using h
 | x :: l,m,ψ,hl,h=>by
  have hx:=hl x List.mem_cons_self
  have h0:=Nat.two_pow_pos (n ^ d)
  have:Num n (d+1) ((2 ^ n ^ d - 1)*2 ^ (x*n ^ d)) fun v=>v d == x:=by
   constructor
   ·have h1:(2 ^ n ^ d - 1)*2 ^ (x*n ^ d) < 2 ^ n ^ d*2 ^ (x*n ^ d):=Nat.mul_lt_mul_of_pos_right (by omega) (Nat.two_pow_pos _)
    rw [←Nat.pow_add] at h1
    refine Nat.lt_of_lt_of_le h1 (Nat.pow_le_pow_right (by decide) ?_)
    have:=Nat.mul_le_mul_right (n ^ d) (Nat.succ_le_of_lt hx)
    rw [Nat.succ_mul] at this
    rw [Nat.pow_succ,Nat.mul_comm (n ^ d) n];omega
   ·intro v hv
    have h1:=idx_lt (d:=d) (v:=v) fun l hl=>hv l (by omega)
    rw [shl_bit,ones_bit,idx,Nat.add_comm,Bool.eq_iff_iff]
    simp only [Bool.and_eq_true,decide_eq_true_eq,beq_iff_eq]
    rw [blocks h1 h1]
    exact eq_comm
  refine (waysN_num l _ _ (fun y hy=>hl y (List.mem_cons_of_mem _ hy)) (h.or this)).congr fun v _=>?_
  rw [List.contains_cons,Bool.or_assoc]
noncomputable def relT (S:Struct) (c x y:Nat) : Bool:=if c=69 then arc S x y else if c=61 then x == y else if c=80 then S.p.testBit x else S.q.testBit x
abbrev Sem :=Nat × (Vl→Bool)
inductive AStep (S:Struct) : StepP→List Sem→List Sem→Prop
 | atom1 {c D i:Nat} {stk:List Sem}:c=80∨c=81→i < D→D≤4→AStep S (c,D,[i]) stk (stk ++ [(D,fun v=>relT S c (v i) (v i))])
 | atom2 {c D i j:Nat} {stk:List Sem}:c=69∨c=61→i < D→j < D→D≤4→AStep S (c,D,[i,j]) stk (stk ++ [(D,fun v=>relT S c (v i) (v j))])
 | not {D:Nat} {φ:Vl→Bool} {stk:List Sem}:D≤4→AStep S (33,D,[]) (stk ++ [(D,φ)]) (stk ++ [(D,fun v=>!φ v)])
 | both {D:Nat} {φ ψ:Vl→Bool} {stk:List Sem}:D≤4→AStep S (38,D,[]) (stk ++ [(D,φ),(D,ψ)]) (stk ++ [(D,fun v=>φ v && ψ v)])
 | either {D:Nat} {φ ψ:Vl→Bool} {stk:List Sem}:D≤4→AStep S (124,D,[]) (stk ++ [(D,φ),(D,ψ)]) (stk ++ [(D,fun v=>φ v || ψ v)])
 | all {D:Nat} {φ:Vl→Bool} {stk:List Sem}:D < 4→AStep S (65,D+1,[]) (stk ++ [(D+1,φ)]) (stk ++ [(D,fun v=>(List.range S.n).all fun x=>φ (setv v D x))])
 | some {D:Nat} {φ:Vl→Bool} {stk:List Sem}:D < 4→AStep S (83,D+1,[]) (stk ++ [(D+1,φ)]) (stk ++ [(D,fun v=>(List.range S.n).any fun x=>φ (setv v D x))])
inductive AEval (S:Struct) : List StepP→List Sem→List Sem→Prop
 | nil {stk:List Sem}:AEval S [] stk stk
 | cons {p:StepP} {r:List StepP} {a b c:List Sem}:AStep S p a b→AEval S r b c→AEval S (p :: r) a c
theorem AEval.app {S:Struct} {r:List StepP} {b c:List Sem} (h2:AEval S r b c) : ∀ {l:List StepP} {a:List Sem},AEval S l a b→AEval S (l ++ r) a c
 | _,_,.nil=>h2
 | _,_,.cons p q=>.cons p (AEval.app h2 q)
theorem AEval.one {S:Struct} {p:StepP} {a b:List Sem} (h:AStep S p a b) : AEval S [p] a b:=.cons h .nil
def envOf (sc:List Nat) (v:Vl) : Env:=fun x=>v (lvl sc (117+x))
theorem sat_put {S:Struct} {f:Form} {sc:List Nat} {x a:Nat} {v:Vl} (hs:NamesOk sc) (hc:closed (x :: sub sc) f=true) : sat S f (Env.put (envOf sc v) x a)=sat S f (envOf ((117+x) :: sc) (setv v sc.length a)):=by
 refine sat_congr S f _ _ _ hc fun y hy=>?_
 unfold Env.put envOf
 by_cases e:y=x
 ·subst e
  rw [if_pos rfl,lvl,if_pos rfl,setv_at]
 ·rw [if_neg e,lvl,if_neg (by omega),setv_ne]
  have hy':=(List.mem_cons.mp hy).resolve_left e
  have:=lvl_lt (of_mem_sub hs (x:=y) (by rw [List.contains_iff_mem];exact hy'))
  omega
theorem eval_post {S:Struct}:∀ (f:Form) (sc:List Nat) (stk:List Sem),NamesOk sc→named 6 f=true→closed (sub sc) f=true→rank f+sc.length≤4→AEval S (post sc f) stk (stk ++ [(sc.length,fun v=>sat S f (envOf sc v))]):=by
 intro f
 induction f with
 | arc x y =>
  intro sc stk hs hn hc hr
  simp only [closed,Bool.and_eq_true] at hc
  simp only [rank,Nat.zero_add] at hr
  exact .one (.atom2 (.inl rfl) (lvl_lt (of_mem_sub hs hc.1)) (lvl_lt (of_mem_sub hs hc.2)) hr)
 | same x y =>
  intro sc stk hs hn hc hr
  simp only [closed,Bool.and_eq_true] at hc
  simp only [rank,Nat.zero_add] at hr
  exact .one (.atom2 (.inr rfl) (lvl_lt (of_mem_sub hs hc.1)) (lvl_lt (of_mem_sub hs hc.2)) hr)
 | first x =>
  intro sc stk hs hn hc hr
  simp only [rank,Nat.zero_add] at hr
  exact .one (.atom1 (.inl rfl) (lvl_lt (of_mem_sub hs hc)) hr)
 | second x =>
  intro sc stk hs hn hc hr
  simp only [rank,Nat.zero_add] at hr
  exact .one (.atom1 (.inr rfl) (lvl_lt (of_mem_sub hs hc)) hr)
 | not_ f ih =>
  intro sc stk hs hn hc hr
  exact (AEval.one (.not (by simp only [rank] at hr;omega))).app (ih sc stk hs hn hc hr)
 | both f g ihf ihg =>
  intro sc stk hs hn hc hr
  simp only [named,closed,Bool.and_eq_true,rank] at hn hc hr
  refine AEval.app (AEval.app (AEval.one ?_) (ihg sc _ hs hn.2 hc.2 (by omega))) (ihf sc stk hs hn.1 hc.1 (by omega))
  rw [List.append_assoc]
  exact .both (by omega)
 | either f g ihf ihg =>
  intro sc stk hs hn hc hr
  simp only [named,closed,Bool.and_eq_true,rank] at hn hc hr
  refine AEval.app (AEval.app (AEval.one ?_) (ihg sc _ hs hn.2 hc.2 (by omega))) (ihf sc stk hs hn.1 hc.1 (by omega))
  rw [List.append_assoc]
  exact .either (by omega)
 | all_ x f ih =>
  intro sc stk hs hn hc hr
  simp only [named,closed,Bool.and_eq_true,decide_eq_true_eq,rank] at hn hc hr
  have hc':closed (sub ((117+x) :: sc)) f=true:=by simpa [sub,sub117] using hc
  refine AEval.app (AEval.one ?_) (ih ((117+x) :: sc) stk (hs.cons (isName_of hn.1)) hn.2 hc' (by simp;omega))
  have:=AStep.all (S:=S) (D:=sc.length) (φ:=fun v=>sat S f (envOf ((117+x) :: sc) v)) (stk:=stk) (by omega)
  simpa only [sat,points,sat_put hs hc,List.length_cons] using this
 | some_ x f ih =>
  intro sc stk hs hn hc hr
  simp only [named,closed,Bool.and_eq_true,decide_eq_true_eq,rank] at hn hc hr
  have hc':closed (sub ((117+x) :: sc)) f=true:=by simpa [sub,sub117] using hc
  refine AEval.app (AEval.one ?_) (ih ((117+x) :: sc) stk (hs.cons (isName_of hn.1)) hn.2 hc' (by simp;omega))
  have:=AStep.some (S:=S) (D:=sc.length) (φ:=fun v=>sat S f (envOf ((117+x) :: sc) v)) (stk:=stk) (by omega)
  simpa only [sat,points,sat_put hs hc,List.length_cons] using this
theorem eval_sen {S:Struct} {t:Text} {f:Form} (h:sentence t=some f) : ∃ φ:Vl→Bool,AEval S (post [] f) [] [(0,φ)]∧∀ v,φ v=holds S f:=by
 obtain ⟨rfl,a,b,c⟩:=sentence_iff.mp h
 refine ⟨_,eval_post f [] [] (fun _ h=>nomatch h) a b (by simpa using c),fun v=>?_⟩
 exact sat_congr S f [] _ _ b fun _ h=>nomatch h
theorem tab_zero {n:Nat} {tab:List Nat} {φ:Vl→Bool} (h:Tab n 0 tab φ) (v:Vl) : tab=[if φ v=true then 1 else 0]:=by
 obtain ⟨m,rfl,h⟩:=h
 have h1:=h.lt
 have h2:=h.bit v fun l hl=>by omega
 rw [idx,Nat.testBit_zero] at h2
 have h3:m < 2:=by simpa using h1
 rw [←h2]
 have:m=0∨m=1:=by omega
 rcases this with rfl | rfl <;> rfl
end Pg
end
section
namespace Pg
open PySem PyProof.Rows
theorem band (a b:Nat) : Builtin.bitAnd (a:Int) (b:Int)=((a &&& b:Nat) : Int):=by
 rw [bitAnd_pp (by omega) (by omega)];simp
theorem and_or_add (a b:Nat) : (a ||| b)+(a &&& b)=a+b:=by
 induction a using Nat.strongRecOn generalizing b with
 | _ a ih =>
  by_cases h:a=0
  ·subst h;simp
  ·have:=ih (a / 2) (by omega) (b / 2)
   have e1:(a ||| b) / 2=a / 2 ||| b / 2:=Nat.or_div_two
   have e2:(a &&& b) / 2=a / 2 &&& b / 2:=Nat.and_div_two
   have m1:(a ||| b) % 2=(a % 2 ||| b % 2):=by
    have:=Nat.or_mod_two_pow (a:=a) (b:=b) (n:=1);simpa using this
   have m2:(a &&& b) % 2=(a % 2 &&& b % 2):=by
    have:=Nat.and_mod_two_pow (a:=a) (b:=b) (n:=1);simpa using this
   have c1:a % 2=0∨a % 2=1:=by omega
   have c2:b % 2=0∨b % 2=1:=by omega
   rcases c1 with c1 | c1 <;> rcases c2 with c2 | c2 <;> (rw [c1,c2] at m1 m2;simp only [Nat.reduceOr,Nat.reduceAnd] at m1 m2;omega)
theorem xor_and_or (a b:Nat) : (a ^^^ b)+(a &&& b)=a ||| b:=by
 induction a using Nat.strongRecOn generalizing b with
 | _ a ih =>
  by_cases h:a=0
  ·subst h;simp
  ·have:=ih (a / 2) (by omega) (b / 2)
   have e1:(a ||| b) / 2=a / 2 ||| b / 2:=Nat.or_div_two
   have e2:(a &&& b) / 2=a / 2 &&& b / 2:=Nat.and_div_two
   have e3:(a ^^^ b) / 2=a / 2 ^^^ b / 2:=Nat.xor_div_two
   have m1:(a ||| b) % 2=(a % 2 ||| b % 2):=by
    have:=Nat.or_mod_two_pow (a:=a) (b:=b) (n:=1);simpa using this
   have m2:(a &&& b) % 2=(a % 2 &&& b % 2):=by
    have:=Nat.and_mod_two_pow (a:=a) (b:=b) (n:=1);simpa using this
   have m3:(a ^^^ b) % 2=(a % 2 ^^^ b % 2):=by
    have:=Nat.xor_mod_two_pow (a:=a) (b:=b) (n:=1);simpa using this
   have c1:a % 2=0∨a % 2=1:=by omega
   have c2:b % 2=0∨b % 2=1:=by omega
   rcases c1 with c1 | c1 <;> rcases c2 with c2 | c2 <;> (rw [c1,c2] at m1 m2 m3;simp only [Nat.reduceOr,Nat.reduceAnd,Nat.reduceXor] at m1 m2 m3;omega)
theorem bor (a b:Nat) : Builtin.bitOr (a:Int) (b:Int)=((a ||| b:Nat) : Int):=by
 have:=and_or_add a b
 rw [bitOr_and,band];omega
theorem bxor (a b:Nat) : Builtin.bitXor (a:Int) (b:Int)=((a ^^^ b:Nat) : Int):=by
 have h1:=and_or_add a b
 have h2:=xor_and_or a b
 rw [bitXor_and,band];omega
theorem shl1 (z:Nat) : (1:Int)*2 ^ ((z:Int)).toNat=((2 ^ z:Nat) : Int):=by simp
theorem shlN (a z:Nat) : (a:Int)*2 ^ ((z:Int)).toNat=((a*2 ^ z:Nat) : Int):=by simp
theorem shrN (a z:Nat) : (a:Int) / 2 ^ ((z:Int)).toNat=((a / 2 ^ z:Nat) : Int):=by simp
theorem bit_odd (m z:Nat) : decide (((m / 2 ^ z:Nat) : Int) % 2=1)=m.testBit z:=by
 rw [Nat.testBit_eq_decide_div_mod_eq]
 congr 1
 rw [eq_iff_iff];omega
def bitsOf (N:Nat) (p:Nat→Bool) : Nat:=(((List.range N).filter p).map (2 ^ ·)).sum
theorem bitsOf_succ (N:Nat) (p:Nat→Bool) : bitsOf (N+1) p=bitsOf N p+if p N=true then 2 ^ N else 0:=by
 unfold bitsOf
 rw [List.range_succ,List.filter_append,List.map_append,List.sum_append]
 by_cases h:p N=true <;> simp [h]
theorem bitsOf_lt (p:Nat→Bool) : ∀ N,bitsOf N p < 2 ^ N
 | 0=>by simp [bitsOf]
 | N+1=>by
  have:=bitsOf_lt p N
  rw [bitsOf_succ,Nat.pow_succ]
  split <;> omega
theorem bitsOf_bit (p:Nat→Bool) : ∀ N w,(bitsOf N p).testBit w=(decide (w < N) && p w)
 | 0,w=>by simp [bitsOf]
 | N+1,w=>by
  have ih:=bitsOf_bit p N w
  have hl:=bitsOf_lt p N
  rw [bitsOf_succ]
  by_cases hp:p N=true
  ·rw [if_pos hp]
   have e:bitsOf N p+2 ^ N=bitsOf N p ||| 2 ^ N:=by
    have:=and_or_add (bitsOf N p) (2 ^ N)
    have z:bitsOf N p &&& 2 ^ N=0:=by
     apply Nat.eq_of_testBit_eq
     intro i
     rw [Nat.testBit_and,Nat.testBit_two_pow,Nat.zero_testBit]
     by_cases q:N=i
     ·subst q;rw [Nat.testBit_lt_two_pow hl];rfl
     ·simp [q]
    omega
   rw [e,Nat.testBit_or,ih,Nat.testBit_two_pow]
   by_cases q:N=w
   ·subst q;simp [hp]
   ·simp only [q,decide_false,Bool.or_false]
    congr 1
    rw [decide_eq_decide];omega
  ·rw [if_neg hp,Nat.add_zero,ih]
   by_cases q:N=w
   ·subst q;simp [hp]
   ·congr 1
    rw [decide_eq_decide];omega
theorem bitsOf_sum (N:Nat) (p:Nat→Bool) : ((((List.range N).filter p).map fun (w:Nat)=>((2 ^ w:Nat) : Int)).sum)=((bitsOf N p:Nat) : Int):=by
 unfold bitsOf
 generalize (List.range N).filter p=l
 induction l with
 | nil=>rfl
 | cons a l ih=>rw [List.map_cons,List.sum_cons,ih,List.map_cons,List.sum_cons];simp
theorem nd_len {α:Type} {f:α→Nat}:∀ (M:Nat) (l:List α),l.Nodup→(∀ a∈l,∀ b∈l,f a=f b→a=b)→(∀ a∈l,f a < M)→l.length≤M
 | 0,l,_,_,lt=>by
  cases l with
  | nil=>simp
  | cons a l=>have:=lt a List.mem_cons_self;omega
 | M+1,l,nd,inj,lt=>by
  have h1:=nd_len M (l.filter fun a=>decide (f a≠M)) (nd.filter _) (fun a ha b hb=>inj a (List.mem_filter.mp ha).1 b (List.mem_filter.mp hb).1) fun a ha=>by
   have:=lt a (List.mem_filter.mp ha).1
   have:=(List.mem_filter.mp ha).2
   simp at this;omega
  have h2:(l.filter fun a=>decide (f a=M)).length≤1:=by
   generalize hm:(l.filter fun a=>decide (f a=M))=m
   have nd':m.Nodup:=by rw [←hm];exact nd.filter _
   have im:∀ a∈m,a∈l∧f a=M:=fun a ha=>by rw [←hm] at ha;have:=List.mem_filter.mp ha;simpa using this
   match m,nd',im with
   | [],_,_=>simp
   | [a],_,_=>simp
   | a :: b :: r,nd',im =>
    have ha:=im a List.mem_cons_self
    have hb:=im b (List.mem_cons_of_mem _ List.mem_cons_self)
    have:=inj a ha.1 b hb.1 (by rw [ha.2,hb.2])
    subst this
    simp at nd'
  have h3:l.length=(l.filter fun a=>decide (f a=M)).length+(l.filter fun a=>decide (f a≠M)).length:=by
   rw [←List.countP_eq_length_filter,←List.countP_eq_length_filter,List.length_eq_countP_add_countP (fun a=>decide (f a=M))]
   simp
  omega
end Pg
end
section
section
set_option Elab.async false
namespace L2
open PySem PySem.Spec PyProof.Rows
abbrev Key :=Sum Int Str
def keyIs :Key→Value→Bool
 | .inl k,v=>Value.isInt k v
 | .inr x,v=>Value.isStrOf x v
def keyH (w:World) : Key→Int
 | .inl k=>hashInt k
 | .inr x=>hashStr w x
theorem keyIs_shape :∀ {k:Key} {v:Value},keyIs k v=true→(∃ i t,k=Sum.inl i∧v=Value.int i t)∨(∃ x t,k=Sum.inr x∧v=Value.str x t)
 | .inl i,v,h=>by
  obtain ⟨t,e⟩:=Value.isInt_shape (k:=i) (v:=v) h
  exact .inl ⟨i,t,rfl,e⟩
 | .inr x,v,h=>by
  obtain ⟨t,e⟩:=Value.isStrOf_shape (x:=x) (v:=v) h
  exact .inr ⟨x,t,rfl,e⟩
theorem keyIs_int (i:Int) (t:Tok) : keyIs (.inl i) (.int i t)=true:=by simp [keyIs,Value.isInt]
theorem keyIs_str (x:Str) (t:Tok) : keyIs (.inr x) (.str x t)=true:=by simp [keyIs,Value.isStrOf]
theorem key_ll (a b:Int) : decide ((Sum.inl a:Key)=Sum.inl b)=(a == b):=by
 by_cases e:a=b
 ·subst e;simp
 ·have h:¬ (Sum.inl a:Key)=Sum.inl b:=fun q=>e (Sum.inl.inj q)
  rw [decide_eq_false h]
  exact (beq_eq_false_iff_ne.mpr e).symm
theorem key_rr (a b:Str) : decide ((Sum.inr a:Key)=Sum.inr b)=decide (a=b):=by
 by_cases e:a=b
 ·subst e;simp
 ·have h:¬ (Sum.inr a:Key)=Sum.inr b:=fun q=>e (Sum.inr.inj q)
  rw [decide_eq_false h,decide_eq_false e]
theorem key_lr (a:Int) (b:Str) : decide ((Sum.inl a:Key)=Sum.inr b)=false:=decide_eq_false (fun q=>nomatch q)
theorem key_rl (a:Str) (b:Int) : decide ((Sum.inr a:Key)=Sum.inl b)=false:=decide_eq_false (fun q=>nomatch q)
def mixKind (prog:Program) (w:World) : PySem.KeyKind prog w Key where
 is:=keyIs
 hash:=keyH w
 inj:=fun v a b ha hb=>by
  rcases keyIs_shape ha with ⟨i,t,rfl,rfl⟩ | ⟨x,t,rfl,rfl⟩
  ·rcases keyIs_shape hb with ⟨j,u,rfl,e⟩ | ⟨y,u,rfl,e⟩
   ·injection e with e1 _;rw [e1]
   ·exact nomatch e
  ·rcases keyIs_shape hb with ⟨j,u,rfl,e⟩ | ⟨y,u,rfl,e⟩
   ·exact nomatch e
   ·injection e with e1 _;rw [e1]
 byValue:=fun k v h=>by
  rcases keyIs_shape h with ⟨i,t,rfl,rfl⟩ | ⟨x,t,rfl,rfl⟩ <;> rfl
 pyHash:=fun hv h=>by
  rcases keyIs_shape hv with ⟨i,t,rfl,rfl⟩ | ⟨x,t,rfl,rfl⟩
  ·exact wpAny_pyHash_int h
  ·exact wpAny_pyHash_str h
 eqBool:=fun hu hv h=>by
  rcases keyIs_shape hu with ⟨i,t,rfl,rfl⟩ | ⟨x,t,rfl,rfl⟩
  ·rcases keyIs_shape hv with ⟨j,u,rfl,rfl⟩ | ⟨y,u,rfl,rfl⟩
   ·rw [key_ll] at h;exact wpAny_eqBool_int h
   ·rw [key_lr] at h;exact SeqAt.EqAt.int_str i t y u _ _ _ _ h
  ·rcases keyIs_shape hv with ⟨j,u,rfl,rfl⟩ | ⟨y,u,rfl,rfl⟩
   ·rw [key_rl] at h;exact SeqAt.EqAt.str_int x t j u _ _ _ _ h
   ·rw [key_rr] at h;exact wpAny_eqBool_str h
 «strs»:=fun k x t v h=>by
  rcases keyIs_shape h with ⟨i,u,rfl,e⟩ | ⟨y,u,rfl,e⟩
  ·exact nomatch e
  ·injection e with e1 _
   subst e1
   cases v <;> rfl
theorem mixKind_int (prog:Program) (w:World) (i:Int) (t:Tok) : (mixKind prog w).is (.inl i) (.int i t)=true:=keyIs_int i t
theorem mixKind_str (prog:Program) (w:World) (x:Str) (t:Tok) : (mixKind prog w).is (.inr x) (.str x t)=true:=keyIs_str x t
end L2
namespace L2
open PySem PySem.Spec PyProof.Rows
inductive V where
 | non | bl (b:Bool) | int (i:Int) | str (x:Str) | byt (b:Array UInt8) | flt (b:UInt64) | ref (a:Addr) | ty (n:String)
 deriving DecidableEq
def RelV :V→Value→Prop
 | .non,u=>u=Value.none
 | .bl b,u=>u=Value.bool b
 | .int i,u=>∃ t,u=Value.int i t
 | .str x,u=>∃ t,u=Value.str x t
 | .byt b,u=>∃ t,u=Value.bytes b t
 | .flt b,u=>∃ t,u=Value.float b t
 | .ref a,u=>u=Value.ref a
 | .ty n,u=>u=Value.type n
abbrev Vals :List V→List Value→Prop:=Paired RelV
theorem Vals.length {xs:List V} {us:List Value} (r:Vals xs us) : xs.length=us.length:=Paired.length r
theorem Vals.get :∀ {xs:List V} {us:List Value} {i:Nat} {x:V},Vals xs us→xs[i]? = some x→∃ u,us[i]? = some u∧RelV x u
 | _,_,_,_,.nil,e=>by simp at e
 | _,_,0,_,.cons r _,e=>by simp at e;subst e;exact ⟨_,rfl,r⟩
 | _,_,i+1,x,.cons _ t,e=>by
  obtain ⟨u,h1,h2⟩:=Vals.get (i:=i) (x:=x) t (by simpa using e)
  exact ⟨u,by simpa using h1,h2⟩
theorem Vals.set {x:V} {u:Value} (r:RelV x u) : ∀ {xs:List V} {us:List Value} (i:Nat),Vals xs us→Vals (xs.set i x) (us.set i u)
 | _,_,_,.nil=>.nil
 | _,_,0,.cons _ t=>.cons r t
 | _,_,i+1,.cons q t=>.cons q (Vals.set r i t)
theorem Vals.append :∀ {xs ys:List V} {us ws:List Value},Vals xs us→Vals ys ws→Vals (xs ++ ys) (us ++ ws)
 | _,_,_,_,.nil,s=>s
 | _,_,_,_,.cons r t,s=>.cons r (Vals.append t s)
theorem Vals.take :∀ {xs:List V} {us:List Value} (n:Nat),Vals xs us→Vals (xs.take n) (us.take n)
 | _,_,0,_=>.nil
 | _,_,_+1,.nil=>.nil
 | _,_,n+1,.cons r t=>.cons r (Vals.take n t)
theorem Vals.drop :∀ {xs:List V} {us:List Value} (n:Nat),Vals xs us→Vals (xs.drop n) (us.drop n)
 | _,_,0,r=>r
 | _,_,_+1,.nil=>.nil
 | _,_,n+1,.cons _ t=>Vals.drop n t
def RelO :Option V→Option Value→Prop
 | some v,some u=>RelV v u
 | none,none=>True
 | _,_=>False
def KV {κ:Type}:List (κ × V)→List (κ × Value)→Prop:=Paired fun (p:κ × V) (q:κ × Value)=>p.1=q.1∧RelV p.2 q.2
def kV :Key→V
 | .inl i=>.int i
 | .inr x=>.str x
inductive HO where
 | lst (xs:List V)
 | tup (xs:List V)
 | dK (kvs:List (Key × V)) | dT (kvs:List (List Key × V))
 | set (S:Int→Bool) (n:Nat)
 | ins (C dx:Addr) (fs:List (Str × V))
 | own (x:Addr)
 | xd (fs:List (Str × V))
 | met (f x:Addr)
 | rng (lo hi:Int)
 | frz (o:Obj) (u:HO)
 | tbl (ps:Array Value)
 | ext (φ:Heap→Prop)
abbrev Hp :=Addr→Option HO
def upd (H:Hp) (a:Addr) (o:HO) : Hp:=fun b=>if b=a then some o else H b
theorem upd_same {H:Hp} {a:Addr} {o:HO}:upd H a o a=some o:=by unfold upd;rw [if_pos rfl]
theorem upd_ne {H:Hp} {a b:Addr} {o:HO} (h:b≠a) : upd H a o b=H b:=by unfold upd;rw [if_neg h]
theorem ne_of {H:Hp} {a b:Addr} {o u:HO} (h:H a=some o) (h':H b=some u) (d:o≠u) : a≠b:=by
 intro e;subst e;rw [h] at h';exact d (Option.some.inj h')
theorem ne_of_none {H:Hp} {a b:Addr} {o:HO} (h:H a=some o) (h':H b=none) : a≠b:=by
 intro e;subst e;rw [h] at h';cases h'
section
variable (P:Program) (w:World)
def ObjOk (H:Hp) (h:Heap) (a:Addr) : HO→Prop
 | .lst xs=>xs.length≤sizeLine∧∃ (its:List Value) (n:Nat),Vals xs its∧h.get? a=some { cls:=.type "list",data:=.seq its.toArray n }
 | .tup xs=>xs.length≤sizeLine∧∃ its:List Value,Vals xs its∧IsTup h a its.toArray
 | .dK kvs=>kvs.length≤sizeLine∧(a == sysModules)=false∧∃ vs,KV kvs vs∧h.DictOf (mixKind P w) a vs
 | .dT kvs=>kvs.length≤sizeLine∧(a == sysModules)=false∧∃ xs:List (List Key × Addr × Value),
   Paired (fun (p:List Key × V) (q:List Key × Addr × Value)=>p.1=q.1∧H q.2.1=some (.tup (p.1.map kV))∧RelV p.2 q.2.2) kvs xs ∧
   ∃ o es ep,h.get? a=some o∧o.ExactDict∧o.data=.dict es ep∧es.toList=xs.map (entryOfKey (tupleKind (mixKind P w)))∧(xs.map (·.1)).Nodup
 | .set S n=>h.SetOf (intKind P w) a S n
 | .ins C dx fs=>H dx=some (.own a)∧fs.length≤1000∧dx≠a∧h.get? a=some (PySem.W.instObj C dx) ∧
   ∃ mA,h.Ns1 dx mA∧(∀ f,RelO (fs.lookup f) (mA f))∧PySem.Within mA (fs.map (·.1))
 | .own _=>∃ o,h.get? a=some o
 | .xd fs=>∃ mA,h.Ns1 a mA∧∀ f,RelO (fs.lookup f) (mA f)
 | .rng lo hi=>∃ t u v,h.get? a=some { cls:=.type "range",data:=.fields #[.int lo t,.int hi u,.int 1 v] }
 | .frz o u=>h.get? a=some o∧ObjOk H h a u
 | .tbl ps=>h.get? a=some { cls:=.none,data:=.fields ps }
 | .met f x=>h.get? a=some (PySem.W.methodObj (.ref f) (.ref x))
 | .ext φ=>φ h∧(∃ o,h.get? a=some o)∧∀ h1 h2:Heap,φ h1→(∀ o,h1.get? a=some o→h2.get? a=some o)→φ h2
def HOk (H:Hp) (h:Heap) : Prop:=∀ a o,H a=some o→ObjOk P w H h a o
end
section
variable {P:Program} {w:World} {H H':Hp} {h h':Heap} {a:Addr} {o:HO}
theorem ObjOk.lt (x:ObjOk P w H h a o) : a < h.objs.size:=by
 cases o with
 | lst xs=>obtain ⟨_,_,_,_,e⟩:=x;exact Heap.lt_size e
 | tup xs=>obtain ⟨_,_,_,p⟩:=x;exact p.lt
 | dK kvs=>obtain ⟨_,_,_,_,o,_,_,e,_⟩:=x;exact Heap.lt_size e
 | dT kvs=>obtain ⟨_,_,_,_,o,_,_,e,_⟩:=x;exact Heap.lt_size e
 | set S n=>obtain ⟨o,_,_,_,e,_⟩:=x;exact Heap.lt_size e
 | ins C dx fs=>obtain ⟨_,_,_,e,_⟩:=x;exact Heap.lt_size e
 | own y=>obtain ⟨_,e⟩:=x;exact Heap.lt_size e
 | xd fs=>obtain ⟨_,⟨_,_,_,e,_⟩,_⟩:=x;exact Heap.lt_size e
 | rng lo hi=>obtain ⟨_,_,_,e⟩:=x;exact Heap.lt_size e
 | frz ob u=>obtain ⟨e,_⟩:=x;exact Heap.lt_size e
 | tbl ps=>exact Heap.lt_size (show h.get? a=some _ from x)
 | met f y=>exact Heap.lt_size (show h.get? a=some _ from x)
 | ext φ=>obtain ⟨_,⟨_,e⟩,_⟩:=x;exact Heap.lt_size e
theorem Paired.mapP {α β:Type} {F G:α→β→Prop}:∀ {l₁:List α} {l₂:List β},Paired F l₁ l₂→(∀ a b,F a b→G a b)→Paired G l₁ l₂
 | _,_,.nil,_=>.nil
 | _,_,.cons r t,f=>.cons (f _ _ r) (Paired.mapP t f)
theorem ObjOk.stay (x:ObjOk P w H h a o) (k:∀ b u,(b=a∨H b=some (.own a))→h.get? b=some u→h'.get? b=some u)
  (ho:∀ b,H b=some (.own a)→H' b=some (.own a)) (ht:∀ b xs,H b=some (.tup xs)→H' b=some (.tup xs)) : ObjOk P w H' h' a o:=by
 induction o with
 | lst xs=>obtain ⟨z,its,n,r,e⟩:=x;exact ⟨z,its,n,r,k _ _ (.inl rfl) e⟩
 | tup xs=>obtain ⟨z,its,r,ob,e,c⟩:=x;exact ⟨z,its,r,ob,k _ _ (.inl rfl) e,c⟩
 | dK kvs=>obtain ⟨z,y,vs,r,ob,es,ep,e,c⟩:=x;exact ⟨z,y,vs,r,ob,es,ep,k _ _ (.inl rfl) e,c⟩
 | dT kvs =>
  obtain ⟨z,y,xs,r,ob,es,ep,e,c⟩:=x
  exact ⟨z,y,xs,Paired.mapP r fun p q z=>⟨z.1,ht _ _ z.2.1,z.2.2⟩,ob,es,ep,k _ _ (.inl rfl) e,c⟩
 | set S n=>obtain ⟨ob,es,ep,t,e,c⟩:=x;exact ⟨ob,es,ep,t,k _ _ (.inl rfl) e,c⟩
 | ins C dx fs =>
  obtain ⟨d,z,ne,e,mA,⟨od,es,ep,e2,c⟩,r⟩:=x
  exact ⟨ho _ d,z,ne,k _ _ (.inl rfl) e,mA,⟨od,es,ep,k _ _ (.inr d) e2,c⟩,r⟩
 | own y=>obtain ⟨ob,e⟩:=x;exact ⟨ob,k _ _ (.inl rfl) e⟩
 | xd fs=>obtain ⟨mA,⟨od,es,ep,e,c⟩,r⟩:=x;exact ⟨mA,⟨od,es,ep,k _ _ (.inl rfl) e,c⟩,r⟩
 | rng lo hi=>obtain ⟨t,u,v,e⟩:=x;exact ⟨t,u,v,k _ _ (.inl rfl) e⟩
 | frz ob u ih=>obtain ⟨e,q⟩:=x;exact ⟨k _ _ (.inl rfl) e,ih q⟩
 | tbl ps =>
  have e:h.get? a=some { cls:=.none,data:=.fields ps }:=x
  show h'.get? a=some { cls:=.none,data:=.fields ps }
  exact k a _ (.inl rfl) e
 | met f y =>
  have e:h.get? a=some (PySem.W.methodObj (.ref f) (.ref y)):=x
  show h'.get? a=some (PySem.W.methodObj (.ref f) (.ref y))
  exact k a _ (.inl rfl) e
 | ext φ=>obtain ⟨p,⟨o,e⟩,st⟩:=x;exact ⟨st _ _ p fun o q=>k _ _ (.inl rfl) q,⟨o,k _ _ (.inl rfl) e⟩,st⟩
theorem HOk.lt (x:HOk P w H h) (e:H a=some o) : a < h.objs.size:=(x a o e).lt
theorem HOk.fresh (x:HOk P w H h) (e:h.objs.size≤a) : H a=none:=by
 cases q:H a with
 | none=>rfl
 | some u=>exact absurd (Nat.lt_of_lt_of_le (x.lt q) e) (Nat.lt_irrefl _)
theorem HOk.kept (x:HOk P w H h) (k:∀ b u,h.get? b=some u→h'.get? b=some u) : HOk P w H h':=fun a o e =>
 (x a o e).stay (fun b u _ q=>k b u q) (fun _ q=>q) fun _ _ q=>q
theorem HOk.laid (x:HOk P w H h) (k:∀ b u,h.get? b=some u→h'.get? b=some u) (hp:h.objs.size≤a) (new:ObjOk P w (upd H a o) h' a o) : HOk P w (upd H a o) h':=fun b u e=>by
 have hn:=x.fresh hp
 by_cases hb:b=a
 ·subst hb;rw [upd_same] at e;cases e;exact new
 ·rw [upd_ne hb] at e
  exact (x b u e).stay (fun c v _ q=>k c v q) (fun c q=>by rw [upd_ne (ne_of_none q hn)];exact q) fun c xs q=>by rw [upd_ne (ne_of_none q hn)];exact q
end
def Rd (H:Hp) (a:Addr) (u:HO) : Prop:=H a=some u∨∃ o,H a=some (.frz o u)
theorem Rd.of {H:Hp} {a:Addr} {u:HO} (h:H a=some u) : Rd H a u:=.inl h
theorem Rd.ok {P:Program} {w:World} {H:Hp} {h:Heap} {a:Addr} {u:HO} (r:Rd H a u) (x:HOk P w H h) : ObjOk P w H h a u:=by
 rcases r with r | ⟨o,r⟩
 ·exact x a u r
 ·obtain ⟨_,q⟩:=x a _ r
  exact q
def Mut :Option HO→Prop
 | some (.lst _)=>True
 | some (.dK _)=>True
 | some (.dT _)=>True
 | some (.set _ _)=>True
 | some (.ins _ _ _)=>True
 | some (.ext _)=>True
 | _=>False
section
variable {P:Program} {w:World} {H:Hp} {h h':Heap} {x e:Addr} {o':HO}
theorem HOk.write (ok:HOk P w H h) (mu:Mut (H x)) (he:e=x∨H e=some (.own x)) (k:∀ b u,b≠e→h.get? b=some u→h'.get? b=some u) (heo:∃ u,h'.get? e=some u)
  (new:ObjOk P w (upd H x o') h' x o') : HOk P w (upd H x o') h':=fun b u q=>by
 have nown:∀ c y,H c=some (.own y)→c≠x:=fun c y r z=>by subst z;rw [r] at mu;exact mu
 have ntup:∀ c xs,H c=some (.tup xs)→c≠x:=fun c xs r z=>by subst z;rw [r] at mu;exact mu
 by_cases hb:b=x
 ·subst hb;rw [upd_same] at q;cases q;exact new
 ·rw [upd_ne hb] at q
  by_cases hbe:b=e
  ·have q':H b=some (.own x):=by
    rcases he with z | z
    ·exact absurd (hbe.trans z) hb
    ·rw [hbe];exact z
   rw [q] at q';cases q'
   obtain ⟨v,hv⟩:=heo
   exact ⟨v,by rw [hbe];exact hv⟩
  ·refine (ok b u q).stay (fun c v hc r=>k c v ?_ r) (fun c r=>by rw [upd_ne (nown c b r)];exact r) fun c xs r=>by rw [upd_ne (ntup c xs r)];exact r
   rcases hc with rfl | hc
   ·exact hbe
   ·rintro rfl
    rcases he with z | z
    ·exact nown c b hc z
    ·rw [hc] at z;cases z;exact hb rfl
end
structure Un (fs ex:List Addr) (H H':Hp) (h h':Heap) : Prop where
 keep:∀ b o,h.get? b=some o→H b=none→b∉fs→b∉ex→h'.get? b=some o
 slot:∀ b o,h.get? b=some o→H b=none→b∈fs→b∉ex→∃ sl,h'.get? b=some { o with slots:=sl }
 free:∀ b o,h.get? b=some o→H b=none→b∉ex→H' b=none
 there:∀ b o,h.get? b=some o→b∉ex→∃ o',h'.get? b=some o'
 tups:∀ b xs,H b=some (.tup xs)→H' b=some (.tup xs)
 frzs:∀ b o u,H b=some (.frz o u)→H' b=some (.frz o u)
 tbls:∀ b ps,H b=some (.tbl ps)→∃ more,H' b=some (.tbl (ps ++ more))
section
variable {fs fs' ex ex':List Addr} {H H1 H2:Hp} {h h1 h2 h':Heap} {a x e:Addr} {o:HO}
theorem Un.any (u:Un fs ex H H1 h h1) {b:Addr} {ob:Obj} (q:h.get? b=some ob) (n:H b=none) (hx:b∉ex) : ∃ sl,h1.get? b=some { ob with slots:=sl }:=by
 by_cases hb:b∈fs
 ·exact u.slot b ob q n hb hx
 ·exact ⟨ob.slots,u.keep b ob q n hb hx⟩
theorem Un.kept (k:∀ b u,h.get? b=some u→h'.get? b=some u) : Un fs ex H H h h' :=
 ⟨fun b ob q _ _ _=>k b ob q,fun b ob q _ _ _=>⟨ob.slots,k b ob q⟩,fun _ _ _ n _=>n,fun b ob q _=>⟨ob,k b ob q⟩,fun _ _ q=>q,fun _ _ _ q=>q,fun _ ps q=>⟨#[],by rw [q];simp⟩⟩
theorem Un.refl :Un fs ex H H h h:=Un.kept fun _ _ q=>q
theorem Un.laid (k:∀ b u,h.get? b=some u→h'.get? b=some u) (hp:h.objs.size≤a) (hn:H a=none) : Un fs ex H (upd H a o) h h' where
 keep:=fun b u q _ _ _=>k b u q
 slot:=fun b u q _ _ _=>⟨u.slots,k b u q⟩
 free:=fun b u q n _=>by rw [upd_ne (Nat.ne_of_lt (Nat.lt_of_lt_of_le (Heap.lt_size q) hp))];exact n
 there:=fun b u q _=>⟨u,k b u q⟩
 tups:=fun b xs q=>by rw [upd_ne (ne_of_none q hn)];exact q
 frzs:=fun b u xs q=>by rw [upd_ne (ne_of_none q hn)];exact q
 tbls:=fun b ps q=>⟨#[],by rw [upd_ne (ne_of_none q hn),q];simp⟩
theorem Un.write (mu:Mut (H x)) (he:e=x∨H e=some (.own x)) (k:∀ b u,b≠e→h.get? b=some u→h'.get? b=some u) (heo:∃ u,h'.get? e=some u) : Un fs ex H (upd H x o) h h':=by
 have hx:∀ b,H b=none→b≠x:=fun b n z=>by subst z;rw [n] at mu;exact mu
 have hb:∀ b,H b=none→b≠e:=fun b n z=>by
  subst z
  rcases he with r | r
  ·exact hx b n r
  ·rw [n] at r;cases r
 have hm:∀ b u,H b=some u→¬ Mut (some u)→b≠x:=fun b u q nm z=>by subst z;rw [q] at mu;exact nm mu
 refine ⟨fun b u q n _ _=>k b u (hb b n) q,fun b u q n _ _=>⟨u.slots,k b u (hb b n) q⟩,fun b u q n _=>by rw [upd_ne (hx b n)];exact n,fun b u q _=>?_,
  fun b xs q=>by rw [upd_ne (hm b _ q fun z=>z)];exact q,fun b u xs q=>by rw [upd_ne (hm b _ q fun z=>z)];exact q,fun b ps q=>⟨#[],by rw [upd_ne (hm b _ q fun z=>z),q];simp⟩⟩
 by_cases hbe:b=e
 ·subst hbe;exact heo
 ·exact ⟨u,k b u hbe q⟩
theorem Un.mono (u:Un fs ex H H1 h h1) (hs:∀ b∈fs,b∈fs') (hx:∀ b∈ex,b∈ex') : Un fs' ex' H H1 h h1 :=
 ⟨fun b ob q n hb he=>u.keep b ob q n (fun z=>hb (hs b z)) fun z=>he (hx b z),fun _ _ q n _ he=>u.any q n fun z=>he (hx _ z),fun b ob q n he=>u.free b ob q n fun z=>he (hx b z),fun b ob q he=>u.there b ob q fun z=>he (hx b z),u.tups,u.frzs,u.tbls⟩
end
def trk (h:Heap) (H:Hp) : List Addr:=(List.range h.objs.size).filter fun a=>(H a).isSome
def hidT (h:Heap) (H:Hp) : Heap:=PySem.W.hideAll h (trk h H)
theorem hidT_size (h:Heap) (H:Hp) : (hidT h H).objs.size=h.objs.size:=PySem.W.hideAll_size _ _
theorem hidT_get {h:Heap} {H:Hp} {b:Addr} {o:Obj} (e:h.get? b=some o) (n:H b=none) : (hidT h H).get? b=some o :=
 PySem.W.hideAll_get _ e fun hm=>by
  have q:(H b).isSome=true:=(List.mem_filter.mp hm).2
  rw [n] at q;simp at q
theorem of_hidT {h:Heap} {H:Hp} {b:Addr} {o:Obj} (e:(hidT h H).get? b=some o) : h.get? b=some o∧H b=none:=by
 have e':h.get? b=some o:=PySem.W.of_hideAll (trk h H) e
 refine ⟨e',?_⟩
 cases q:H b with
 | none=>rfl
 | some x =>
  have hm:b∈trk h H:=List.mem_filter.mpr ⟨List.mem_range.mpr (Heap.lt_size e'),by simp [q]⟩
  have z:(hidT h H).get? b=none:=PySem.W.hideAll_none (trk h H) hm
  rw [z] at e;cases e
def allNews (g h:Heap) (L:Addr) : List (Addr × Obj):=(List.range h.objs.size).filterMap fun a=>if a=L∨(g.get? a).isSome=true then none else (h.get? a).map fun o=>(a,o)
def rest (g h:Heap) (L d:Addr) : List (Addr × Obj):=(allNews g h L).filter fun p=>decide (p.1≠d)
end L2
namespace L2
open PySem PySem.Spec PyProof.Rows
structure Mod (K:PySem.W.Frag) (mg:Str→Option Value) (base:Heap) : Prop where
 kin:K.In base
 glob:base.Ns mainGlobals mg
 blt:∃ mb,base.Ns builtinsNs mb∧∀ x:Str,x ≠ "__name__"→mb x=bootBuiltins x
 nolimit:base.NoLimit
structure Cx where
 prog:Program
 w:World
 K:PySem.W.Frag
 mg:Str→Option Value
 base:Heap
 A:Around
 N:List Str
 s_0:Shared
 H_0:Hp
 env:Env
 outer:List Env
 stack:List Env
 ex:List Addr
 fn:Str→Bool
 calm:Bool
 pn:List (Addr × Obj)
 xe:Value→Shared→Prop
def frs (l:List Env) : List Addr:=l.filterMap (·.frame)
abbrev Cx.fs (X:Cx) : List Addr:=frs X.outer
def Vis (sc:Scope) (x:Str) : Prop:=sc.names.lookup x=some .local∨sc.names.lookup x=some .cell∨sc.names.lookup x=some .free
def Loc (sc:Scope) (x:Str) : Prop:=sc.names.lookup x=some .local∨sc.names.lookup x=some .cell
def Look (env:Env) (h:Heap) (m:Str→Option Value) (x:Str) (u:Value) : Prop :=
 (env.kindOf x=some .local∧m x=some u)∨((env.kindOf x=some .cell∨env.kindOf x=some .free)∧∃ c,env.cells.lookup x=some c∧h.IsCell c (some u))
structure Cx.Ok (X:Cx) : Prop where
 mod:Mod X.K X.mg X.base
 kind:X.env.scope.kind=.function
 glob:X.env.globals=mainGlobals
 blt:X.env.builtins=builtinsNs
 above:X.s_0.heap.objs.size≤X.env.locals
 inj:∀ x y c,X.env.cells.lookup x=some c→X.env.cells.lookup y=some c→x=y
 has:∀ x,(X.env.kindOf x=some .cell∨X.env.kindOf x=some .free)→∃ c,X.env.cells.lookup x=some c
 cab:∀ x c,X.fn x=true→X.env.cells.lookup x=some c→X.s_0.heap.objs.size≤c
 hd:X.calm=true→X.A.handled=none
 frames:X.A.frames=some X.stack
 stk:X.stack=X.outer∨(X.stack=X.env :: X.outer∧X.env.frame=some X.env.locals)
 exf:∀ b∈X.ex,b≠X.env.locals∧∀ x c,X.env.cells.lookup x=some c→c≠b
 bs:∀ b o,X.base.get? b=some o→X.s_0.heap.get? b=some o∧X.H_0 b=none
 bsz:X.base.objs.size≤X.s_0.heap.objs.size
 noex:∀ b o,X.base.get? b=some o→b∉X.ex
 exfs:∀ b∈X.ex,b∉X.fs
 funs:X.s_0.heap.FunFrames X.base X.outer
 frf:∀ b∈X.fs,X.H_0 b=none
structure Inv (X:Cx) (pins:List (Addr × Obj)) (σ:List (Option V)) (H:Hp) (s:Shared) : Prop where
 ok:X.Ok
 os:s.os=X.s_0.os
 bare:AllBare s.gens
 base:Un X.fs X.ex X.H_0 H X.s_0.heap s.heap
 loc:∃ m,s.heap.Ns X.env.locals m∧∀ (i:Nat) (x:Str) (v:V),X.N[i]? = some x→σ[i]? = some (some v)→Vis X.env.scope x→∃ u,RelV v u∧Look X.env s.heap m x u
 cell:∀ x c,X.env.cells.lookup x=some c→∃ v,s.heap.IsCell c v
 free:H X.env.locals=none
 freeC:∀ x c,X.env.cells.lookup x=some c→H c=none
 pin:∀ p∈X.pn ++ pins,s.heap.get? p.1=some p.2∧H p.1=none∧p.1≠X.env.locals∧p.1∉X.fs∧∀ v,p.2.data≠.cell v
 hok:HOk X.prog X.w H s.heap
 len:σ.length=X.N.length
section
variable {X:Cx} {pins:List (Addr × Obj)} {σ:List (Option V)} {H H':Hp} {s:Shared} {h':Heap}
theorem Cx.Ok.nofr (ok:X.Ok) {b:Addr} {o:Obj} (e:X.base.get? b=some o) : b∉X.fs:=fun hb=>by
 have:=(ok.funs.mem hb).1
 rw [e] at this;cases this
theorem Inv.bs (I:Inv X pins σ H s) : ∀ b o,X.base.get? b=some o→s.heap.get? b=some o∧H b=none:=fun b o e =>
 ⟨I.base.keep b o (I.ok.bs b o e).1 (I.ok.bs b o e).2 (I.ok.nofr e) (I.ok.noex b o e),I.base.free b o (I.ok.bs b o e).1 (I.ok.bs b o e).2 (I.ok.noex b o e)⟩
theorem Inv.bk (I:Inv X pins σ H s) : ∀ b o,X.base.get? b=some o→s.heap.get? b=some o:=fun b o e=>(I.bs b o e).1
theorem Inv.mod (I:Inv X pins σ H s) : Mod X.K X.mg X.base:=I.ok.mod
theorem Inv.kIn (I:Inv X pins σ H s) : X.K.In s.heap:=I.ok.mod.kin.keeps I.bk
theorem Inv.nolimit (I:Inv X pins σ H s) : s.heap.NoLimit:=I.ok.mod.nolimit.keeps I.bk
theorem Inv.fr (I:Inv X pins σ H s) : ∃ m,Fr X.base X.env.locals s.heap m :=
 let ⟨m,hn,_⟩:=I.loc
 ⟨m,hn,I.bk,Nat.le_trans I.ok.bsz I.ok.above⟩
theorem Inv.lt (I:Inv X pins σ H s) : X.env.locals < s.heap.objs.size:=let ⟨_,hn,_⟩:=I.loc;hn.lt
theorem Inv.sz (I:Inv X pins σ H s) : X.s_0.heap.objs.size≤s.heap.objs.size:=Nat.le_trans I.ok.above (Nat.le_of_lt I.lt)
theorem Inv.nofs (I:Inv X pins σ H s) {a:Addr} (h:s.heap.objs.size≤a) : a∉X.fs:=fun hb=>by
 obtain ⟨_,o,ho,_⟩:=I.ok.funs.mem hb
 exact absurd (Nat.lt_of_lt_of_le (Heap.lt_size ho) (Nat.le_trans I.sz h)) (Nat.lt_irrefl _)
theorem Inv.cne (I:Inv X pins σ H s) : ∀ x c,X.env.cells.lookup x=some c→c≠X.env.locals:=fun x c e z=>by
 obtain ⟨v,o,ho,hd⟩:=I.cell x c e
 obtain ⟨m,⟨o',es,ep,ho',hd',_⟩,_⟩:=I.loc
 rw [z,ho'] at ho;cases ho;rw [hd'] at hd;cases hd
theorem Inv.funs (I:Inv X pins σ H s) : s.heap.FunFrames X.base X.outer:=by
 have all:∀ (l:List Env),(∀ b∈frs l,b∈X.fs)→X.s_0.heap.FunFrames X.base l→s.heap.FunFrames X.base l:=by
  intro l
  induction l with
  | nil=>intro _ _;trivial
  | cons env r ih =>
   intro hs hl
   obtain ⟨hk,⟨L,o,hf,hn,ho,hd⟩,hr⟩:=hl
   have hL:L∈X.fs:=hs L (by unfold frs;rw [List.filterMap_cons,hf];exact List.mem_cons_self)
   obtain ⟨sl,e⟩:=I.base.slot L o ho (I.ok.frf L hL) hL fun z=>I.ok.exfs L z hL
   exact ⟨hk,⟨L,_,hf,hn,e,hd⟩,ih (fun b hb=>hs b (by unfold frs;rw [List.filterMap_cons,hf];exact List.mem_cons_of_mem _ hb)) hr⟩
 exact all X.outer (fun _ hb=>hb) I.ok.funs
theorem Inv.stack (I:Inv X pins σ H s) : s.heap.FunFrames X.base X.stack:=by
 rcases I.ok.stk with e | ⟨e,hf⟩
 ·rw [e];exact I.funs
 ·rw [e]
  obtain ⟨m,hn,_⟩:=I.loc
  refine .cons (by rw [I.ok.kind];decide) hf hn ?_ I.funs
  exact Heap.get?_none_of_le (Nat.le_trans I.ok.bsz I.ok.above)
theorem Inv.stkSub (I:Inv X pins σ H s) : ∀ b∈frs X.stack,b∈X.env.locals :: X.fs:=fun b hb=>by
 rcases I.ok.stk with e | ⟨e,hf⟩
 ·rw [e] at hb;exact List.mem_cons_of_mem _ hb
 ·rw [e] at hb
  unfold frs at hb
  rw [List.filterMap_cons,hf] at hb
  exact hb
theorem Inv.stkFree (I:Inv X pins σ H s) : ∀ b∈frs X.stack,H b=none:=fun b hb=>by
 rcases List.mem_cons.mp (I.stkSub b hb) with e | hb
 ·rw [e];exact I.free
 ·obtain ⟨_,o,ho,_⟩:=I.ok.funs.mem hb
  exact I.base.free b o ho (I.ok.frf b hb) fun z=>I.ok.exfs b z hb
theorem Inv.step {g':Array GenState} {t':Nat} {d':Drawn} {ch:List Addr} (I:Inv X pins σ H s)
  (hch:∀ b∈ch,(b∈X.ex∨X.s_0.heap.objs.size≤b)∧b≠X.env.locals∧(∀ x c,X.env.cells.lookup x=some c→c≠b)∧∀ p∈X.pn ++ pins,p.1≠b)
  (keep:∀ b o,b≠X.env.locals→b∉X.fs→b∉ch→s.heap.get? b=some o→H b=none→h'.get? b=some o)
  (slot:∀ b o,b≠X.env.locals→b∈X.fs→b∉ch→s.heap.get? b=some o→H b=none→∃ sl,h'.get? b=some { o with slots:=sl }) (free:∀ b o,b∉ch→s.heap.get? b=some o→H b=none→H' b=none)
  (there:∀ b o,b∉ch→s.heap.get? b=some o→∃ o',h'.get? b=some o')
  (tups:∀ b xs,H b=some (.tup xs)→H' b=some (.tup xs)) (frzs:∀ b o u,H b=some (.frz o u)→H' b=some (.frz o u)) (tbls:∀ b ps,H b=some (.tbl ps)→∃ more,H' b=some (.tbl (ps ++ more)))
  (ns:∀ m,s.heap.Ns X.env.locals m→h'.Ns X.env.locals m) (hok:HOk X.prog X.w H' h') (hg:AllBare g') :
  Inv X pins σ H' { s with heap:=h',gens:=g',drawn:=d',toks:=t' }:=by
 have neL:∀ b o,X.s_0.heap.get? b=some o→b≠X.env.locals:=fun b o e=>Nat.ne_of_lt (Nat.lt_of_lt_of_le (Heap.lt_size e) I.ok.above)
 have neC:∀ b o,X.s_0.heap.get? b=some o→b∉X.ex→b∉ch:=fun b o e hx hb=>by
  rcases (hch b hb).1 with z | z
  ·exact hx z
  ·exact absurd (Nat.lt_of_lt_of_le (Heap.lt_size e) z) (Nat.lt_irrefl _)
 have cellK:∀ x c,X.env.cells.lookup x=some c→∀ v,s.heap.IsCell c v→h'.IsCell c v:=fun x c e v ⟨o,ho,hd⟩=>by
  have nch:c∉ch:=fun z=>(hch c z).2.2.1 x c e rfl
  by_cases hc:c∈X.fs
  ·obtain ⟨sl,q⟩:=slot c o (I.cne x c e) hc nch ho (I.freeC x c e)
   exact ⟨_,q,hd⟩
  ·exact ⟨o,keep c o (I.cne x c e) hc nch ho (I.freeC x c e),hd⟩
 refine ⟨I.ok,I.os,hg,⟨fun b o e n hb hx=>?_,fun b o e n hb hx=>?_,fun b o e n hx=>?_,fun b o e hx=>?_,fun b xs e=>tups b xs (I.base.tups b xs e),fun b o xs e=>frzs b o xs (I.base.frzs b o xs e),fun b ps e=>?_⟩,?_,fun x c e=>?_,?_,fun x c e=>?_,fun p hp=>?_,hok,I.len⟩
 ·exact keep b o (neL b o e) hb (neC b o e hx) (I.base.keep b o e n hb hx) (I.base.free b o e n hx)
 ·obtain ⟨sl,e1⟩:=I.base.slot b o e n hb hx
  obtain ⟨sl',e2⟩:=slot b _ (neL b o e) hb (neC b o e hx) e1 (I.base.free b o e n hx)
  exact ⟨sl',e2⟩
 ·obtain ⟨o',e1⟩:=I.base.there b o e hx
  exact free b o' (neC b o e hx) e1 (I.base.free b o e n hx)
 ·obtain ⟨o',e1⟩:=I.base.there b o e hx
  exact there b o' (neC b o e hx) e1
 ·obtain ⟨m1,e1⟩:=I.base.tbls b ps e
  obtain ⟨m2,e2⟩:=tbls b _ e1
  exact ⟨m1 ++ m2,by rw [e2,Array.append_assoc]⟩
 ·obtain ⟨m,hn,hl⟩:=I.loc
  refine ⟨m,ns m hn,fun i x v e1 e2 e3=>?_⟩
  obtain ⟨u,r,l⟩:=hl i x v e1 e2 e3
  refine ⟨u,r,?_⟩
  rcases l with l | ⟨k,c,e,z⟩
  ·exact .inl l
  ·exact .inr ⟨k,c,e,cellK x c e _ z⟩
 ·obtain ⟨v,z⟩:=I.cell x c e
  exact ⟨v,cellK x c e v z⟩
 ·obtain ⟨m,⟨o,_,_,ho,_⟩,_⟩:=I.loc
  exact free _ o (fun z=>(hch _ z).2.1 rfl) ho I.free
 ·obtain ⟨v,o,ho,hd⟩:=I.cell x c e
  exact free c o (fun z=>(hch c z).2.2.1 x c e rfl) ho (I.freeC x c e)
 ·obtain ⟨e,n,ne,nf,d⟩:=I.pin p hp
  have nch:p.1∉ch:=fun z=>(hch p.1 z).2.2.2 p hp rfl
  exact ⟨keep p.1 p.2 ne nf nch e n,free p.1 p.2 nch e n,ne,nf,d⟩
theorem Inv.un {t':Nat} (I:Inv X pins σ H s) (u:Un X.fs [] H H' s.heap h') (hok:HOk X.prog X.w H' h') : Inv X pins σ H' { s with heap:=h',toks:=t' }:=by
 obtain ⟨m,⟨o,es,ep,ho,r⟩,_⟩:=id I.loc
 obtain ⟨sl,hL⟩:=u.any ho I.free (by simp)
 exact I.step (g':=s.gens) (d':=s.drawn) (ch:=[]) (fun _ z=>nomatch z) (fun b o _ hb _ e n=>u.keep b o e n hb (by simp)) (fun b o _ hb _ e n=>u.slot b o e n hb (by simp)) (fun b o _ e n=>u.free b o e n (by simp)) (fun b o _ e=>u.there b o e (by simp)) u.tups u.frzs u.tbls (fun m' hm=>by
  obtain ⟨o',es',ep',ho',r'⟩:=hm
  rw [ho] at ho';cases ho'
  exact ⟨_,es',ep',hL,r'⟩) hok I.bare
theorem Inv.call {g':Array GenState} {t':Nat} {d':Drawn} {ch:List Addr} (I:Inv X pins σ H s) (u:Un (frs X.stack) ch H H' s.heap h') (hok:HOk X.prog X.w H' h') (hg:AllBare g')
  (hch:∀ b∈ch,(b∈X.ex∨X.s_0.heap.objs.size≤b)∧b≠X.env.locals∧(∀ x c,X.env.cells.lookup x=some c→c≠b)∧∀ p∈X.pn ++ pins,p.1≠b) :
  Inv X pins σ H' { s with heap:=h',gens:=g',drawn:=d',toks:=t' }:=by
 obtain ⟨m,⟨o,es,ep,ho,r⟩,_⟩:=id I.loc
 obtain ⟨sl,hL⟩:=u.any ho I.free fun z=>(hch _ z).2.1 rfl
 exact I.step (ch:=ch) hch (fun b o hL hb hc e n=>u.keep b o e n (fun z=>(List.mem_cons.mp (I.stkSub b z)).elim hL hb) hc) (fun b o _ _ hc e n=>u.any e n hc) (fun b o hc e n=>u.free b o e n hc) (fun b o hc e=>u.there b o e hc) u.tups u.frzs u.tbls (fun m' hm=>by
  obtain ⟨o',es',ep',ho',r'⟩:=hm
  rw [ho] at ho';cases ho'
  exact ⟨_,es',ep',hL,r'⟩) hok hg
theorem Inv.turned {t':Nat} {it:Addr} (I:Inv X pins σ H s) (k:∀ b o,b≠it→s.heap.get? b=some o→h'.get? b=some o) (hn:H it=none) (hL:it≠X.env.locals)
  (h1:it∈X.ex∨X.s_0.heap.objs.size≤it) (h2:∀ x c,X.env.cells.lookup x=some c→c≠it) (h3:∀ p∈X.pn ++ pins,p.1≠it) : Inv X pins σ H { s with heap:=h',toks:=t' }:=by
 have nit:∀ b u,H b=some u→b≠it:=fun b u e z=>by rw [z,hn] at e;cases e
 refine I.step (g':=s.gens) (d':=s.drawn) (ch:=[it]) (fun b hb=>?_) (fun b o _ _ hc e _=>k b o (fun z=>hc (by simp [z])) e) (fun b o _ _ hc e _=>⟨o.slots,k b o (fun z=>hc (by simp [z])) e⟩) (fun _ _ _ _ n=>n)
  (fun b o hc e=>⟨o,k b o (fun z=>hc (by simp [z])) e⟩) (fun _ _ e=>e) (fun _ _ _ e=>e) (fun b ps e=>⟨#[],by rw [e];simp⟩) (fun m hm=>?_) (fun b u e=>?_) I.bare
 ·have e:b=it:=by simpa using hb
  subst e
  exact ⟨h1,hL,h2,h3⟩
 ·obtain ⟨o,es,ep,ho,r⟩:=hm
  exact ⟨o,es,ep,k _ o (Ne.symm hL) ho,r⟩
 ·refine (I.hok b u e).stay (fun c v hc q=>k c v ?_ q) (fun _ q=>q) fun _ _ q=>q
  rcases hc with z | z
  ·rw [z];exact nit b u e
  ·exact nit c _ z
theorem Inv.tok (I:Inv X pins σ H s) (t:Nat) : Inv X pins σ H { s with toks:=t }:=I.un (h':=s.heap) (t':=t) Un.refl I.hok
theorem Inv.kept {t':Nat} (I:Inv X pins σ H s) (k:∀ b u,s.heap.get? b=some u→h'.get? b=some u) : Inv X pins σ H { s with heap:=h',toks:=t' }:=I.un (Un.kept k) (I.hok.kept k)
theorem Inv.laid {a:Addr} {o:HO} {t':Nat} (I:Inv X pins σ H s) (k:∀ b u,s.heap.get? b=some u→h'.get? b=some u) (hp:s.heap.objs.size≤a) (new:ObjOk X.prog X.w (upd H a o) h' a o) :
  Inv X pins σ (upd H a o) { s with heap:=h',toks:=t' }:=I.un (Un.laid k hp (I.hok.fresh hp)) (I.hok.laid k hp new)
theorem Inv.write {x e:Addr} {o:HO} {t':Nat} (I:Inv X pins σ H s) (mu:Mut (H x)) (he:e=x∨H e=some (.own x)) (k:∀ b u,b≠e→s.heap.get? b=some u→h'.get? b=some u) (heo:∃ u,h'.get? e=some u)
  (new:ObjOk X.prog X.w (upd H x o) h' x o) : Inv X pins σ (upd H x o) { s with heap:=h',toks:=t' }:=I.un (Un.write mu he k heo) (I.hok.write mu he k heo new)
theorem Inv.weak {σ':List (Option V)} (I:Inv X pins σ H s) (hl:σ'.length=σ.length) (w:∀ (i:Nat) v,σ'[i]? = some (some v)→σ[i]? = some (some v)) : Inv X pins σ' H s :=
 ⟨I.ok,I.os,I.bare,I.base,let ⟨m,hn,hl'⟩:=I.loc;⟨m,hn,fun i x v e1 e2 e3=>hl' i x v e1 (w i v e2) e3⟩,I.cell,I.free,I.freeC,I.pin,I.hok,hl.trans I.len⟩
theorem Inv.pins_of {pins':List (Addr × Obj)} (I:Inv X pins σ H s) (h:∀ p∈pins',s.heap.get? p.1=some p.2∧H p.1=none∧p.1≠X.env.locals∧p.1∉X.fs∧∀ v,p.2.data≠.cell v) : Inv X pins' σ H s :=
 ⟨I.ok,I.os,I.bare,I.base,I.loc,I.cell,I.free,I.freeC,fun p hp=>(List.mem_append.mp hp).elim (fun z=>I.pin p (List.mem_append_left _ z)) (h p),I.hok,I.len⟩
theorem nodup_ix {N:List Str} (hN:N.Nodup) {i j:Nat} {x:Str} (a:N[i]? = some x) (b:N[j]? = some x) : i=j:=by
 obtain ⟨h1,e1⟩:=List.getElem?_eq_some_iff.mp a
 obtain ⟨h2,e2⟩:=List.getElem?_eq_some_iff.mp b
 exact (List.getElem_inj hN).mp (e1.trans e2.symm)
theorem store_ok2 {M:Model} {A:Around} {E:Value→Shared→Prop} {i:Nat} {x:Str} {v:V} {u:Value} {Q:Unit→Shared→Prop} (I:Inv X pins σ H s) (hN:X.N.Nodup) (hi:X.N[i]? = some x) (hx:Loc X.env.scope x) (r:RelV v u)
  (h:∀ s',Inv X pins (σ.set i (some v)) H s'→(∃ a,Heap.SameBut a s.heap s'.heap∧(a=X.env.locals∨X.env.cells.lookup x=some a))→Q () s') (hf:X.fn x=true∨X.env.scope.names.lookup x=some .local:=by first | exact .inl rfl | exact .inr rfl | assumption) : wpAny M A (storeName X.env x u) Q E s:=by
 obtain ⟨m,hn,hl⟩:=id I.loc
 have hcls:(X.env.scope.kind == .class || (X.env.scope.kind == .module && X.env.locals != X.env.globals))=false:=by rw [I.ok.kind];rfl
 have hiσ:i < σ.length:=by rw [I.len];exact (List.getElem?_eq_some_iff.mp hi).1
 have cne:=I.cne
 have tracked:∀ {a:Addr} {h':Heap},(∃ o,s.heap.get? a=some o∧H a=none)→Heap.SameBut a s.heap h'→HOk X.prog X.w H h':=fun {a h'} ha hs b ob e=>by
  obtain ⟨_,_,hfree⟩:=ha
  refine (I.hok b ob e).stay (fun c w' hc q=>(hs.2 c ?_).trans q) (fun _ q=>q) fun _ _ q=>q
  rintro rfl
  rcases hc with rfl | hc
  ·rw [hfree] at e;cases e
  ·rw [hfree] at hc;cases hc
 rcases hx with hk | hk
 ·refine wpAny_storeName_local hk hn (fun h' hn' hs=>?_) hcls
  obtain ⟨oL,_,_,hoL,_⟩:=id hn
  refine h _ ⟨I.ok,I.os,I.bare,⟨fun b o e n hb hx=>?_,fun b o e n hb hx=>?_,I.base.free,fun b o e hx=>?_,I.base.tups,I.base.frzs,I.base.tbls⟩,⟨_,hn',fun j y v' e1 e2 e3=>?_⟩,fun y c e=>?_,I.free,I.freeC,fun p hp=>?_,tracked ⟨oL,hoL,I.free⟩ hs,by simpa using I.len⟩ ⟨_,hs,.inl rfl⟩
  ·exact (hs.2 b (Nat.ne_of_lt (Nat.lt_of_lt_of_le (Heap.lt_size e) I.ok.above))).trans (I.base.keep b o e n hb hx)
  ·obtain ⟨sl,e1⟩:=I.base.slot b o e n hb hx
   exact ⟨sl,(hs.2 b (Nat.ne_of_lt (Nat.lt_of_lt_of_le (Heap.lt_size e) I.ok.above))).trans e1⟩
  ·obtain ⟨o',e1⟩:=I.base.there b o e hx
   exact ⟨o',(hs.2 b (Nat.ne_of_lt (Nat.lt_of_lt_of_le (Heap.lt_size e) I.ok.above))).trans e1⟩
  ·by_cases hj:j=i
   ·subst hj
    rw [hi] at e1;cases e1
    rw [List.getElem?_set_self hiσ] at e2
    cases e2
    exact ⟨u,r,.inl ⟨hk,by simp⟩⟩
   ·rw [List.getElem?_set_ne (Ne.symm hj)] at e2
    obtain ⟨u',r',q⟩:=hl j y v' e1 e2 e3
    refine ⟨u',r',?_⟩
    rcases q with ⟨k,e⟩ | ⟨k,c,e,z⟩
    ·refine .inl ⟨k,?_⟩
     have:y≠x:=fun e=>hj (nodup_ix hN e1 (e ▸ hi))
     simp [this,e]
    ·exact .inr ⟨k,c,e,z.sameBut hs (cne y c e)⟩
  ·obtain ⟨w',z⟩:=I.cell y c e
   exact ⟨w',z.sameBut hs (cne y c e)⟩
  ·obtain ⟨e,n,ne,nf,d⟩:=I.pin p hp
   exact ⟨(hs.2 p.1 ne).trans e,n,ne,nf,d⟩
 ·have hfn:X.fn x=true:=by
   rcases hf with z | z
   ·exact z
   ·rw [z] at hk;cases hk
  obtain ⟨c,hc⟩:=I.ok.has x (.inl hk)
  obtain ⟨w',z⟩:=I.cell x c hc
  refine wpAny_storeName_cell I.ok.kind hk hc z (fun h' hc' hs=>?_)
  obtain ⟨oc,hoc,hocd⟩:=id z
  refine h { s with heap:=h' } ⟨I.ok,I.os,I.bare,⟨fun b o e n hb hx=>?_,fun b o e n hb hx=>?_,I.base.free,fun b o e hx=>?_,I.base.tups,I.base.frzs,I.base.tbls⟩,⟨m,hn.sameBut hs (Ne.symm (cne x c hc)),fun j y v' e1 e2 e3=>?_⟩,fun y c' e=>?_,I.free,I.freeC,fun p hp=>?_,tracked ⟨oc,hoc,I.freeC x c hc⟩ hs,by simpa using I.len⟩ ⟨c,hs,.inr hc⟩
  ·exact (hs.2 b (Nat.ne_of_lt (Nat.lt_of_lt_of_le (Heap.lt_size e) (I.ok.cab x c hfn hc)))).trans (I.base.keep b o e n hb hx)
  ·obtain ⟨sl,e1⟩:=I.base.slot b o e n hb hx
   exact ⟨sl,(hs.2 b (Nat.ne_of_lt (Nat.lt_of_lt_of_le (Heap.lt_size e) (I.ok.cab x c hfn hc)))).trans e1⟩
  ·obtain ⟨o',e1⟩:=I.base.there b o e hx
   exact ⟨o',(hs.2 b (Nat.ne_of_lt (Nat.lt_of_lt_of_le (Heap.lt_size e) (I.ok.cab x c hfn hc)))).trans e1⟩
  ·by_cases hj:j=i
   ·subst hj
    rw [hi] at e1;cases e1
    rw [List.getElem?_set_self hiσ] at e2
    cases e2
    exact ⟨u,r,.inr ⟨.inl hk,c,hc,hc'⟩⟩
   ·rw [List.getElem?_set_ne (Ne.symm hj)] at e2
    obtain ⟨u',r',q⟩:=hl j y v' e1 e2 e3
    refine ⟨u',r',?_⟩
    rcases q with q | ⟨k,c',e,z'⟩
    ·exact .inl q
    ·refine .inr ⟨k,c',e,z'.sameBut hs ?_⟩
     rintro rfl
     exact hj (nodup_ix hN e1 (I.ok.inj _ _ _ e hc ▸ hi))
  ·by_cases hcc:c'=c
   ·subst hcc;exact ⟨_,hc'⟩
   ·obtain ⟨w2,z2⟩:=I.cell y c' e
    exact ⟨w2,z2.sameBut hs hcc⟩
  ·obtain ⟨e,n,ne,nf,d⟩:=I.pin p hp
   refine ⟨(hs.2 p.1 ?_).trans e,n,ne,nf,d⟩
   intro q
   rw [q,hoc] at e
   have q':oc=p.2:=Option.some.inj e
   exact d w' (by rw [←q'];exact hocd)
theorem store_ok {M:Model} {A:Around} {E:Value→Shared→Prop} {i:Nat} {x:Str} {v:V} {u:Value} {Q:Unit→Shared→Prop} (I:Inv X pins σ H s) (hN:X.N.Nodup) (hi:X.N[i]? = some x) (hx:Loc X.env.scope x) (r:RelV v u)
  (h:∀ s',Inv X pins (σ.set i (some v)) H s'→Q () s') (hf:X.fn x=true∨X.env.scope.names.lookup x=some .local:=by first | exact .inl rfl | exact .inr rfl | assumption) : wpAny M A (storeName X.env x u) Q E s :=
 store_ok2 I hN hi hx r (fun s' I' _=>h s' I') hf
theorem Inv.call' {s':Shared} {ch:List Addr} (I:Inv X pins σ H s) (ho:s'.os=s.os) (u:Un (frs X.stack) ch H H' s.heap s'.heap) (hok:HOk X.prog X.w H' s'.heap) (hg:AllBare s'.gens)
  (hch:∀ b∈ch,(b∈X.ex∨X.s_0.heap.objs.size≤b)∧b≠X.env.locals∧(∀ x c,X.env.cells.lookup x=some c→c≠b)∧∀ p∈X.pn ++ pins,p.1≠b) : Inv X pins σ H' s':=by
 obtain ⟨h',g',d',t',o'⟩:=s'
 have e:o'=s.os:=ho
 subst e
 exact I.call (g':=g') (t':=t') (d':=d') u hok hg hch
end
abbrev XK :=Value→Option Addr→Hp→Prop
abbrev St :=List (Option V)
abbrev VK :=V→Hp→Prop
abbrev TE :=St→Hp→VK→Prop
abbrev TT :=St→Hp→(Bool→Hp→Prop)→Prop
abbrev TA :=St→Hp→(List V→Hp→Prop)→Prop
structure Ends where
 nx:St→Hp→Prop
 rt:VK
 bk:St→Hp→Prop:=fun _ _=>False
 ct:St→Hp→Prop:=fun _ _=>False
abbrev TS :=Ends→St→Hp→Prop
def EP (X:Cx) (pins:List (Addr × Obj)) (σ:St) (Q:VK) (u:Value) (s':Shared) : Prop:=∃ v H',Inv X pins σ H' s'∧RelV v u∧Q v H'
def TP (X:Cx) (pins:List (Addr × Obj)) (σ:St) (Q:Bool→Hp→Prop) (b:Bool) (s':Shared) : Prop:=∃ H',Inv X pins σ H' s'∧Q b H'
def AP (X:Cx) (pins:List (Addr × Obj)) (σ:St) (Q:List V→Hp→Prop) (us:List Value) (s':Shared) : Prop:=∃ vs H',Inv X pins σ H' s'∧Vals vs us∧Q vs H'
def SP (X:Cx) (pins:List (Addr × Obj)) (D:Ends) (f:Flow) (s':Shared) : Prop :=
 match f with
 | .next=>∃ σ' H',Inv X pins σ' H' s'∧D.nx σ' H'
 | .brk=>∃ σ' H',Inv X pins σ' H' s'∧D.bk σ' H'
 | .cont=>∃ σ' H',Inv X pins σ' H' s'∧D.ct σ' H'
 | .ret u=>∃ v σ' H',Inv X pins σ' H' s'∧RelV v u∧D.rt v H'
def PE (X:Cx) (e:Expr) (t:TE) : Prop :=
 ∀ (pins:List (Addr × Obj)) (s:Shared) (σ:St) (H:Hp) (Q:VK),Inv X pins σ H s→t σ H Q→wpAny (model X.prog X.w) X.A (eval e X.env) (EP X pins σ Q) X.xe s
def PT (X:Cx) (e:Expr) (t:TT) : Prop :=
 ∀ (pins:List (Addr × Obj)) (s:Shared) (σ:St) (H:Hp) (Q:Bool→Hp→Prop),Inv X pins σ H s→t σ H Q→wpAny (model X.prog X.w) X.A (isTrue e X.env (eval e X.env)) (TP X pins σ Q) X.xe s
def PW (X:Cx) (e:Expr) (t:TT) : Prop :=
 ∀ (whole:Sem Value) (pins:List (Addr × Obj)) (s:Shared) (σ:St) (H:Hp) (Q:Bool→Hp→Prop),Inv X pins σ H s→t σ H Q→wpAny (model X.prog X.w) X.A (isTrue e X.env whole) (TP X pins σ Q) X.xe s
theorem PW.pt {X:Cx} {e:Expr} {t:TT} (h:PW X e t) : PT X e t:=h _
def PA (X:Cx) (es:List Expr) (t:TA) : Prop :=
 ∀ (pos:Pos) (pins:List (Addr × Obj)) (s:Shared) (σ:St) (H:Hp) (Q:List V→Hp→Prop),Inv X pins σ H s→t σ H Q→wpAny (model X.prog X.w) X.A (spliced (backTo pos (starEach es X.env))) (AP X pins σ Q) X.xe s
def PS (X:Cx) (st:Stmt) (t:TS) : Prop :=
 ∀ (pins:List (Addr × Obj)) (s:Shared) (σ:St) (H:Hp) (D:Ends),Inv X pins σ H s→t D σ H→wpAny (model X.prog X.w) X.A (exec st X.env) (SP X pins D) X.xe s
def PSs (X:Cx) (st:List Stmt) (t:TS) : Prop :=
 ∀ (pins:List (Addr × Obj)) (s:Shared) (σ:St) (H:Hp) (D:Ends),Inv X pins σ H s→t D σ H→wpAny (model X.prog X.w) X.A (execs st X.env) (SP X pins D) X.xe s
theorem thn {α:Type} {t:Sem α} {Q Q':α→Shared→Prop} {M:Model} {A:Around} {E:Value→Shared→Prop} {s:Shared} (h:wpAny M A t Q E s) (hQ:∀ a s,Q a s→Q' a s) : wpAny M A t Q' E s:=wpAny_mono h hQ fun _ _ x=>x
end L2
namespace L2
open PySem PySem.Spec PyProof.Rows
section
variable {X:Cx}
def onI (x:V) (p:Int→Prop) : Prop:=match x with | .int i=>p i | _=>False
def onB (x:V) (p:Bool→Prop) : Prop:=match x with | .bl i=>p i | _=>False
def onR (x:V) (p:Addr→Prop) : Prop:=match x with | .ref i=>p i | _=>False
def on0 (x:List V) (p:Prop) : Prop:=match x with | []=>p | _=>False
def on1 (x:List V) (p:V→Prop) : Prop:=match x with | [i]=>p i | _=>False
theorem onI_r {i:Int} {p:Int→Prop} : onI (.int i) p=p i:=rfl
theorem onB_r {i:Bool} {p:Bool→Prop} : onB (.bl i) p=p i:=rfl
theorem onR_r {i:Addr} {p:Addr→Prop} : onR (.ref i) p=p i:=rfl
theorem on0_r {p:Prop} : on0 [] p=p:=rfl
theorem on1_r {i:V} {p:V→Prop} : on1 [i] p=p i:=rfl
theorem onI_e {x:V} {p:Int→Prop} : onI x p=∃ i,x=.int i∧p i:=by cases x <;> simp [onI]
theorem onB_e {x:V} {p:Bool→Prop} : onB x p=∃ i,x=.bl i∧p i:=by cases x <;> simp [onB]
theorem onR_e {x:V} {p:Addr→Prop} : onR x p=∃ i,x=.ref i∧p i:=by cases x <;> simp [onR]
theorem on0_e {x:List V} {p:Prop} : on0 x p=(x=[]∧p):=by cases x <;> simp [on0]
theorem on1_e {x:List V} {p:V→Prop} : on1 x p=∃ i,x=[i]∧p i:=by rcases x with _ | ⟨a,_ | ⟨b,l⟩⟩ <;> simp [on1]
def tVar (i:Nat) : TE:=fun σ H Q=>match σ[i]? with | some (some v)=>Q v H | _=>False
theorem tVar_e {i:Nat} {σ:St} {H:Hp} {Q:VK} : tVar i σ H Q=∃ v,σ[i]? = some (some v)∧Q v H:=by unfold tVar;rcases σ[i]? with _ | _ | v <;> simp
theorem tVar_0 {v:V} {σ:St} {H:Hp} {Q:VK} : tVar 0 (some v :: σ) H Q=Q v H:=rfl
theorem tVar_s {i:Nat} {o:Option V} {σ:St} {H:Hp} {Q:VK} : tVar (i+1) (o :: σ) H Q=tVar i σ H Q:=rfl
def tC (v:V) : TE:=fun _ H Q=>Q v H
theorem pe_var {i:Nat} {x:Str} {pos:Pos} (hN:X.N[i]? = some x) (hv:Vis X.env.scope x) (hd:(x == ("__debug__" : Str))=false:=by decide) (hcd:(x == ("__classdict__" : Str))=false:=by decide) : PE X (.Name x pos) (tVar i):=by
 intro pins s σ H Q I h
 obtain ⟨v,e,h⟩:=tVar_e.mp h
 obtain ⟨m,hn,hl⟩:=I.loc
 obtain ⟨u,r,l⟩:=hl i x v hN e hv
 have fin:EP X pins σ Q u s:=⟨v,H,I,r,h⟩
 rcases l with ⟨hk,hm⟩ | ⟨hk,c,hc,hcell⟩
 ·exact wpAny_Name (wpAny_loadName_local I.ok.kind hk hn hm fin) hd
 ·rcases hk with hk | hk
  ·exact wpAny_Name (wpAny_loadName_cell I.ok.kind hk hc hcell fin) hd
  ·exact wpAny_Name (wpAny_loadName_free I.ok.kind hk hc hcell fin hcd) hd
theorem pe_int {i j pos}:PE X (.Constant (.int i) j pos) (tC (.int i)):=fun _ _ _ H _ I h=>wpAny_Constant_int ⟨.int i,H,I.tok _,⟨_,rfl⟩,h⟩
theorem pe_bl {b j pos}:PE X (.Constant (.bool b) j pos) (tC (.bl b)):=fun _ _ _ H _ I h=>Constant_bool ⟨.bl b,H,I,rfl,h⟩
theorem pe_non {j pos}:PE X (.Constant .none j pos) (tC .non):=fun _ _ _ H _ I h=>Constant_none ⟨.non,H,I,rfl,h⟩
theorem pe_str {x j pos}:PE X (.Constant (.str x) j pos) (tC (.str x)):=fun _ _ _ H _ I h=>Calls.Constant_str ⟨.str x,H,I.tok _,⟨_,rfl⟩,h⟩
def Gl (X:Cx) (x:Str) : Prop:=X.env.kindOf x=some .globalImplicit
theorem ld_glob {E:Value→Shared→Prop} {pins:List (Addr × Obj)} {s:Shared} {σ:St} {H:Hp} {x:Str} {u:Value} {pos:Pos} {Q:Value→Shared→Prop} (I:Inv X pins σ H s) (hg:Gl X x) (hm:X.mg x=some u) (h:Q u s)
  (hd:(x == ("__debug__" : Str))=false:=by decide) : wpAny (model X.prog X.w) X.A (eval (.Name x pos) X.env) Q E s :=
 Calls.Name_function_global I.ok.kind hg (Calls.loadGlobal_global (by rw [I.ok.glob];exact I.mod.glob.keeps I.bk) hm h) hd
theorem ld_blt {E:Value→Shared→Prop} {pins:List (Addr × Obj)} {s:Shared} {σ:St} {H:Hp} {x:Str} {u:Value} {pos:Pos} {Q:Value→Shared→Prop} (I:Inv X pins σ H s) (hg:Gl X x) (hm:X.mg x=none) (hv:bootBuiltins x=some u) (h:Q u s)
  (hn:x ≠ "__name__":=by decide) (hd:(x == ("__debug__" : Str))=false:=by decide) : wpAny (model X.prog X.w) X.A (eval (.Name x pos) X.env) Q E s:=by
 obtain ⟨mb,h1,h2⟩:=I.mod.blt
 exact Calls.Name_function_global I.ok.kind hg (Calls.loadGlobal_builtin (by rw [I.ok.glob];exact I.mod.glob.keeps I.bk) hm (by rw [I.ok.blt];exact h1.keeps I.bk) ((h2 x hn).trans hv) h) hd
theorem pe_glob {x:Str} {v:V} {u:Value} {pos:Pos} (hg:Gl X x) (hm:X.mg x=some u) (r:RelV v u) (hd:(x == ("__debug__" : Str))=false:=by decide) : PE X (.Name x pos) (tC v) :=
 fun _ _ _ H _ I h=>ld_glob I hg hm ⟨v,H,I,r,h⟩ hd
variable {a b:Expr} {ta tb:TE} {pos:Pos}
def PC (X:Cx) (op:CmpOp) (a b:Expr) (t:TE) : Prop :=
 ∀ (pins:List (Addr × Obj)) (s:Shared) (σ:St) (H:Hp) (Q:VK),Inv X pins σ H s→t σ H Q →
  wpAny (model X.prog X.w) X.A (eval a X.env) (fun v s₁=>wpAny (model X.prog X.w) X.A (eval b X.env) (fun u s₂=>wpAny (model X.prog X.w) X.A (compareOp op v u) (EP X pins σ Q) X.xe s₂) X.xe s₁) X.xe s
theorem nobehind (b:Expr) {op:CmpOp} (h:op≠.In) (h2:op≠.NotIn) : behindInMarks op b=false:=by
 have e1:(op == CmpOp.In)=false:=by cases op <;> first | rfl | exact absurd rfl h
 have e2:(op == CmpOp.NotIn)=false:=by cases op <;> first | rfl | exact absurd rfl h2
 cases b <;> simp [behindInMarks,e1,e2]
def tIsN (ta:TE) : TE:=fun σ H Q=>ta σ H fun x H1=>Q (.bl (decide (x=.non))) H1
theorem RelV.none_iff {x:V} {v:Value} (r:RelV x v) : (v == Value.none)=decide (x=.non):=by
 cases x with
 | non=>cases r;rfl
 | bl _=>cases r;rfl
 | int _=>obtain ⟨t,rfl⟩:=r;rfl
 | str _=>obtain ⟨t,rfl⟩:=r;rfl
 | byt _=>obtain ⟨t,rfl⟩:=r;rfl
 | flt _=>obtain ⟨t,rfl⟩:=r;rfl
 | ref _=>cases r;rfl
 | ty _=>cases r;rfl
theorem pc_isN {j pos'} (ha:PE X a ta) : PC X .Is a (.Constant .none j pos') (tIsN ta):=by
 intro pins s σ H Q I h
 refine thn (ha pins s σ H _ I h) fun v s1 ⟨x,H1,I1,r1,q1⟩=>?_
 exact Constant_none (is_none_gen ⟨.bl _,H1,I1,by rw [r1.none_iff];rfl,q1⟩)
def tB (t:TE) : TT:=fun σ H Q=>t σ H fun x H1=>onB x fun c=>Q c H1
theorem pe_cmp {op:CmpOp} {t:TE} (h:PC X op a b t) (h1:behindInMarks op b=false:=by first | exact nobehind _ (by decide) (by decide) | rfl) : PE X (.Compare a [op] [b] pos) t:=fun pins s σ H Q I hw=>wpAny_Compare1 (h pins s σ H Q I hw) h1
theorem pt_cmp {op:CmpOp} {t:TE} (h:PC X op a b t) (h1:behindInMarks op b=false:=by first | exact nobehind _ (by decide) (by decide) | rfl) : PT X (.Compare a [op] [b] pos) (tB t):=by
 intro pins s σ H Q I hw
 refine wpAny_isTrue_Compare1 (thn (h pins s σ H _ I hw) fun v s1 h1=>thn h1 fun u s2 h2=>thn h2 fun c s3 ⟨x,H1,I1,r1,q1⟩=>?_) h1
 obtain ⟨d,rfl,q⟩:=onB_e.mp q1
 cases r1
 exact wpAny_truthy_bool ⟨H1,I1,q⟩
theorem pt_val {e:Expr} {t:TE} (h:PE X e t) (he:∀ whole,isTrue e X.env whole=(do let v ←whole;standAt e.pos;holding [v] (truthy v)):=by intro _;rfl) : PT X e (tB t):=by
 intro pins s σ H Q I hw
 refine isTrue_plain (thn (h pins s σ H _ I hw) fun v s1 ⟨x,H1,I1,r1,q1⟩=>?_) (he _)
 obtain ⟨d,rfl,q⟩:=onB_e.mp q1
 cases r1
 exact wpAny_truthy_bool ⟨H1,I1,q⟩
variable {tA tB':TT} {rest:List Expr}
def tAnd (t u:TT) : TT:=fun σ H Q=>t σ H fun c H1=>if c=true then u σ H1 Q else Q false H1
def tOr (t u:TT) : TT:=fun σ H Q=>t σ H fun c H1=>if c=true then Q true H1 else u σ H1 Q
def tNot (t:TT) : TT:=fun σ H Q=>t σ H fun c H1=>Q (!c) H1
theorem pw_and1 (ha:PT X a tA) : PW X (.BoolOp .And [a] pos) tA:=by
 intro wh pins s σ H Q I h
 refine isTrue_and (thn (ha pins s σ H Q I h) fun c s1 e=>?_)
 cases c with
 | true=>exact isTrue_and_nil e
 | false=>exact e
theorem pw_or1 (ha:PT X a tA) : PW X (.BoolOp .Or [a] pos) tA:=by
 intro wh pins s σ H Q I h
 refine isTrue_or (thn (ha pins s σ H Q I h) fun c s1 e=>?_)
 cases c with
 | false=>exact isTrue_or_nil e
 | true=>exact e
theorem pw_and (ha:PT X a tA) (hb:PW X (.BoolOp .And (b :: rest) pos) tB') : PW X (.BoolOp .And (a :: b :: rest) pos) (tAnd tA tB'):=by
 intro wh pins s σ H Q I h
 refine isTrue_and (thn (ha pins s σ H _ I h) fun c s1 ⟨H1,I1,q1⟩=>?_)
 cases c with
 | true=>exact hb wh pins s1 σ H1 Q I1 q1
 | false=>exact ⟨H1,I1,q1⟩
theorem pw_or (ha:PT X a tA) (hb:PW X (.BoolOp .Or (b :: rest) pos) tB') : PW X (.BoolOp .Or (a :: b :: rest) pos) (tOr tA tB'):=by
 intro wh pins s σ H Q I h
 refine isTrue_or (thn (ha pins s σ H _ I h) fun c s1 ⟨H1,I1,q1⟩=>?_)
 cases c with
 | true=>exact ⟨H1,I1,q1⟩
 | false=>exact hb wh pins s1 σ H1 Q I1 q1
theorem pt_not (ha:PT X a tA) : PT X (.UnaryOp .Not a pos) (tNot tA):=by
 intro pins s σ H Q I h
 exact isTrue_not (ha pins s σ H (fun c H1=>Q (!c) H1) I h)
def tAndV (ta tb:TE) : TE:=fun σ H Q=>ta σ H fun x H1=>onB x fun c=>if c=true then tb σ H1 Q else Q (.bl false) H1
def tOrV (ta tb:TE) : TE:=fun σ H Q=>ta σ H fun x H1=>onB x fun c=>if c=true then Q (.bl true) H1 else tb σ H1 Q
theorem pe_one {op} {t:TE} (h:PE X a t) : PE X (.BoolOp op [a] pos) t:=fun pins s σ H Q I hw=>BoolOp_one (h pins s σ H Q I hw)
theorem pe_and (ha:PE X a ta) (hb:PE X (.BoolOp .And (b :: rest) pos) tb) : PE X (.BoolOp .And (a :: b :: rest) pos) (tAndV ta tb):=by
 intro pins s σ H Q I h
 refine BoolOp_and (thn (ha pins s σ H _ I h) fun v s1 ⟨x,H1,I1,r1,q1⟩=>?_)
 obtain ⟨c,rfl,q1⟩:=onB_e.mp q1
 cases r1
 refine wpAny_truthy_bool ?_
 cases c with
 | true=>exact hb pins s1 σ H1 Q I1 q1
 | false=>exact ⟨.bl false,H1,I1,rfl,q1⟩
theorem pe_or (ha:PE X a ta) (hb:PE X (.BoolOp .Or (b :: rest) pos) tb) : PE X (.BoolOp .Or (a :: b :: rest) pos) (tOrV ta tb):=by
 intro pins s σ H Q I h
 refine BoolOp_or (thn (ha pins s σ H _ I h) fun v s1 ⟨x,H1,I1,r1,q1⟩=>?_)
 obtain ⟨c,rfl,q1⟩:=onB_e.mp q1
 cases r1
 refine wpAny_truthy_bool ?_
 cases c with
 | false=>exact hb pins s1 σ H1 Q I1 q1
 | true=>exact ⟨.bl true,H1,I1,rfl,q1⟩
def tIf (t:TT) (ta tb:TE) : TE:=fun σ H Q=>t σ H fun c H1=>if c=true then ta σ H1 Q else tb σ H1 Q
theorem pe_ifExp {c:Expr} (hc:PT X c tA) (ha:PE X a ta) (hb:PE X b tb) : PE X (.IfExp c a b pos) (tIf tA ta tb):=by
 intro pins s σ H Q I h
 refine wpAny_IfExp (thn (hc pins s σ H _ I h) fun d s1 ⟨H1,I1,q1⟩=>?_)
 cases d with
 | true=>exact ha pins s1 σ H1 Q I1 q1
 | false=>exact hb pins s1 σ H1 Q I1 q1
end
end L2
namespace L2
open PySem PySem.Spec PyProof.Rows
def SqL (K:PySem.W.Frag) (H:Hp) (a:Addr) (xs:List V) : Prop :=
 Rd H a (.lst xs) ∨
  ∃ (o:Obj) (its:Array Value) (n:Nat),K.lookup a=some o∧o.cls=.type "list"∧o.dict=none∧o.data=.seq its n∧its.size≤sizeLine∧Vals xs its.toList
def SqT (K:PySem.W.Frag) (H:Hp) (a:Addr) (xs:List V) : Prop :=
 Rd H a (.tup xs) ∨
  ∃ (o:Obj) (its:Array Value) (n:Nat),K.lookup a=some o∧o.cls=.type "tuple"∧o.data=.seq its n∧its.size≤sizeLine∧Vals xs its.toList
def absV :Value→Option V
 | .none=>some .non
 | .bool b=>some (.bl b)
 | .int i _=>some (.int i)
 | .str x _=>some (.str x)
 | .bytes b _=>some (.byt b)
 | .float b _=>some (.flt b)
 | .ref a=>some (.ref a)
 | .type n=>some (.ty n)
 | _=>none
theorem RelV.abs {x:V} {u:Value} (r:RelV x u) : absV u=some x:=by
 cases x with
 | non=>cases r;rfl
 | bl _=>cases r;rfl
 | int _=>obtain ⟨t,rfl⟩:=r;rfl
 | str _=>obtain ⟨t,rfl⟩:=r;rfl
 | byt _=>obtain ⟨t,rfl⟩:=r;rfl
 | flt _=>obtain ⟨t,rfl⟩:=r;rfl
 | ref _=>cases r;rfl
 | ty _=>cases r;rfl
theorem RelV.inj {x y:V} {u:Value} (r:RelV x u) (q:RelV y u) : x=y:=Option.some.inj (r.abs.symm.trans q.abs)
theorem Vals.inj :∀ {xs ys:List V} {us:List Value},Vals xs us→Vals ys us→xs=ys
 | _,_,_,.nil,.nil=>rfl
 | _,_,_,.cons r t,.cons r' t'=>by rw [r.inj r',Vals.inj t t']
section
variable {X:Cx} {pins:List (Addr × Obj)} {σ:St} {H:Hp} {s:Shared} {a:Addr} {xs ys:List V}
theorem SqL.of {K:PySem.W.Frag} (h:H a=some (.lst xs)) : SqL K H a xs:=.inl (.inl h)
theorem SqT.of {K:PySem.W.Frag} (h:H a=some (.tup xs)) : SqT K H a xs:=.inl (.inl h)
theorem Inv.list (I:Inv X pins σ H s) (h:SqL X.K H a xs) : ∃ its:List Value,Vals xs its∧PlainL s.heap a its.toArray∧xs.length≤sizeLine:=by
 rcases h with h | ⟨o,its,n,hk,hc,hd,hs,hz,r⟩
 ·obtain ⟨z,its,n,r,e⟩:=h.ok I.hok
  exact ⟨its,r,⟨_,n,e,rfl,rfl,rfl⟩,z⟩
 ·refine ⟨its.toList,r,⟨o,n,I.kIn a o hk,hc,hd,by simpa using hs⟩,?_⟩
  have e:=r.length
  simp only [Array.length_toList] at e
  omega
theorem Inv.tuple (I:Inv X pins σ H s) (h:SqT X.K H a xs) : ∃ its:List Value,Vals xs its∧IsTup s.heap a its.toArray∧xs.length≤sizeLine:=by
 rcases h with h | ⟨o,its,n,hk,hc,hs,hz,r⟩
 ·obtain ⟨z,its,r,p⟩:=h.ok I.hok
  exact ⟨its,r,p,z⟩
 ·refine ⟨its.toList,r,⟨o,I.kIn a o hk,hc,n,by simpa using hs⟩,?_⟩
  have e:=r.length
  simp only [Array.length_toList] at e
  omega
theorem Inv.list_inj (I:Inv X pins σ H s) (h:SqL X.K H a xs) (h':SqL X.K H a ys) : xs=ys:=by
 obtain ⟨its,r,⟨o,n,e,_,_,d⟩,_⟩:=I.list h
 obtain ⟨its',r',⟨o',n',e',_,_,d'⟩,_⟩:=I.list h'
 rw [e] at e';cases e'
 rw [d] at d'
 injection d' with d1 _
 have:its=its':=by simpa using congrArg Array.toList d1
 subst this
 exact r.inj r'
theorem Inv.tuple_inj (I:Inv X pins σ H s) (h:SqT X.K H a xs) (h':SqT X.K H a ys) : xs=ys:=by
 obtain ⟨its,r,⟨o,e,_,n,d⟩,_⟩:=I.tuple h
 obtain ⟨its',r',⟨o',e',_,n',d'⟩,_⟩:=I.tuple h'
 rw [e] at e';cases e'
 rw [d] at d'
 injection d' with d1 _
 have:its=its':=by simpa using congrArg Array.toList d1
 subst this
 exact r.inj r'
end
abbrev Cx.wish (X:Cx) (E:Value→Shared→Prop) : Cx:={ X with xe:=E }
abbrev Cx.nox (X:Cx) : Cx:=X.wish fun _ _=>False
theorem Cx.Ok.wish {X:Cx} (ok:X.Ok) (E:Value→Shared→Prop) : (X.wish E).Ok :=
 ⟨ok.mod,ok.kind,ok.glob,ok.blt,ok.above,ok.inj,ok.has,ok.cab,ok.hd,ok.frames,ok.stk,ok.exf,ok.bs,ok.bsz,ok.noex,ok.exfs,ok.funs,ok.frf⟩
theorem Cx.Ok.unwish {X:Cx} {E:Value→Shared→Prop} (ok:(X.wish E).Ok) : X.Ok :=
 ⟨ok.mod,ok.kind,ok.glob,ok.blt,ok.above,ok.inj,ok.has,ok.cab,ok.hd,ok.frames,ok.stk,ok.exf,ok.bs,ok.bsz,ok.noex,ok.exfs,ok.funs,ok.frf⟩
section
variable {X:Cx} {pins:List (Addr × Obj)} {σ:St} {H:Hp} {s:Shared} {E:Value→Shared→Prop}
theorem Inv.wish (I:Inv X pins σ H s) (E:Value→Shared→Prop) : Inv (X.wish E) pins σ H s:=⟨I.ok.wish E,I.os,I.bare,I.base,I.loc,I.cell,I.free,I.freeC,I.pin,I.hok,I.len⟩
theorem Inv.unwish (I:Inv (X.wish E) pins σ H s) : Inv X pins σ H s:=⟨I.ok.unwish,I.os,I.bare,I.base,I.loc,I.cell,I.free,I.freeC,I.pin,I.hok,I.len⟩
theorem SP.unwish {D:Ends} {f:Flow} {s':Shared} (h:SP (X.wish E) pins D f s') : SP X pins D f s':=by
 cases f with
 | next=>obtain ⟨σ',H',I,q⟩:=h;exact ⟨σ',H',I.unwish,q⟩
 | brk=>obtain ⟨σ',H',I,q⟩:=h;exact ⟨σ',H',I.unwish,q⟩
 | cont=>obtain ⟨σ',H',I,q⟩:=h;exact ⟨σ',H',I.unwish,q⟩
 | ret u=>obtain ⟨v,σ',H',I,r,q⟩:=h;exact ⟨v,σ',H',I.unwish,r,q⟩
theorem PSs.nox {st:List Stmt} {t:TS} (h:PSs X.nox st t) : PSs X st t:=fun pins s σ H D I hw =>
 wpAny_mono (h pins s σ H D (I.wish _) hw) (fun _ _ q=>q.unwish) fun _ _ z=>False.elim z
end
section
variable {X:Cx} {st:Stmt} {rest:List Stmt} {t u:TS} {e:Expr} {te:TE} {pos:Pos}
def tNext :TS:=fun D σ H=>D.nx σ H
def tSeq (t u:TS) : TS:=fun D σ H=>t { D with nx:=u D } σ H
theorem pss_nil :PSs X [] tNext:=fun _ _ σ H _ I h=>wpAny_execs_nil ⟨σ,H,I,h⟩
theorem pss_cons (h1:PS X st t) (h2:PSs X rest u) : PSs X (st :: rest) (tSeq t u):=by
 intro pins s σ H D I h
 refine wpAny_execs_cons (thn (h1 pins s σ H { D with nx:=u D } I h) fun f s1 q=>?_)
 cases f with
 | next =>
  obtain ⟨σ',H',I',q⟩:=q
  exact h2 pins s1 σ' H' D I' q
 | ret v=>exact q
 | brk=>exact q
 | cont=>exact q
theorem pss_one (h1:PS X st t) : PSs X [st] t:=by
 intro pins s σ H D I h
 refine wpAny_execs_cons (thn (h1 pins s σ H D I h) fun f s1 q=>?_)
 cases f with
 | next=>exact wpAny_execs_nil q
 | ret v=>exact q
 | brk=>exact q
 | cont=>exact q
theorem Inv.quiet {pins:List (Addr × Obj)} {σ:St} {H:Hp} {s:Shared} (I:Inv X pins σ H s) : interactive X.env=false:=by simp [interactive,I.ok.kind]
def tDrop (te:TE) : TS:=fun D σ H=>te σ H fun _ H1=>D.nx σ H1
theorem ps_expr (he:PE X e te) (hs:swapsWith e none pos.line X.env=pure false:=by rfl) : PS X (.Expr e pos) (tDrop te):=by
 intro pins s σ H D I h
 exact wpAny_Expr_any (thn (he pins s σ H _ I h) fun v s1 ⟨x,H1,I1,r1,q1⟩=>⟨σ,H1,I1,q1⟩) I.quiet hs
def tRet (te:TE) : TS:=fun D σ H=>te σ H D.rt
theorem ps_ret (he:PE X e te) : PS X (.Return (some e) pos) (tRet te):=by
 intro pins s σ H D I h
 exact wpAny_Return_some (thn (he pins s σ H _ I h) fun v s1 ⟨x,H1,I1,r1,q1⟩=>⟨x,σ,H1,I1,r1,q1⟩)
def tRetN :TS:=fun D _ H=>D.rt .non H
theorem ps_retN :PS X (.Return none pos) tRetN:=fun _ _ σ H _ I h=>wpAny_Return_none ⟨.non,σ,H,I,rfl,h⟩
def tIfS (c:TT) (t u:TS) : TS:=fun D σ H=>c σ H fun b H1=>if b=true then t D σ H1 else u D σ H1
theorem ps_if {c:Expr} {a b:List Stmt} {tc:TT} (hc:PT X c tc) (ha:PSs X a t) (hb:PSs X b u) : PS X (.If c a b pos) (tIfS tc t u):=by
 intro pins s σ H D I h
 refine wpAny_If (thn (hc pins s σ H _ I h) fun d s1 ⟨H1,I1,q1⟩=>?_)
 cases d with
 | true=>exact ha pins s1 σ H1 D I1 q1
 | false=>exact hb pins s1 σ H1 D I1 q1
end
abbrev TG :=V→St→Hp→(St→Hp→Prop)→Prop
abbrev TGs :=List V→St→Hp→(St→Hp→Prop)→Prop
def PG (X:Cx) (target:Expr) (t:TG) : Prop :=
 ∀ (pins:List (Addr × Obj)) (s:Shared) (σ:St) (H:Hp) (v:V) (u:Value) (Q:St→Hp→Prop),Inv X pins σ H s→RelV v u→t v σ H Q →
  wpAny (model X.prog X.w) X.A (assign target X.env u) (fun _ s'=>∃ σ' H',Inv X pins σ' H' s'∧Q σ' H') X.xe s
def PGs (X:Cx) (ts:List Expr) (t:TGs) : Prop :=
 ∀ (pins:List (Addr × Obj)) (s:Shared) (σ:St) (H:Hp) (vs:List V) (us:List Value) (Q:St→Hp→Prop),Inv X pins σ H s→Vals vs us→t vs σ H Q →
  wpAny (model X.prog X.w) X.A (assignInOrder ((assignEach ts X.env).map (·.2)) us) (fun _ s'=>∃ σ' H',Inv X pins σ' H' s'∧Q σ' H') X.xe s
abbrev TSet :=V→V→V→Hp→(Hp→Prop)→Prop
def PSet (X:Cx) (t:TSet) : Prop :=
 ∀ (pins:List (Addr × Obj)) (s:Shared) (σ:St) (H:Hp) (o i v:V) (ov iv u:Value) (Q:Hp→Prop),Inv X pins σ H s→RelV o ov→RelV i iv→RelV v u→t o i v H Q →
  wpAny (model X.prog X.w) X.A (setItem ov iv u) (fun _ s'=>∃ H',Inv X pins σ H' s'∧Q H') X.xe s
abbrev TIp :=V→V→Hp→VK→Prop
def PIp (X:Cx) (op:Operator) (t:TIp) : Prop :=
 ∀ (pins:List (Addr × Obj)) (s:Shared) (σ:St) (H:Hp) (x y:V) (v u:Value) (Q:VK),Inv X pins σ H s→RelV x v→RelV y u→t x y H Q →
  wpAny (model X.prog X.w) X.A (inplaceOp op v u) (EP X pins σ Q) X.xe s
section
variable {X:Cx} {pos:Pos}
def gName (i:Nat) : TG:=fun v σ H Q=>Q (σ.set i (some v)) H
theorem pg_name {i:Nat} {x:Str} (hN:X.N.Nodup) (hi:X.N[i]? = some x) (hx:Loc X.env.scope x) (hf:X.fn x=true∨X.env.scope.names.lookup x=some .local:=by first | exact .inl rfl | exact .inr rfl | assumption) : PG X (.Name x pos) (gName i):=by
 intro pins s σ H v u Q I r h
 exact wpAny_assign_Name (store_ok I hN hi hx r (fun s' I'=>⟨_,H,I',h⟩) hf)
def gNil :TGs:=fun vs σ H Q=>vs=[]∧Q σ H
def gCons (t:TG) (u:TGs) : TGs:=fun vs σ H Q=>∃ v r,vs=v :: r∧t v σ H fun σ' H'=>u r σ' H' Q
theorem pgs_nil :PGs X [] gNil:=by
 intro pins s σ H vs us Q I r h
 obtain ⟨e,h⟩:=h
 subst e
 cases r
 exact assignInOrder_nil ⟨σ,H,I,h⟩
theorem pgs_cons {e:Expr} {es:List Expr} {t:TG} {u:TGs} (h1:PG X e t) (h2:PGs X es u)
  (hs:(assignEach (e :: es) X.env).map (·.2)=assign e X.env :: (assignEach es X.env).map (·.2):=by rfl) : PGs X (e :: es) (gCons t u):=by
 intro pins s σ H vs us Q I r h
 obtain ⟨v,vr,e1,h⟩:=h
 subst e1
 cases r with
 | cons r rr =>
  rw [hs]
  refine assignInOrder_cons (thn (h1 pins s σ H _ _ _ I r h) fun _ s1 ⟨σ1,H1,I1,q1⟩=>?_)
  exact h2 pins s1 σ1 H1 _ _ Q I1 rr q1
def gTup (K:PySem.W.Frag) (n:Nat) (t:TGs) : TG:=fun v σ H Q=>∃ a xs,v=.ref a∧SqT K H a xs∧xs.length=n∧t xs σ H Q
theorem pg_tup {es:List Expr} {k:Nat} {t:TGs} {n:Nat} (hc:X.calm=true) (h:PGs X es t)
  (hn:(assignEach es X.env).length=n:=by rfl) (hst:(assignEach es X.env).findIdx? (·.1)=none:=by rfl) : PG X (.Tuple es k pos) (gTup X.K n t):=by
 intro pins s σ H v u Q I r hw
 obtain ⟨a,xs,e1,hq,hl,hw⟩:=hw
 subst e1
 cases r
 obtain ⟨its,rv,ht,hz⟩:=I.tuple hq
 refine assign_Tuple_tuple (I.ok.hd hc) ht (by simp [hn,←hl,rv.length]) hst fun h' hx=>?_
 have I1:Inv X pins σ H { s with heap:=h' }:=I.kept (t':=s.toks) fun b o e=>hx b o (Nat.ne_of_lt (Heap.lt_size e)) e
 exact h pins _ σ H xs _ Q I1 (by simpa using rv) hw
def gSub (to ti:TE) (t:TSet) : TG:=fun v σ H Q=>to σ H fun o H1=>ti σ H1 fun i H2=>t o i v H2 fun H3=>Q σ H3
theorem pg_sub {o i:Expr} {to ti:TE} {t:TSet} (ho:PE X o to) (hi:PE X i ti) (hs:PSet X t)
  (ha:∀ v,assign (.Subscript o i pos) X.env v=(do
   let ov ←holding [v] (eval o X.env)
   let iv ←holding [v,ov] (eval i X.env)
   standAt pos
   holding [v,ov,iv] (setItem ov iv v)
   release [v,ov,iv] []):=by intro _;rfl) : PG X (.Subscript o i pos) (gSub to ti t):=by
 intro pins s σ H v u Q I r h
 rw [ha]
 refine wpAny_bind (wpAny_holding (thn (ho pins s σ H _ I h) fun ov s1 ⟨x,H1,I1,r1,q1⟩=>?_))
 refine wpAny_bind (wpAny_holding (thn (hi pins s1 σ H1 _ I1 q1) fun iv s2 ⟨y,H2,I2,r2,q2⟩=>?_))
 refine wpAny_bind (wpAny_standAt (wpAny_bind (wpAny_holding (thn (hs pins s2 σ H2 x y v ov iv u _ I2 r1 r2 r q2) fun _ s3 ⟨H3,I3,q3⟩=>?_))))
 exact wpAny_release ⟨σ,H3,I3,q3⟩
def tAsg (te:TE) (g:TG) : TS:=fun D σ H=>te σ H fun x H1=>g x σ H1 D.nx
theorem ps_asg {tg e:Expr} {te:TE} {g:TG} (he:PE X e te) (hg:PG X tg g) (hs:swapsWithSole [tg] e pos.line X.env=pure false:=by rfl) (hw:swappedStores [tg] e X.env=pure none:=by rfl)
  (h1:(assignEach [tg] X.env).map (·.2)=[assign tg X.env]:=by rfl) : PS X (.Assign [tg] e pos) (tAsg te g):=by
 intro pins s σ H D I h
 refine wpAny_Assign_stores (thn (he pins s σ H _ I h) fun v s1 ⟨x,H1,I1,r1,q1⟩=>?_) hs hw
 rw [h1]
 exact thn (hg pins s1 σ H1 x v _ I1 r1 q1) fun _ s2 q=>q
theorem ps_set {i:Nat} {x:Str} {e:Expr} {te:TE} {pos':Pos} (hN:X.N.Nodup) (hi:X.N[i]? = some x) (hx:Loc X.env.scope x) (he:PE X e te) (hs:swapsWith e (some (.Name x pos')) pos.line X.env=pure false:=by rfl) (hf:X.fn x=true∨X.env.scope.names.lookup x=some .local:=by first | exact .inl rfl | exact .inr rfl | assumption) :
  PS X (.Assign [.Name x pos'] e pos) (tAsg te (gName i)):=by
 intro pins s σ H D I h
 refine wpAny_Assign_Name (thn (he pins s σ H _ I h) fun v s1 ⟨y,H1,I1,r1,q1⟩=>?_) hs
 exact store_ok I1 hN hi hx r1 (fun s2 I2=>⟨_,H1,I2,q1⟩) hf
theorem gName_0 {v:V} {o:Option V} {σ:St} {H:Hp} {Q:St→Hp→Prop} : gName 0 v (o :: σ) H Q=Q (some v :: σ) H:=rfl
theorem gName_s {i:Nat} {v:V} {o:Option V} {σ:St} {H:Hp} {Q:St→Hp→Prop} : gName (i+1) v (o :: σ) H Q=gName i v σ H fun σ' H'=>Q (o :: σ') H':=rfl
theorem gName_e {i:Nat} {v:V} {σ:St} {H:Hp} {Q:St→Hp→Prop} : gName i v σ H Q=Q (σ.set i (some v)) H:=rfl
def tAug (i:Nat) (te:TE) (ti:TIp) : TS:=fun D σ H=>tVar i σ H fun x _=>te σ H fun y H1=>ti x y H1 fun z H2=>gName i z σ H2 D.nx
theorem ps_aug {i:Nat} {x:Str} {e:Expr} {te:TE} {op:Operator} {ti:TIp} {pos':Pos} (hN:X.N.Nodup) (hi:X.N[i]? = some x) (hx:Loc X.env.scope x) (he:PE X e te) (ho:PIp X op ti) (hf:X.fn x=true∨X.env.scope.names.lookup x=some .local:=by first | exact .inl rfl | exact .inr rfl | assumption) :
  PS X (.AugAssign (.Name x pos') op e pos) (tAug i te ti):=by
 intro pins s σ H D I h
 obtain ⟨v,e1,h⟩:=tVar_e.mp h
 obtain ⟨m,hn,hl⟩:=I.loc
 have vis:Vis X.env.scope x:=by rcases hx with k | k;exact .inl k;exact .inr (.inl k)
 obtain ⟨u,r,l⟩:=hl i x v hi e1 vis
 refine wpAny_AugAssign_Name ?_
 have go:wpAny (model X.prog X.w) X.A (eval e X.env) (fun w s₂=>wpAny (model X.prog X.w) X.A (inplaceOp op u w) (fun r s₃=>wpAny (model X.prog X.w) X.A (storeName X.env x r) (fun _=>SP X pins D .next) X.xe s₃) X.xe s₂) X.xe s:=by
  refine thn (he pins s σ H _ I h) fun w s1 ⟨y,H1,I1,r1,q1⟩=>?_
  refine thn (ho pins s1 σ H1 v y u w _ I1 r r1 q1) fun z s2 ⟨zv,H2,I2,r2,q2⟩=>?_
  exact store_ok I2 hN hi hx r2 (fun s3 I3=>⟨_,H2,I3,q2⟩) hf
 rcases l with ⟨hk,hm⟩ | ⟨hk,c,hc,hcell⟩
 ·exact wpAny_loadName_local I.ok.kind hk hn hm go
 ·rcases hk with hk | hk
  ·exact wpAny_loadName_cell I.ok.kind hk hc hcell go
  ·rcases hx with k | k
   ·have:X.env.scope.names.lookup x=some .free:=hk
    rw [k] at this;cases this
   ·have:X.env.scope.names.lookup x=some .free:=hk
    rw [k] at this;cases this
def ipI (f:Int→Int→Int) : TIp:=fun x y H Q=>onI x fun i=>onI y fun j=>Q (.int (f i j)) H
theorem ip_add :PIp X .Add (ipI fun i j=>i+j):=by
 intro pins s σ H x y v u Q I r1 r2 h
 obtain ⟨i,rfl,h2⟩:=onI_e.mp h
 obtain ⟨j,rfl,q⟩:=onI_e.mp h2
 obtain ⟨t,rfl⟩:=r1
 obtain ⟨t',rfl⟩:=r2
 exact iadd_int ⟨.int _,H,I.tok _,⟨_,rfl⟩,q⟩
end
section
variable {X:Cx} {pos:Pos}
def tWhile (c:TT) (tb:TS) : TS:=fun D σ H=>∃ W:Nat→St→Hp→Prop,(∃ m,W m σ H)∧∀ m σ H,W m σ H →
 c σ H fun b H1=>if b=true then ∃ N:St→Hp→Prop,(∀ σ' H',N σ' H'→∃ m',m' < m∧W m' σ' H')∧tb { D with nx:=N,ct:=N,bk:=D.nx } σ H1 else D.nx σ H1
theorem ps_while {c:Expr} {body:List Stmt} {tc:TT} {tb:TS} (hp:PassesOwn (model X.prog X.w) X.A X.env X.xe) (hc:PT X c tc) (hb:PSs X body tb) : PS X (.While c body [] pos) (tWhile tc tb):=by
 intro pins s σ H D I h
 obtain ⟨W,⟨m0,w0⟩,turn⟩:=h
 refine wpAny_While (codeAny_whileLoop (fun n s'=>∃ σ' H',Inv X pins σ' H' s'∧W n σ' H') ?_ m0 ⟨σ,H,I,w0⟩)
 rintro n s1 ⟨σ1,H1,I1,w1⟩
 refine wpAny_passesOwn hp (thn (hc pins s1 σ1 H1 _ I1 (turn n σ1 H1 w1)) fun b s2 ⟨H2,I2,q2⟩=>?_)
 cases b with
 | true =>
  obtain ⟨N,hN,q2⟩:=q2
  rw [if_pos rfl]
  refine wpAny_passesOwn hp (thn (hb pins s2 σ1 H2 _ I2 q2) fun f s3 q3=>?_)
  cases f with
  | next =>
   obtain ⟨σ3,H3,I3,n3⟩:=q3
   obtain ⟨m',hm,w3⟩:=hN σ3 H3 n3
   exact ⟨m',hm,σ3,H3,I3,w3⟩
  | cont =>
   obtain ⟨σ3,H3,I3,n3⟩:=q3
   obtain ⟨m',hm,w3⟩:=hN σ3 H3 n3
   exact ⟨m',hm,σ3,H3,I3,w3⟩
  | brk=>exact q3
  | ret v=>exact q3
 | false =>
  rw [if_neg Bool.false_ne_true]
  exact wpAny_execs_nil ⟨σ1,H2,I2,q2⟩
end
structure It where
 go:Nat→Hp→Prop
 yld:Nat→Hp→V→Hp→Prop
 stop:Nat→Hp→Prop
def FpOk (X:Cx) (pins:List (Addr × Obj)) (H:Hp) (b:Addr) : Prop :=
 H b=none∧b≠X.env.locals∧b∉X.fs∧(b∈X.ex∨X.s_0.heap.objs.size≤b)∧(∀ x c,X.env.cells.lookup x=some c→c≠b)∧∀ p∈X.pn ++ pins,p.1≠b
theorem Inv.fpOk {X:Cx} {pins:List (Addr × Obj)} {σ:St} {H H':Hp} {s:Shared} {b:Addr} (I:Inv X pins σ H s) (hb:s.heap.objs.size≤b) (hn:H' b=none) : FpOk X pins H' b:=by
 refine ⟨hn,Nat.ne_of_gt (Nat.lt_of_lt_of_le I.lt hb),I.nofs hb,.inr (Nat.le_trans I.sz hb),fun x c e z=>?_,fun p hp z=>?_⟩
 ·obtain ⟨v,q⟩:=I.cell x c e
  exact absurd (Nat.lt_of_lt_of_le q.lt (by rw [z];exact hb)) (Nat.lt_irrefl _)
 ·exact absurd (Nat.lt_of_lt_of_le (Heap.lt_size (I.pin p hp).1) (by rw [z];exact hb)) (Nat.lt_irrefl _)
structure Turn (P:Program) (w:World) (K:PySem.W.Frag) (tg:Expr) (J:It) (fp:List Addr) (it:Addr) (tn:Nat→Heap→Prop) : Prop where
 mem:it∈fp
 obj:∀ i h,tn i h→∀ b∈fp,∃ o,h.get? b=some o∧∀ v,o.data≠.cell v
 keep:∀ i h h',tn i h→(∀ b∈fp,∀ o,h.get? b=some o→h'.get? b=some o)→tn i h'
 item:∀ (X:Cx),X.prog=P→X.w=w→X.K=K→X.calm=true→∀ (i:Nat) (pins:List (Addr × Obj)) (s:Shared) (σ:St) (H:Hp) (E:Value→Shared→Prop),Inv X pins σ H s→(∀ b∈fp,FpOk X pins H b)→tn i s.heap→J.go i H →
  wpAny (model P w) X.A (pyNext (.ref it)) (fun r s1=>∃ u,r=some u ∧
   wpAny (model P w) X.A (letOwnedTupleGo tg (.ref it) u) (fun _ s2=>∃ x H',Inv X pins σ H' s2∧RelV x u∧J.yld i H x H'∧tn (i+1) s2.heap∧∀ b∈fp,H' b=none) E s1) E s
 done:∀ (X:Cx),X.prog=P→X.w=w→X.K=K→X.calm=true→∀ (i:Nat) (pins:List (Addr × Obj)) (s:Shared) (σ:St) (H:Hp) (E:Value→Shared→Prop),Inv X pins σ H s→(∀ b∈fp,FpOk X pins H b)→tn i s.heap→J.stop i H →
  wpAny (model P w) X.A (pyNext (.ref it)) (fun r s1=>r=none∧Inv X pins σ H s1) E s
 self:∀ (A:Around) (i:Nat) (s:Shared) (Q:Value→Shared→Prop) (E:Value→Shared→Prop),tn i s.heap→Q (.ref it) s→wpAny (model P w) A (pyIter (.ref it)) Q E s
abbrev TI :=St→Hp→(It→Hp→Prop)→Prop
def PIE (X:Cx) (pins:List (Addr × Obj)) (σ:St) (tg:Expr) (R:It→Hp→Prop) (itv:Value) (s2:Shared) : Prop :=
 ∃ (it:Addr) (fp:List Addr) (tn:Nat→Heap→Prop) (J:It) (H':Hp),itv=.ref it∧Inv X pins σ H' s2∧Turn X.prog X.w X.K tg J fp it tn∧tn 0 s2.heap∧(∀ b∈fp,FpOk X pins H' b)∧R J H'
def PI (X:Cx) (tg iter:Expr) (wi:TI) : Prop :=
 ∀ (pins:List (Addr × Obj)) (s:Shared) (σ:St) (H:Hp) (R:It→Hp→Prop),Inv X pins σ H s→wi σ H R →
  wpAny (model X.prog X.w) X.A (eval iter X.env) (fun v s1=>wpAny (model X.prog X.w) X.A (pyIter v) (PIE X pins σ tg R) X.xe s1) X.xe s
theorem go_of {M:Model} {A:Around} {E:Value→Shared→Prop} {s:Shared} {tg:Expr} {it:Addr} {u:Value} {o:Obj} {n:String} {vs:Array Value} {Q:Unit→Shared→Prop} (ho:s.heap.get? it=some o) (hc:o.cls=.type n) (hd:o.data=.fields vs)
  (hn : ["enumerate","zip","dict_itemiterator","dict_reverseitemiterator","odict_iterator","itertools.zip_longest","itertools.pairwise"].contains n=false) (hQ:Q () s) : wpAny M A (letOwnedTupleGo tg (.ref it) u) Q E s:=by
 unfold letOwnedTupleGo
 cases tg <;> first
  | exact wpAny_pure hQ
  | (cases u <;> first
    | exact wpAny_pure hQ
    | (refine wpAny_bind (wpAny_load ho ?_)
       rw [hc,hd]
       show wpAny M A (if (["enumerate","zip","dict_itemiterator","dict_reverseitemiterator","odict_iterator","itertools.zip_longest","itertools.pairwise"].contains n && vs[0]? == some (rawInt _))=true then _ else _) Q E s
       rw [if_neg (by intro h;rw [hn,Bool.false_and] at h;cases h)]
       exact wpAny_pure hQ))
def Itl (K:PySem.W.Frag) (a:Addr) : It :=
 ⟨fun i H=>∃ xs x,SqL K H a xs∧xs[i]? = some x,fun i H x H'=>H'=H∧∀ xs,SqL K H a xs→xs[i]? = some x,fun i H=>∃ xs,SqL K H a xs∧xs.length≤i⟩
def Itr (lo:Int) (n:Nat) : It:=⟨fun i _=>i < n,fun i H x H'=>H'=H∧x=.int (lo+i),fun i _=>n≤i⟩
theorem turn_list {P:Program} {w:World} {K:PySem.W.Frag} {tg:Expr} (a it:Addr) : Turn P w K tg (Itl K a) [it] it (fun i h=>h.IsListIter it a i) where
 mem:=by simp
 obj:=fun i h st b hb=>by
  have e:b=it:=by simpa using hb
  subst e
  obtain ⟨o,e,c,d⟩:=st
  exact ⟨o,e,fun v z=>by rw [d] at z;cases z⟩
 keep:=fun i h h' st k=>st.at fun o e=>k it (by simp) o e
 item:=by
  intro X hP hw hK hc i pins s σ H E I hf st hg
  subst hP hw hK
  obtain ⟨xs,x,hq,hx⟩:=hg
  obtain ⟨its,rv,p,hz⟩:=I.list hq
  obtain ⟨u,hu,ru⟩:=rv.get hx
  obtain ⟨f0,f1,f2,f3,f4,f5⟩:=hf it (by simp)
  refine wpAny_pyNext_list_item st p.isList (x:=u) (by simpa using hu) fun h' st' sb=>?_
  have I1:Inv X pins σ H { s with heap:=h' }:=I.turned (t':=s.toks) (fun b o hb e=>(sb.2 b hb).trans e) f0 f1 f3 f4 f5
  obtain ⟨o,e,c,d⟩:=id st'
  exact ⟨u,rfl,go_of (s:={ s with heap:=h' }) e c d (by decide) ⟨x,H,I1,ru,⟨rfl,fun ys hy=>by rw [I.list_inj hy hq];exact hx⟩,st',fun b hb=>(hf b hb).1⟩⟩
 done:=by
  intro X hP hw hK hc i pins s σ H E I hf st hg
  subst hP hw hK
  obtain ⟨xs,hq,hx⟩:=hg
  obtain ⟨its,rv,p,hz⟩:=I.list hq
  obtain ⟨f0,f1,f2,f3,f4,f5⟩:=hf it (by simp)
  have hl:=rv.length
  exact wpAny_pyNext_list_end (I.ok.hd hc) st p.isList (by simp;omega) fun h' eb=>⟨rfl,I.turned (t':=s.toks) (fun b o hb e=>eb b o hb e) f0 f1 f3 f4 f5⟩
 self:=fun _ _ _ _ _ st h=>wpAny_pyIter_listiter st h
theorem turn_range {P:Program} {w:World} {K:PySem.W.Frag} {tg:Expr} (it:Addr) (lo:Int) (n:Nat) : Turn P w K tg (Itr lo n) [it] it (fun i h=>IsRangeIter h it (lo+(i:Nat)*1) ((n:Int) - (i:Nat)) 1) where
 mem:=by simp
 obj:=fun i h st b hb=>by
  have e:b=it:=by simpa using hb
  subst e
  exact ⟨_,st,fun v z=>by
   have z':Data.fields _=Data.cell v:=z
   cases z'⟩
 keep:=fun i h h' st k=>k it (by simp) _ st
 item:=by
  intro X hP hw hK hc i pins s σ H E I hf st hg
  subst hP hw hK
  obtain ⟨f0,f1,f2,f3,f4,f5⟩:=hf it (by simp)
  have W:=Walks.range (prog:=X.prog) (w:=X.w) (I.ok.hd hc) it lo 1 n
  refine W.item i s _ _ hg st fun v h' tk hv st' kk=>?_
  obtain ⟨t,rfl⟩:=hv
  have I1:Inv X pins σ H { s with heap:=h',toks:=tk }:=I.turned (fun b o hb e=>kk b o (by simpa using hb) e) f0 f1 f3 f4 f5
  refine ⟨_,rfl,go_of (s:={ s with heap:=h',toks:=tk }) (n:="range_iterator") st' rfl rfl (by decide) ⟨.int (lo+i),H,I1,⟨t,?_⟩,⟨rfl,rfl⟩,st',fun b hb=>(hf b hb).1⟩⟩
  rw [Int.mul_one]
 done:=by
  intro X hP hw hK hc i pins s σ H E I hf st hg
  subst hP hw hK
  obtain ⟨f0,f1,f2,f3,f4,f5⟩:=hf it (by simp)
  exact wpAny_pyNext_range_end (I.ok.hd hc) st (by have:n≤i:=hg;omega) fun h' eb=>⟨rfl,I.turned (t':=s.toks) (fun b o hb e=>eb b o hb e) f0 f1 f3 f4 f5⟩
 self:=fun _ _ _ _ _ st h=>wpAny_pyIter_rangeiter st h
end L2
namespace L2
open PySem PySem.Spec PyProof.Rows
section
variable {X:Cx} {tg:Expr}
def iList (K:PySem.W.Frag) (tl:TE) : TI:=fun σ H R=>tl σ H fun x H1=>∃ a,x=.ref a∧(∃ xs,SqL K H1 a xs)∧R (Itl K a) H1
theorem pi_list {l:Expr} {tl:TE} (hl:PE X l tl) : PI X tg l (iList X.K tl):=by
 intro pins s σ H R I h
 refine thn (hl pins s σ H _ I h) fun v s1 ⟨x,H1,I1,r1,q1⟩=>?_
 obtain ⟨a,e,⟨xs,hq⟩,q⟩:=q1
 subst e
 cases r1
 obtain ⟨its,rv,p,hz⟩:=I1.list hq
 refine wpAny_pyIter_list p.isList ?_
 refine ⟨s1.heap.objs.size,[s1.heap.objs.size],_,_,H1,rfl,I1.kept (t':=s1.toks) fun b o e=>Heap.get?_push_of_some _ e,turn_list a _,⟨_,Heap.get?_push_size _ rfl,rfl,rfl⟩,fun b hb=>?_,q⟩
 have e:b=s1.heap.objs.size:=by simpa using hb
 subst e
 exact I1.fpOk (Nat.le_refl _) (I1.hok.fresh (Nat.le_refl _))
theorem range_it {pins:List (Addr × Obj)} {σ:St} {H:Hp} {s:Shared} {R:It→Hp→Prop} {E:Value→Shared→Prop} {lo hi:Int} {t u v:Tok} {tk:Nat} (I:Inv X pins σ H s) (h1 : -(2 ^ 62)≤lo) (h2:lo < 2 ^ 62) (h3 : -(2 ^ 62)≤hi) (h4:hi < 2 ^ 62)
  (q:R (Itr lo (hi - lo).toNat) H) : wpAny (model X.prog X.w) X.A (pyIter (.ref s.heap.objs.size)) (PIE X pins σ tg R) E { s with heap:=s.heap.push { cls:=.type "range",data:=.fields #[.int lo t,.int hi u,.int 1 v] },toks:=tk }:=by
 refine wpAny_pyIter_range (IsRange.new ..) (small_one h1 h2 h3 h4) ?_
 have I1:Inv X pins σ H { s with heap:=s.heap.push { cls:=.type "range",data:=.fields #[.int lo t,.int hi u,.int 1 v] },toks:=tk }:=I.kept fun b o e=>Heap.get?_push_of_some _ e
 refine ⟨(s.heap.push { cls:=.type "range",data:=.fields #[.int lo t,.int hi u,.int 1 v] }).objs.size,[(s.heap.push { cls:=.type "range",data:=.fields #[.int lo t,.int hi u,.int 1 v] }).objs.size],_,_,H,rfl,
  I1.kept (t':=tk) fun b o e=>Heap.get?_push_of_some _ e,turn_range _ lo (hi - lo).toNat,?_,fun b hb=>?_,q⟩
 ·have e1:lo+((0:Nat) : Int)*1=lo:=by simp
  have e2:(((hi - lo).toNat:Nat) : Int) - ((0:Nat) : Int)=Builtin.Range.rangeSize lo hi 1:=by rw [rangeSize_one];split <;> omega
  show IsRangeIter _ _ (lo+((0:Nat) : Int)*1) ((((hi - lo).toNat:Nat) : Int) - ((0:Nat) : Int)) 1
  rw [e1,e2]
  exact Heap.get?_push_size _ rfl
 ·have e:b=(s.heap.push { cls:=.type "range",data:=.fields #[.int lo t,.int hi u,.int 1 v] }).objs.size:=by simpa using hb
  subst e
  exact I1.fpOk (Nat.le_refl _) (I1.hok.fresh (Nat.le_refl _))
def iRng1 (ta:TA) : TI:=fun σ H R=>ta σ H fun vs H1=>∃ j:Int,vs=[.int j]∧-(2 ^ 62)≤j∧j < 2 ^ 62∧R (Itr 0 j.toNat) H1
def iRng2 (ta:TA) : TI:=fun σ H R=>ta σ H fun vs H1=>∃ i j:Int,vs=[.int i,.int j]∧(-(2 ^ 62)≤i∧i < 2 ^ 62∧-(2 ^ 62)≤j∧j < 2 ^ 62)∧R (Itr i (j - i).toNat) H1
theorem pi_range1 {a:Expr} {ta:TA} {p pos:Pos} (hg:Gl X "range") (hm:X.mg "range" = none) (ha:PA X [a] ta) (hs:starEach [a] X.env=[(false,eval a X.env)]:=by rfl) : PI X tg (.Call (.Name "range" p) [a] [] pos) (iRng1 ta):=by
 intro pins s σ H R I h
 refine Call_ (ld_blt I hg hm boot_range (PyProof.Rows.callWith_type1 (thn (ha pos pins s σ H _ I h) fun us s1 ⟨vs,H1,I1,r1,q1⟩=>?_) hs rfl))
 obtain ⟨j,e,q1,q2,q⟩:=q1
 subst e
 cases r1 with
 | cons r rr =>
  cases rr
  obtain ⟨t,rfl⟩:=r
  exact call_range_1 (range_it I1 (by omega) (by omega) q1 q2 (by simpa using q))
theorem pi_range2 {a b:Expr} {ta:TA} {p pos:Pos} (hg:Gl X "range") (hm:X.mg "range" = none) (ha:PA X [a,b] ta) (hs:starEach [a,b] X.env=[(false,eval a X.env),(false,eval b X.env)]:=by rfl) (hs2:starEach [b] X.env=[(false,eval b X.env)]:=by rfl) :
  PI X tg (.Call (.Name "range" p) [a,b] [] pos) (iRng2 ta):=by
 intro pins s σ H R I h
 refine Call_ (ld_blt I hg hm boot_range (PyProof.Rows.callWith_type1 (thn (ha pos pins s σ H _ I h) fun us s1 ⟨vs,H1,I1,r1,q1⟩=>?_) (by rw [hs,hs2]) (by rw [hs2];rfl)))
 obtain ⟨i,j,e,⟨q1,q2,q3,q4⟩,q⟩:=q1
 subst e
 cases r1 with
 | cons r rr =>
  cases rr with
  | cons r' rr =>
   cases rr
   obtain ⟨t,rfl⟩:=r
   obtain ⟨t',rfl⟩:=r'
   exact call_range_2 (range_it I1 q1 q2 q3 q4 q)
def tFor (wi:TI) (g:TG) (tb:TS) : TS:=fun D σ H=>wi σ H fun J H1=>∃ W:Nat→Nat→St→Hp→Prop,(∃ m,W 0 m σ H1)∧∀ i m σ H,W i m σ H →
 (J.stop i H∧D.nx σ H)∨(J.go i H∧∃ N:St→Hp→Prop,(∀ σ' H',N σ' H'→∃ m',m' < m∧W (i+1) m' σ' H')∧∀ x H',J.yld i H x H'→g x σ H' fun σ2 H2=>tb { D with nx:=N,ct:=N,bk:=D.nx } σ2 H2)
def pinsAt (fp:List Addr) (h:Heap) : List (Addr × Obj):=fp.filterMap fun b=>(h.get? b).map fun o=>(b,o)
theorem mem_pinsAt {fp:List Addr} {h:Heap} {b:Addr} {o:Obj} (hb:b∈fp) (e:h.get? b=some o) : (b,o)∈pinsAt fp h:=List.mem_filterMap.mpr ⟨b,hb,by rw [e];rfl⟩
theorem of_pinsAt {fp:List Addr} {h:Heap} {p:Addr × Obj} (hp:p∈pinsAt fp h) : p.1∈fp∧h.get? p.1=some p.2:=by
 obtain ⟨b,hb,e⟩:=List.mem_filterMap.mp hp
 cases q:h.get? b with
 | none=>rw [q] at e;cases e
 | some o =>
  rw [q] at e
  have e':(b,o)=p:=Option.some.inj e
  subst e'
  exact ⟨hb,q⟩
theorem Inv.pinned {pins:List (Addr × Obj)} {σ:St} {H:Hp} {s:Shared} {fp:List Addr} (I:Inv X pins σ H s) (hf:∀ b∈fp,FpOk X pins H b) (ho:∀ b∈fp,∃ o,s.heap.get? b=some o∧∀ v,o.data≠.cell v) : Inv X (pins ++ pinsAt fp s.heap) σ H s :=
 I.pins_of fun p hp=>(List.mem_append.mp hp).elim (fun z=>I.pin p (List.mem_append_right _ z)) fun z=>by
  obtain ⟨hb,e⟩:=of_pinsAt z
  obtain ⟨f0,f1,f2,_⟩:=hf p.1 hb
  obtain ⟨o,e',d⟩:=ho p.1 hb
  rw [e] at e';cases e'
  exact ⟨e,f0,f1,f2,d⟩
theorem Inv.unpinned {pins pl:List (Addr × Obj)} {σ:St} {H:Hp} {s:Shared} (I:Inv X (pins ++ pl) σ H s) : Inv X pins σ H s:=I.pins_of fun p hp=>I.pin p (List.mem_append_right _ (List.mem_append_left _ hp))
theorem ps_for {iter:Expr} {body:List Stmt} {wi:TI} {g:TG} {tb:TS} {pos:Pos} (hp:PassesOwn (model X.prog X.w) X.A X.env X.xe) (hc:X.calm=true) (hi:PI X tg iter wi) (hg:PG X tg g) (hb:PSs X body tb)
  (hs:∀ x,foldedSetIterable iter X.env x=pure x:=by intro _;rfl) : PS X (.For tg iter body [] pos) (tFor wi g tb):=by
 intro pins s σ H D I h
 refine wpAny_For (thn (hi pins s σ H _ I h) fun v s1 h1=>thn h1 fun itv s2 h2=>?_) hs
 obtain ⟨it,fp,tn,J,H2,e,I2,T,st2,f2,W,⟨m0,w0⟩,turn⟩:=h2
 subst e
 have stat:∀ {H':Hp},(∀ b∈fp,H' b=none)→∀ b∈fp,FpOk X pins H' b:=fun hn b hb=>⟨hn b hb,(f2 b hb).2⟩
 refine codeAny_forLoop_any (fun n s'=>∃ i σ' H',Inv X pins σ' H' s'∧tn i s'.heap∧(∀ b∈fp,H' b=none)∧W i n σ' H') ?_ m0 ⟨0,σ,H2,I2,st2,fun b hb=>(f2 b hb).1,w0⟩
 rintro n s3 ⟨i,σ3,H3,I3,st3,fr3,w3⟩
 rcases turn i n σ3 H3 w3 with ⟨stop,qn⟩ | ⟨go,N,hN,step⟩
 ·refine wpAny_passesOwn hp (thn (T.done X rfl rfl rfl hc i pins s3 σ3 H3 X.xe I3 (stat fr3) st3 stop) fun r s4 ⟨hr,I4⟩=>?_)
  subst hr
  exact wpAny_execs_nil ⟨σ3,H3,I4,qn⟩
 ·refine wpAny_passesOwn hp (thn (T.item X rfl rfl rfl hc i pins s3 σ3 H3 X.xe I3 (stat fr3) st3 go) fun r s4 ⟨u,hr,h4⟩=>?_)
  subst hr
  refine wpAny_passesOwn hp (thn h4 fun _ s5 ⟨x,H5,I5,r5,y5,st5,fr5⟩=>?_)
  have I5':=I5.pinned (stat fr5) (T.obj _ _ st5)
  refine wpAny_passesOwn hp (thn (hg _ s5 σ3 H5 x u _ I5' r5 (step x H5 y5)) fun _ s6 ⟨σ6,H6,I6,q6⟩=>?_)
  refine wpAny_passesOwn hp (thn (hb _ s6 σ6 H6 _ I6 q6) fun f s7 q7=>?_)
  have again:∀ {σ7:St} {H7:Hp},Inv X (pins ++ pinsAt fp s5.heap) σ7 H7 s7→N σ7 H7→∃ m,m < n∧∃ i σ' H',Inv X pins σ' H' s7∧tn i s7.heap∧(∀ b∈fp,H' b=none)∧W i m σ' H':=fun {σ7 H7} I7 n7=>by
   obtain ⟨m',hm,w7⟩:=hN σ7 H7 n7
   refine ⟨m',hm,i+1,σ7,H7,I7.unpinned,T.keep _ _ _ st5 fun b hb o e=>(I7.pin (b,o) (List.mem_append_right _ (List.mem_append_right _ (mem_pinsAt hb e)))).1,fun b hb=>?_,w7⟩
   obtain ⟨o,e,d⟩:=T.obj _ _ st5 b hb
   exact (I7.pin (b,o) (List.mem_append_right _ (List.mem_append_right _ (mem_pinsAt hb e)))).2.1
  cases f with
  | next=>obtain ⟨σ7,H7,I7,n7⟩:=q7;exact again I7 n7
  | cont=>obtain ⟨σ7,H7,I7,n7⟩:=q7;exact again I7 n7
  | brk=>obtain ⟨σ7,H7,I7,q7⟩:=q7;exact ⟨σ7,H7,I7.unpinned,q7⟩
  | ret v=>obtain ⟨x7,σ7,H7,I7,r7,q7⟩:=q7;exact ⟨x7,σ7,H7,I7.unpinned,r7,q7⟩
end
end L2
namespace L2
open PySem PySem.Spec PyProof.Rows
abbrev R2 :=V→V→Hp→VK→Prop
def OpR (X:Cx) (f:Value→Value→Sem Value) (r:R2) : Prop :=
 ∀ (pins:List (Addr × Obj)) (s:Shared) (σ:St) (H:Hp) (x y:V) (v u:Value) (Q:VK),Inv X pins σ H s→RelV x v→RelV y u→r x y H Q →
  wpAny (model X.prog X.w) X.A (f v u) (EP X pins σ Q) X.xe s
def UnR (X:Cx) (f:Value→Sem Value) (r:V→Hp→VK→Prop) : Prop :=
 ∀ (pins:List (Addr × Obj)) (s:Shared) (σ:St) (H:Hp) (x:V) (v:Value) (Q:VK),Inv X pins σ H s→RelV x v→r x H Q →
  wpAny (model X.prog X.w) X.A (f v) (EP X pins σ Q) X.xe s
def CallR (X:Cx) (f:Value) (r:List V→Hp→VK→Prop) : Prop :=
 ∀ (pins:List (Addr × Obj)) (s:Shared) (σ:St) (H:Hp) (xs:List V) (us:List Value) (Q:VK),Inv X pins σ H s→Vals xs us→r xs H Q →
  wpAny (model X.prog X.w) X.A (call f us) (EP X pins σ Q) X.xe s
def tOp (r:R2) (ta tb:TE) : TE:=fun σ H Q=>ta σ H fun x H1=>tb σ H1 fun y H2=>r x y H2 Q
def tUn (r:V→Hp→VK→Prop) (ta:TE) : TE:=fun σ H Q=>ta σ H fun x H1=>r x H1 Q
def rI (C:Int→Int→Prop) (g:Int→Int→V) : R2:=fun x y H Q=>onI x fun i=>onI y fun j=>C i j∧Q (g i j) H
def rI0 (g:Int→Int→V) : R2:=fun x y H Q=>onI x fun i=>onI y fun j=>Q (g i j) H
def rU (g:Int→V) : V→Hp→VK→Prop:=fun x H Q=>onI x fun i=>Q (g i) H
section
variable {X:Cx} {a b c:Expr} {ta tb tc:TE} {pos:Pos}
theorem binT (ha:PE X a ta) (hb:PE X b tb) {pins:List (Addr × Obj)} {s:Shared} {σ:St} {H:Hp} {R:V→V→Hp→Prop} (I:Inv X pins σ H s)
  (h:ta σ H fun x H1=>tb σ H1 fun y H2=>R x y H2) {Q:Value→Shared→Prop} {f:Value→Value→Sem Value}
  (hf:∀ v u s2 x y H2,Inv X pins σ H2 s2→RelV x v→RelV y u→R x y H2→wpAny (model X.prog X.w) X.A (f v u) Q X.xe s2) :
  wpAny (model X.prog X.w) X.A (eval a X.env) (fun v s₁=>wpAny (model X.prog X.w) X.A (eval b X.env) (fun u s₂=>wpAny (model X.prog X.w) X.A (f v u) Q X.xe s₂) X.xe s₁) X.xe s:=by
 refine thn (ha pins s σ H _ I h) fun v s1 ⟨x,H1,I1,r1,q1⟩=>?_
 refine thn (hb pins s1 σ H1 _ I1 q1) fun u s2 ⟨y,H2,I2,r2,q2⟩=>?_
 exact hf v u s2 x y H2 I2 r1 r2 q2
theorem pe_op {op:Operator} {r:R2} (ho:OpR X (binaryOp op) r) (ha:PE X a ta) (hb:PE X b tb) : PE X (.BinOp a op b pos) (tOp r ta tb):=by
 intro pins s σ H Q I h
 exact wpAny_BinOp (binT ha hb I h fun v u s2 x y H2 I2 rx ry q=>ho pins s2 σ H2 x y v u Q I2 rx ry q)
theorem pe_un {op:UnaryOp} {r:V→Hp→VK→Prop} (ho:UnR X (unaryOp op) r) (ha:PE X a ta) : PE X (.UnaryOp op a pos) (tUn r ta):=by
 intro pins s σ H Q I h
 exact UnaryOp_ (thn (ha pins s σ H _ I h) fun v s1 ⟨x,H1,I1,r1,q1⟩=>ho pins s1 σ H1 x v Q I1 r1 q1)
theorem opI {f:Value→Value→Sem Value} {C:Int→Int→Prop} {g:Int→Int→Int}
  (rule:∀ (i j:Int) (t u:Tok) (s:Shared) (Q:Value→Shared→Prop) (E:Value→Shared→Prop),C i j→Q (.int (g i j) s.toks) { s with toks:=s.toks+1 }→wpAny (model X.prog X.w) X.A (f (.int i t) (.int j u)) Q E s) :
  OpR X f (rI C fun i j=>.int (g i j)):=by
 intro pins s σ H x y v u Q I rx ry h
 obtain ⟨i,rfl,h2⟩:=onI_e.mp h
 obtain ⟨j,rfl,hc,q⟩:=onI_e.mp h2
 obtain ⟨t,rfl⟩:=rx
 obtain ⟨t',rfl⟩:=ry
 exact rule i j t t' s _ _ hc ⟨.int (g i j),H,I.tok _,⟨_,rfl⟩,q⟩
theorem opI0 {f:Value→Value→Sem Value} {g:Int→Int→Int}
  (rule:∀ (i j:Int) (t u:Tok) (s:Shared) (Q:Value→Shared→Prop) (E:Value→Shared→Prop),Q (.int (g i j) s.toks) { s with toks:=s.toks+1 }→wpAny (model X.prog X.w) X.A (f (.int i t) (.int j u)) Q E s) :
  OpR X f (rI0 fun i j=>.int (g i j)):=by
 intro pins s σ H x y v u Q I rx ry h
 obtain ⟨i,rfl,h2⟩:=onI_e.mp h
 obtain ⟨j,rfl,q⟩:=onI_e.mp h2
 obtain ⟨t,rfl⟩:=rx
 obtain ⟨t',rfl⟩:=ry
 exact rule i j t t' s _ _ ⟨.int (g i j),H,I.tok _,⟨_,rfl⟩,q⟩
theorem opB0 {f:Value→Value→Sem Value} {g:Int→Int→Bool}
  (rule:∀ (i j:Int) (t u:Tok) (s:Shared) (Q:Value→Shared→Prop) (E:Value→Shared→Prop),Q (.bool (g i j)) s→wpAny (model X.prog X.w) X.A (f (.int i t) (.int j u)) Q E s) :
  OpR X f (rI0 fun i j=>.bl (g i j)):=by
 intro pins s σ H x y v u Q I rx ry h
 obtain ⟨i,rfl,h2⟩:=onI_e.mp h
 obtain ⟨j,rfl,q⟩:=onI_e.mp h2
 obtain ⟨t,rfl⟩:=rx
 obtain ⟨t',rfl⟩:=ry
 exact rule i j t t' s _ _ ⟨.bl (g i j),H,I,rfl,q⟩
def CDiv (i j:Int) : Prop:=0 < j∧j < 1073741824
def CMul (i j:Int) : Prop:=(-(2 ^ 64) < i∧i < 2 ^ 64)∨(-(2 ^ 64) < j∧j < 2 ^ 64)
theorem CMul.ok {i j:Int} (h:CMul i j) : IntMulOk i j:=by
 rcases h with ⟨h1,h2⟩ | ⟨h1,h2⟩
 ·exact .of_left (intBits_le_64 h1 h2)
 ·exact .of_right (intBits_le_64 h1 h2)
theorem two_pow_nn (k:Nat) : (0:Int)≤2 ^ k:=by
 rw [two_pow_cast]
 exact Int.natCast_nonneg _
theorem op_add :OpR X (binaryOp .Add) (rI0 fun i j=>.int (i+j)):=opI0 fun _ _ _ _ _ _ _ q=>add_int q
theorem op_sub :OpR X (binaryOp .Sub) (rI0 fun i j=>.int (i - j)):=opI0 fun _ _ _ _ _ _ _ q=>sub_int q
theorem op_mul :OpR X (binaryOp .Mult) (rI CMul fun i j=>.int (i*j)):=opI fun _ _ _ _ _ _ _ hc q=>mul_int q hc.ok
theorem op_fdiv :OpR X (binaryOp .FloorDiv) (rI CDiv fun i j=>.int (i / j)):=opI fun i j _ _ _ _ _ hc q=>by
 have h1:(0:Int) < j:=hc.1
 have h2:j < 1073741824:=hc.2
 exact floordiv_int (by omega) (by rw [Int.fdiv_eq_ediv_of_nonneg i (by omega)];exact q) (.inl (PyProof.noPylong_small (by omega)))
theorem op_mod :OpR X (binaryOp .Mod) (rI (fun _ j=>0 < j) fun i j=>.int (i % j)):=opI fun i j _ _ _ _ _ hc q=>by
 have h1:(0:Int) < j:=hc
 exact mod_int' (by omega) (by rw [Int.fmod_eq_emod_of_nonneg i (by omega)];exact q)
theorem op_shr :OpR X (binaryOp .RShift) (rI (fun _ j=>0≤j) fun i j=>.int (i / 2 ^ j.toNat)):=opI fun i j _ _ _ _ _ hc q =>
 rshift_int hc (by rw [Int.fdiv_eq_ediv_of_nonneg i (two_pow_nn _)];exact q)
theorem op_and :OpR X (binaryOp .BitAnd) (rI0 fun i j=>.int (Builtin.bitAnd i j)):=opI0 fun _ _ _ _ _ _ _ q=>and_int q
theorem op_or :OpR X (binaryOp .BitOr) (rI0 fun i j=>.int (Builtin.bitOr i j)):=opI0 fun _ _ _ _ _ _ _ q=>or_int q
theorem op_xor :OpR X (binaryOp .BitXor) (rI0 fun i j=>.int (Builtin.bitXor i j)):=opI0 fun _ _ _ _ _ _ _ q=>xor_int q
theorem unI {f:Value→Sem Value} {g:Int→Int}
  (rule:∀ (i:Int) (t:Tok) (s:Shared) (Q:Value→Shared→Prop) (E:Value→Shared→Prop),Q (.int (g i) s.toks) { s with toks:=s.toks+1 }→wpAny (model X.prog X.w) X.A (f (.int i t)) Q E s) :
  UnR X f (rU fun i=>.int (g i)):=by
 intro pins s σ H x v Q I rx h
 obtain ⟨i,rfl,q⟩:=onI_e.mp h
 obtain ⟨t,rfl⟩:=rx
 exact rule i t s _ _ ⟨.int (g i),H,I.tok _,⟨_,rfl⟩,q⟩
theorem un_neg :UnR X (unaryOp .USub) (rU fun i=>.int (-i)):=unI fun _ _ _ _ _ q=>neg_int q
end
def scal :V→V→Bool
 | .non,.non=>true | .non,.int _=>true | .int _,.non=>true | .non,.bl _=>true | .bl _,.non=>true | .non,.str _=>true | .str _,.non=>true
 | .int _,.int _=>true | .bl _,.bl _=>true | .str _,.str _=>true | .byt _,.byt _=>true
 | .int _,.str _=>true | .str _,.int _=>true | .bl _,.str _=>true | .str _,.bl _=>true
 | _,_=>false
def onE (x y:V) (p:Bool→Prop) : Prop:=match x,y with | .int a,.int b=>p (decide (a=b)) | .str a,.str b=>p (decide (a=b)) | .bl a,.bl b=>p (decide (a=b)) | x,y=>scal x y=true∧p (decide (x=y))
theorem onE_i {a b:Int} {p:Bool→Prop} : onE (.int a) (.int b) p=p (decide (a=b)):=rfl
theorem onE_s {a b:Str} {p:Bool→Prop} : onE (.str a) (.str b) p=p (decide (a=b)):=rfl
theorem onE_b {a b:Bool} {p:Bool→Prop} : onE (.bl a) (.bl b) p=p (decide (a=b)):=rfl
theorem onE_e {x y:V} {p:Bool→Prop} : onE x y p=(scal x y=true∧p (decide (x=y))):=by cases x <;> cases y <;> first | rfl | (show _=(true=true∧_);simp only [V.int.injEq,V.str.injEq,V.bl.injEq,true_and];rfl)
def rEq :R2:=fun x y H Q=>onE x y fun b=>Q (.bl b) H
def rNe :R2:=fun x y H Q=>onE x y fun b=>Q (.bl (!b)) H
theorem dec_int {i j:Int}:decide (V.int i=V.int j)=(i == j):=by
 rw [Bool.eq_iff_iff]
 simp
theorem dec_bl {i j:Bool}:decide (V.bl i=V.bl j)=(i == j):=by
 rw [Bool.eq_iff_iff]
 simp
theorem dec_str {i j:Str}:decide (V.str i=V.str j)=(i == j):=by
 rw [Bool.eq_iff_iff]
 simp
theorem dec_byt {i j:Array UInt8}:decide (V.byt i=V.byt j)=(i.toList == j.toList):=by
 rw [Bool.eq_iff_iff]
 cases i
 cases j
 simp
section
variable {X:Cx} {a b c:Expr} {ta tb tc:TE} {pos:Pos}
theorem fin_bl {pins:List (Addr × Obj)} {σ:St} {H:Hp} {s:Shared} {Q:VK} {k k':Bool} (I:Inv X pins σ H s) (q:Q (.bl k) H) (e:k=k') : EP X pins σ Q (.bool k') s:=by
 subst e
 exact ⟨.bl k,H,I,rfl,q⟩
theorem op_eq :OpR X (compareOp .Eq) rEq:=by
 intro pins s σ H x y v u Q I rx ry h
 obtain ⟨hs,q⟩:=onE_e.mp h
 cases x with
 | non =>
  cases rx
  cases y with
  | non=>cases ry;exact PySem.EqNone.eq_none_none (fin_bl I q (by simp))
  | bl j=>cases ry;exact PySem.EqNone.eq_none_bool (fin_bl I q (by simp))
  | int j=>obtain ⟨t',rfl⟩:=ry;exact PySem.EqNone.eq_none_int (fin_bl I q (by simp))
  | str j=>obtain ⟨t',rfl⟩:=ry;exact PySem.EqNone.eq_none_str (fin_bl I q (by simp))
  | _=>exact absurd (show false=true from hs) Bool.false_ne_true
 | bl i =>
  cases rx
  cases y with
  | non=>cases ry;exact PySem.EqNone.eq_bool_none (fin_bl I q (by simp))
  | bl j=>cases ry;exact eq_bool (fin_bl I q dec_bl)
  | str j=>obtain ⟨t',rfl⟩:=ry;exact PySem.EqMixed.eq_bool_str (fin_bl I q (by simp))
  | _=>exact absurd (show false=true from hs) Bool.false_ne_true
 | int i =>
  obtain ⟨t,rfl⟩:=rx
  cases y with
  | non=>cases ry;exact PySem.EqNone.eq_int_none (fin_bl I q (by simp))
  | int j=>obtain ⟨t',rfl⟩:=ry;exact eq_int (fin_bl I q dec_int)
  | str j=>obtain ⟨t',rfl⟩:=ry;exact PySem.EqMixed.eq_int_str (fin_bl I q (by simp))
  | _=>exact absurd (show false=true from hs) Bool.false_ne_true
 | str i =>
  obtain ⟨t,rfl⟩:=rx
  cases y with
  | non=>cases ry;exact PySem.EqNone.eq_str_none (fin_bl I q (by simp))
  | bl j=>cases ry;exact PySem.EqMixed.eq_str_bool (fin_bl I q (by simp))
  | int j=>obtain ⟨t',rfl⟩:=ry;exact PySem.EqMixed.eq_str_int (fin_bl I q (by simp))
  | str j=>obtain ⟨t',rfl⟩:=ry;exact eq_str (fin_bl I q dec_str)
  | _=>exact absurd (show false=true from hs) Bool.false_ne_true
 | byt i =>
  obtain ⟨t,rfl⟩:=rx
  cases y with
  | byt j=>obtain ⟨t',rfl⟩:=ry;exact PySem.W.eq_bytes (fin_bl I q dec_byt)
  | _=>exact absurd (show false=true from hs) Bool.false_ne_true
 | _=>cases y <;> exact absurd (show false=true from hs) Bool.false_ne_true
theorem op_ne :OpR X (compareOp .NotEq) rNe:=by
 intro pins s σ H x y v u Q I rx ry h
 obtain ⟨hs,q⟩:=onE_e.mp h
 cases x with
 | non =>
  cases rx
  cases y with
  | non=>cases ry;exact PySem.EqNone.ne_none_none (fin_bl I q (by simp))
  | bl j=>cases ry;exact PySem.EqNone.ne_none_bool (fin_bl I q (by simp))
  | int j=>obtain ⟨t',rfl⟩:=ry;exact PySem.EqNone.ne_none_int (fin_bl I q (by simp))
  | str j=>obtain ⟨t',rfl⟩:=ry;exact PySem.EqNone.ne_none_str (fin_bl I q (by simp))
  | _=>exact absurd (show false=true from hs) Bool.false_ne_true
 | bl i =>
  cases rx
  cases y with
  | non=>cases ry;exact PySem.EqNone.ne_bool_none (fin_bl I q (by simp))
  | bl j=>cases ry;exact ne_bool (fin_bl I q (congrArg not dec_bl))
  | str j=>obtain ⟨t',rfl⟩:=ry;exact PySem.EqMixed.ne_bool_str (fin_bl I q (by simp))
  | _=>exact absurd (show false=true from hs) Bool.false_ne_true
 | int i =>
  obtain ⟨t,rfl⟩:=rx
  cases y with
  | non=>cases ry;exact PySem.EqNone.ne_int_none (fin_bl I q (by simp))
  | int j=>obtain ⟨t',rfl⟩:=ry;exact ne_int (fin_bl I q (congrArg not dec_int))
  | str j=>obtain ⟨t',rfl⟩:=ry;exact PySem.EqMixed.ne_int_str (fin_bl I q (by simp))
  | _=>exact absurd (show false=true from hs) Bool.false_ne_true
 | str i =>
  obtain ⟨t,rfl⟩:=rx
  cases y with
  | non=>cases ry;exact PySem.EqNone.ne_str_none (fin_bl I q (by simp))
  | bl j=>cases ry;exact PySem.EqMixed.ne_str_bool (fin_bl I q (by simp))
  | int j=>obtain ⟨t',rfl⟩:=ry;exact PySem.EqMixed.ne_str_int (fin_bl I q (by simp))
  | str j=>obtain ⟨t',rfl⟩:=ry;exact ne_str (fin_bl I q (congrArg not dec_str))
  | _=>exact absurd (show false=true from hs) Bool.false_ne_true
 | byt i =>
  obtain ⟨t,rfl⟩:=rx
  cases y with
  | byt j=>obtain ⟨t',rfl⟩:=ry;exact PySem.W.ne_bytes (fin_bl I q (congrArg not dec_byt))
  | _=>exact absurd (show false=true from hs) Bool.false_ne_true
 | _=>cases y <;> exact absurd (show false=true from hs) Bool.false_ne_true
theorem op_lt :OpR X (compareOp .Lt) (rI0 fun i j=>.bl (decide (i < j))):=opB0 fun _ _ _ _ _ _ _ q=>lt_int q
theorem op_le :OpR X (compareOp .LtE) (rI0 fun i j=>.bl (decide (i≤j))):=opB0 fun _ _ _ _ _ _ _ q=>le_int q
theorem op_gt :OpR X (compareOp .Gt) (rI0 fun i j=>.bl (decide (j < i))):=opB0 fun _ _ _ _ _ _ _ q=>gt_int q
theorem op_ge :OpR X (compareOp .GtE) (rI0 fun i j=>.bl (decide (j≤i))):=opB0 fun _ _ _ _ _ _ _ q=>ge_int q
theorem OpR.or {f:Value→Value→Sem Value} {r r':R2} (h:OpR X f r) (h':OpR X f r') : OpR X f (fun x y H Q=>r x y H Q∨r' x y H Q):=by
 intro pins s σ H x y v u Q I rx ry q
 rcases q with q | q
 ·exact h pins s σ H x y v u Q I rx ry q
 ·exact h' pins s σ H x y v u Q I rx ry q
theorem nomark (b:Expr) {op:CmpOp} (h:op≠.In:=by decide) (h2:op≠.NotIn:=by decide) : behindInMarks op b=false:=by
 have e1:(op == CmpOp.In)=false:=by cases op <;> first | rfl | exact absurd rfl h
 have e2:(op == CmpOp.NotIn)=false:=by cases op <;> first | rfl | exact absurd rfl h2
 cases b <;> simp [behindInMarks,e1,e2]
theorem pe_cmpR {op:CmpOp} {r:R2} (ho:OpR X (compareOp op) r) (ha:PE X a ta) (hb:PE X b tb) (hm:behindInMarks op b=false) : PE X (.Compare a [op] [b] pos) (tOp r ta tb):=by
 intro pins s σ H Q I h
 exact wpAny_Compare1 (binT ha hb I h fun v u s2 x y H2 I2 rx ry q=>ho pins s2 σ H2 x y v u Q I2 rx ry q) hm
def tTest (t:TE) : TT:=fun σ H Q=>t σ H fun x H'=>onB x fun k=>Q k H'
theorem pt_cmpR {op:CmpOp} {r:R2} (ho:OpR X (compareOp op) r) (ha:PE X a ta) (hb:PE X b tb) (hm:behindInMarks op b=false) : PT X (.Compare a [op] [b] pos) (tTest (tOp r ta tb)):=by
 intro pins s σ H Q I h
 refine wpAny_isTrue_Compare1 (thn (ha pins s σ H _ I h) fun v s1 ⟨x,H1,I1,r1,q1⟩=>thn (hb pins s1 σ H1 _ I1 q1) fun u s2 ⟨y,H2,I2,r2,q2⟩ =>
  thn (ho pins s2 σ H2 x y v u _ I2 r1 r2 q2) fun c s3 ⟨z,H3,I3,r3,q3⟩=>?_) hm
 obtain ⟨k,rfl,q3⟩:=onB_e.mp q3
 cases r3
 exact wpAny_truthy_bool ⟨H3,I3,q3⟩
theorem iteT_r {A B:Prop} : (if true=true then A else B)=A:=rfl
theorem iteF_r {A B:Prop} : (if false=true then A else B)=B:=rfl
def tC2 (t:V→V→Hp→(Bool→Hp→Prop)→Prop) (ta tb:TE) : TT:=fun σ H Q=>ta σ H fun x H1=>tb σ H1 fun y H2=>t x y H2 Q
theorem pt_cmpG {op:CmpOp} {r:R2} {t:V→V→Hp→(Bool→Hp→Prop)→Prop} (ho:OpR X (compareOp op) r) (hk:∀ {x y:V} {H:Hp} {Q:Bool→Hp→Prop},t x y H Q→r x y H fun z H'=>onB z fun k=>Q k H') (ha:PE X a ta) (hb:PE X b tb) (hm:behindInMarks op b=false) : PT X (.Compare a [op] [b] pos) (tC2 t ta tb):=by
 intro pins s σ H Q I h
 refine wpAny_isTrue_Compare1 (thn (ha pins s σ H _ I h) fun v s1 ⟨x,H1,I1,r1,q1⟩=>thn (hb pins s1 σ H1 _ I1 q1) fun u s2 ⟨y,H2,I2,r2,q2⟩ =>
  thn (ho pins s2 σ H2 x y v u _ I2 r1 r2 (hk q2)) fun c s3 ⟨z,H3,I3,r3,q3⟩=>?_) hm
 obtain ⟨k,rfl,q3⟩:=onB_e.mp q3
 cases r3
 exact wpAny_truthy_bool ⟨H3,I3,q3⟩
theorem ift {p:Prop} [Decidable p] {Q:Bool→Prop} (h:if p then Q true else Q false) : Q (decide p):=by
 by_cases e:p
 ·rw [if_pos e] at h;rw [decide_eq_true e];exact h
 ·rw [if_neg e] at h;rw [decide_eq_false e];exact h
theorem ifn {p:Prop} [Decidable p] {Q:Bool→Prop} (h:if ¬ p then Q true else Q false) : Q (!decide p):=by
 by_cases e:p
 ·rw [if_neg fun z=>z e] at h;rw [decide_eq_true e];exact h
 ·rw [if_pos e] at h;rw [decide_eq_false e];exact h
def kI (C:Int→Int→Prop) [∀ i j,Decidable (C i j)] (x y:V) (H:Hp) (Q:Bool→Hp→Prop) : Prop:=onI x fun i=>onI y fun j=>if C i j then Q true H else Q false H
theorem kI_of {C:Int→Int→Prop} [∀ i j,Decidable (C i j)] {x y:V} {H:Hp} {Q:Bool→Hp→Prop} (h:kI C x y H Q) : rI0 (fun i j=>.bl (decide (C i j))) x y H fun z H'=>onB z fun k=>Q k H':=by
 obtain ⟨i,rfl,h2⟩:=onI_e.mp h
 obtain ⟨j,rfl,h3⟩:=onI_e.mp h2
 exact ift (Q:=fun k=>Q k H) h3
def kE (x y:V) (H:Hp) (Q:Bool→Hp→Prop) : Prop:=match x,y with | .int a,.int b=>if a=b then Q true H else Q false H | .str a,.str b=>if a=b then Q true H else Q false H | .bl a,.bl b=>if a=b then Q true H else Q false H | x,y=>onE x y fun k=>Q k H
theorem kE_of {x y:V} {H:Hp} {Q:Bool→Hp→Prop} (h:kE x y H Q) : rEq x y H fun z H'=>onB z fun k=>Q k H':=by
 unfold kE at h
 split at h
 ·exact ift (Q:=fun k=>Q k H) h
 ·exact ift (Q:=fun k=>Q k H) h
 ·exact ift (Q:=fun k=>Q k H) h
 ·exact h
def kN (x y:V) (H:Hp) (Q:Bool→Hp→Prop) : Prop:=match x,y with | .int a,.int b=>if ¬ a=b then Q true H else Q false H | .str a,.str b=>if ¬ a=b then Q true H else Q false H | .bl a,.bl b=>if ¬ a=b then Q true H else Q false H | x,y=>onE x y fun k=>Q (!k) H
theorem kN_of {x y:V} {H:Hp} {Q:Bool→Hp→Prop} (h:kN x y H Q) : rNe x y H fun z H'=>onB z fun k=>Q k H':=by
 unfold kN at h
 split at h
 ·exact ifn (Q:=fun k=>Q k H) h
 ·exact ifn (Q:=fun k=>Q k H) h
 ·exact ifn (Q:=fun k=>Q k H) h
 ·exact h
variable {H:Hp} {Q:Bool→Hp→Prop}
theorem kE_i {a b:Int} : kE (.int a) (.int b) H Q=if a=b then Q true H else Q false H:=rfl
theorem kE_s {a b:Str} : kE (.str a) (.str b) H Q=if a=b then Q true H else Q false H:=rfl
theorem kN_i {a b:Int} : kN (.int a) (.int b) H Q=if ¬ a=b then Q true H else Q false H:=rfl
theorem kN_s {a b:Str} : kN (.str a) (.str b) H Q=if ¬ a=b then Q true H else Q false H:=rfl
section
variable (ha:PE X a ta) (hb:PE X b tb)
include ha hb
theorem pt_eq (hm:behindInMarks .Eq b=false) : PT X (.Compare a [.Eq] [b] pos) (tC2 kE ta tb):=pt_cmpG op_eq kE_of ha hb hm
theorem pt_ne (hm:behindInMarks .NotEq b=false) : PT X (.Compare a [.NotEq] [b] pos) (tC2 kN ta tb):=pt_cmpG op_ne kN_of ha hb hm
theorem pt_lt (hm:behindInMarks .Lt b=false) : PT X (.Compare a [.Lt] [b] pos) (tC2 (kI fun i j=>i < j) ta tb):=pt_cmpG op_lt kI_of ha hb hm
theorem pt_le (hm:behindInMarks .LtE b=false) : PT X (.Compare a [.LtE] [b] pos) (tC2 (kI fun i j=>i≤j) ta tb):=pt_cmpG op_le kI_of ha hb hm
theorem pt_gt (hm:behindInMarks .Gt b=false) : PT X (.Compare a [.Gt] [b] pos) (tC2 (kI fun i j=>j < i) ta tb):=pt_cmpG op_gt kI_of ha hb hm
end
theorem line63 :(sizeLine:Nat) < 2 ^ 63:=by rw [sizeLine_eq];decide
theorem vals1 {x:V} {us:List Value} (r:Vals [x] us) : ∃ u,us=[u]∧RelV x u:=by
 cases r with
 | cons r1 r2=>cases r2;exact ⟨_,rfl,r1⟩
theorem vals2 {x y:V} {us:List Value} (r:Vals [x,y] us) : ∃ u w',us=[u,w']∧RelV x u∧RelV y w':=by
 cases r with
 | cons r1 r2 =>
  cases r2 with
  | cons r3 r4=>cases r4;exact ⟨_,_,rfl,r1,r3⟩
theorem call_max2 (hc:X.calm=true) : CallR X (.builtin "max") (fun xs H Q=>∃ i j,xs=[.int i,.int j]∧Q (.int (if j > i then j else i)) H):=by
 intro pins s σ H xs us Q I r h
 obtain ⟨i,j,rfl,q⟩:=h
 obtain ⟨u,w',rfl,⟨t,rfl⟩,⟨t',rfl⟩⟩:=vals2 r
 refine max_two_ints (I.ok.hd hc) fun h' tk k=>⟨_,H,I.kept k,?_,q⟩
 by_cases hj:j > i
 ·rw [if_pos hj,if_pos hj];exact ⟨_,rfl⟩
 ·rw [if_neg hj,if_neg hj];exact ⟨_,rfl⟩
end
end L2
namespace L2
open PySem PySem.Spec PyProof.Rows
structure ObjM (h:Heap) (x dx C:Addr) (mA:Str→Option Value) : Prop where
 obj:h.get? x=some (PySem.W.instObj C dx)
 ns:h.Ns1 dx mA
 ne:dx≠x
theorem lookIn_ns {h:Heap} {dx:Addr} {mA:Str→Option Value} (n:h.Ns1 dx mA) : ∃ od,h.get? dx=some od∧∀ name,PySem.W.lookIn name od=some (mA name):=by
 obtain ⟨o,es,ep,ho,hd,hk,_,hm⟩:=n
 refine ⟨o,ho,fun name=>?_⟩
 have e:=hm name
 unfold nsFind findBy at e
 rw [←Array.find?_toList] at e
 unfold PySem.W.lookIn
 rw [hd]
 dsimp only
 split
 ·rename_i y q
  rw [q] at e
  exact congrArg some e
 ·rename_i q
  rw [q] at e
  have a:es.toList.any (·.refKey)=false:=by
   rw [List.any_eq_false]
   intro y hy
   obtain ⟨z,t,hkey⟩:=hk y (Array.mem_toList_iff.mp hy)
   simp [DictEntry.refKey,hkey]
  have a':¬ es.toList.any (·.refKey)=true:=by rw [a];exact Bool.false_ne_true
  rw [if_neg a']
  exact congrArg some e
theorem ObjM.look {h:Heap} {x dx C:Addr} {mA:Str→Option Value} (I:ObjM h x dx C mA) : ∃ od,PySem.W.InstAt h x (PySem.W.instObj C dx) C (some od)∧∀ name,PySem.W.lookIn name od=some (mA name) :=
 let ⟨od,ho,hl⟩:=lookIn_ns I.ns
 ⟨od,⟨I.obj,rfl,rfl,ho⟩,hl⟩
section
variable {prog:Program} {w:World} {A:Around} {E:Value→Shared→Prop} {s:Shared} {K:PySem.W.Frag} {x dx C f:Addr} {mA:Str→Option Value} {name:Str} {v:Value}
theorem get_map {expr:Bool} {Q:Value→Shared→Prop} (X:K.In s.heap) (I:ObjM s.heap x dx C mA) (hg:PySem.W.plainGet K C name=true) (hh:PySem.W.hasDictIn K C=true)
  (ha:PySem.W.findIn K (.ref C) name=some none) (hv:mA name=some v) (hv':PySem.W.handedIn v=true) (h:Q v { s with toks:=s.toks+1 }) :
  wpAny (model prog w) A (getAttr (.ref x) name expr) Q E s:=by
 obtain ⟨od,J,hl⟩:=I.look
 exact PySem.W.get_value X J (PySem.W.plainGet_of hg).1 (PySem.W.findObj_own hh ha rfl (by rw [hl,hv])) hv' h
theorem get_meth {pl:Sem Bool} {Q:Value × List Value→Shared→Prop} (X:K.In s.heap) (I:ObjM s.heap x dx C mA) (hg:PySem.W.plainGet K C name=true)
  (hf:PySem.W.findIn K (.ref C) name=some (some (.ref f))) (ht:PySem.W.isFn K (.ref f)=true) (hv:mA name=none) (h:Q (.ref f,[.ref x]) s) :
  wpAny (model prog w) A (getMethod (.ref x) name pl) Q E s:=by
 obtain ⟨od,J,hl⟩:=I.look
 exact PySem.W.method_fn X J (PySem.W.plainGet_of hg).1 (PySem.W.plainGet_of hg).2 hf (beq_iff_eq.mp ht) (by show (PySem.W.lookIn name od).map (·.isSome)=some false;rw [hl,hv];rfl) h
theorem set_map {ns:List Str} {Q:Unit→Shared→Prop} (X:K.In s.heap) (I:ObjM s.heap x dx C mA)
  (hs:PySem.W.findIn K (.ref C) "__setattr__" = some (some (.builtin "object.__setattr__"))) (hp:PySem.W.plainOver K C=true) (ht:PySem.W.takerIn K C name=some none) (hh:PySem.W.hasDictIn K C=true)
  (hw:PySem.Within mA ns) (hsz:ns.length≤sizeLine)
  (h:∀ h',ObjM h' x dx C (fun y=>if y=name then some v else mA y)→Heap.SameBut dx s.heap h'→Q () { s with heap:=h',toks:=s.toks+2 }) :
  wpAny (model prog w) A (setAttr (.ref x) name v) Q E s:=by
 obtain ⟨od,J,hl⟩:=I.look
 refine PySem.W.set_plain X J hs (PySem.W.osa_open (s:={ s with toks:=s.toks+1 }) (r:=none) X J hp ht fun b=>?_)
 obtain ⟨cd,hc,hd'⟩:=PySem.W.any_some hh
 have hx:s.heap.get? x=some ⟨.ref C,some dx,.plain,#[]⟩:=I.obj
 refine wpAny_bind (wpAny_pure (wpAny_bind (wpAny_bind (wpAny_loadPart hx (wpAny_bind (PySem.W.Looks.here (s:={ s with toks:=s.toks+1 }) (PySem.W.looks_clsIn X hc) ?_))))))
 rw [hd']
 refine wpAny_pure (a:=some dx) (wpAny_bind (wpAny_pure (wpAny_bind ?_)))
 refine wpAny_nsSet1 (s:={ s with toks:=s.toks+1 }) I.ns fun h' hn2 hs2=>?_
 obtain ⟨oD,esD,epD,hoD,hdD,hcD⟩:=hn2.count (PySem.Within.cons name v hw)
 refine wpAny_bind (wpAny_lookBehind hoD (by rw [hdD];exact pastItsLine_dict (Nat.le_trans hcD (by rw [List.length_cons];omega))) ?_)
 exact wpAny_pure (h _ ⟨(hs2.2 _ (Ne.symm I.ne)).trans I.obj,hn2,I.ne⟩ hs2)
theorem make_map {R:Result→Shared→Prop} {vs:List Value} {kw:List (Str × Value)} (X:K.In s.heap) (hm:PySem.W.makesIn K C=true)
  (hi:PySem.W.findIn K (.ref C) "__init__" = some (some (.ref f))) (hf:PySem.W.typeIn K (.ref f)=some (.type "function"))
  (h:codeAny (model prog w) (A.under (.builtin "type.__call__" ⟨.ref C :: vs,kw⟩)) (.call (.ref f) ⟨.ref (s.heap.objs.size+1) :: vs,kw⟩) (PySem.W.InitBack (s.heap.objs.size+1) R)
   { s with heap:=(s.heap.push PySem.W.emptyDict).push (PySem.W.instObj C s.heap.objs.size) }) :
  codeAny (model prog w) A (.call (.ref C) ⟨vs,kw⟩) R s:=by
 obtain ⟨hh,g,d,t,os⟩:=s
 exact PySem.W.make_core (PySem.W.makes_of X hm) (PySem.W.looks_findIn X hi) (fun self=>PySem.W.bind_fn X self hf) (.inl rfl) h
end
def putF (f:Str) (v:V) : List (Str × V)→List (Str × V)
 | []=>[(f,v)]
 | (g,x) :: r=>if g=f then (g,v) :: r else (g,x) :: putF f v r
theorem lookup_putF (f g:Str) (v:V) : ∀ fs:List (Str × V),(putF f v fs).lookup g=if g=f then some v else fs.lookup g
 | []=>by
  show List.lookup g [(f,v)]=_
  by_cases h:g=f
  ·have hb:(g == f)=true:=beq_iff_eq.mpr h
   simp only [List.lookup,hb,if_pos h]
  ·have hb:(g == f)=false:=beq_eq_false_iff_ne.mpr h
   simp only [List.lookup,hb,if_neg h]
 | (k,x) :: r=>by
  have ih:=lookup_putF f g v r
  rw [show putF f v ((k,x) :: r)=(if k=f then (k,v) :: r else (k,x) :: putF f v r) from rfl]
  by_cases hk:k=f
  ·rw [if_pos hk]
   by_cases h:g=k
   ·have hb:(g == k)=true:=beq_iff_eq.mpr h
    simp only [List.lookup,hb,if_pos (h.trans hk)]
   ·have hb:(g == k)=false:=beq_eq_false_iff_ne.mpr h
    simp only [List.lookup,hb,if_neg (fun e:g=f=>h (e.trans hk.symm))]
  ·rw [if_neg hk]
   by_cases h:g=k
   ·have hb:(g == k)=true:=beq_iff_eq.mpr h
    simp only [List.lookup,hb,if_neg (fun e:g=f=>hk (h.symm.trans e))]
   ·have hb:(g == k)=false:=beq_eq_false_iff_ne.mpr h
    simp only [List.lookup,hb]
    exact ih
theorem keys_putF (f:Str) (v:V) : ∀ fs:List (Str × V),f∈(putF f v fs).map (·.1)∧∀ g,g∈fs.map (·.1)→g∈(putF f v fs).map (·.1)
 | []=>⟨by simp [putF],fun g h=>by simp at h⟩
 | (k,x) :: r=>by
  obtain ⟨i1,i2⟩:=keys_putF f v r
  rw [show putF f v ((k,x) :: r)=(if k=f then (k,v) :: r else (k,x) :: putF f v r) from rfl]
  by_cases hk:k=f
  ·rw [if_pos hk]
   subst hk
   exact ⟨by simp,fun g h=>by simpa using h⟩
  ·rw [if_neg hk]
   refine ⟨?_,fun g h=>?_⟩
   ·rw [List.map_cons]
    exact List.mem_cons_of_mem _ i1
   ·rw [List.map_cons] at h ⊢
    rcases List.mem_cons.mp h with e | e
    ·exact List.mem_cons.mpr (.inl e)
    ·exact List.mem_cons_of_mem _ (i2 g e)
theorem length_putF (f:Str) (v:V) : ∀ fs:List (Str × V),(putF f v fs).length≤fs.length+1
 | []=>by simp [putF]
 | (k,x) :: r=>by
  have ih:=length_putF f v r
  rw [show putF f v ((k,x) :: r)=(if k=f then (k,v) :: r else (k,x) :: putF f v r) from rfl]
  by_cases hk:k=f
  ·rw [if_pos hk,List.length_cons,List.length_cons];omega
  ·rw [if_neg hk,List.length_cons,List.length_cons];omega
theorem RelO.some_of {v:V} {o:Option Value} (r:RelO (some v) o) : ∃ u,o=some u∧RelV v u:=by
 cases o with
 | none=>exact (show False from r).elim
 | some u=>exact ⟨u,rfl,r⟩
theorem RelO.none_of {o:Option Value} (r:RelO none o) : o=none:=by
 cases o with
 | none=>rfl
 | some u=>exact (show False from r).elim
theorem handed_of {v:V} {u:Value} (r:RelV v u) : PySem.W.handedIn u=true:=by
 cases v with
 | non=>cases (show u=Value.none from r);rfl
 | bl b=>cases (show u=Value.bool b from r);rfl
 | int i=>obtain ⟨t,e⟩:=(show ∃ t,u=Value.int i t from r);cases e;rfl
 | str x=>obtain ⟨t,e⟩:=(show ∃ t,u=Value.str x t from r);cases e;rfl
 | byt b=>obtain ⟨t,e⟩:=(show ∃ t,u=Value.bytes b t from r);cases e;rfl
 | flt b=>obtain ⟨t,e⟩:=(show ∃ t,u=Value.float b t from r);cases e;rfl
 | ref a=>cases (show u=Value.ref a from r);rfl
 | ty n=>cases (show u=Value.type n from r);rfl
section
variable {P:Program} {w:World} {H H':Hp} {h h':Heap} {a C dx:Addr} {fs fs':List (Str × V)}
theorem ins_get (hok:HOk P w H h) (e:H a=some (.ins C dx fs)) : ∃ mA,ObjM h a dx C mA∧(∀ f,RelO (fs.lookup f) (mA f))∧PySem.Within mA (fs.map (·.1))∧fs.length≤1000∧H dx=some (.own a):=by
 obtain ⟨d,z,ne,ob,mA,n,r,q⟩:=(show ObjOk P w H h a (.ins C dx fs) from hok a _ e)
 exact ⟨mA,⟨ob,n,ne⟩,r,q,z,d⟩
end
structure Cls (K:PySem.W.Frag) (C:Addr) : Prop where
 pg:PySem.W.plainGet K C Str.empty=true
 hd:PySem.W.hasDictIn K C=true
 po:PySem.W.plainOver K C=true
 sa:PySem.W.findIn K (.ref C) "__setattr__" = some (some (.builtin "object.__setattr__"))
theorem Cls.get {K:PySem.W.Frag} {C:Addr} (c:Cls K C) (f:Str) : PySem.W.plainGet K C f=true:=c.pg
def NoAttr (K:PySem.W.Frag) (C:Addr) (f:Str) : Prop:=PySem.W.findIn K (.ref C) f=some none
theorem NoAttr.taker {K:PySem.W.Frag} {C:Addr} {f:Str} (n:NoAttr K C f) : PySem.W.takerIn K C f=some none:=by
 unfold PySem.W.takerIn
 rw [show PySem.W.findIn K (.ref C) f=some none from n]
 rfl
structure Con (K:PySem.W.Frag) (C:Addr) (f:Str) (v:V) (u:Value) : Prop where
 at_:PySem.W.findIn K (.ref C) f=some (some u)
 rel:RelV v u
 get:PySem.W.specialIn K u "__get__" = some none
 cp:PySem.W.copiedNames.contains f=false
structure Meth (K:PySem.W.Frag) (C:Addr) (m:Str) (f:Addr) : Prop where
 at_:PySem.W.findIn K (.ref C) m=some (some (.ref f))
 fn:PySem.W.isFn K (.ref f)=true
 kp:PySem.W.keepIn K (.ref f)=true
section
variable {X:Cx} {pins:List (Addr × Obj)} {σ:St} {H:Hp} {s:Shared} {a C dx:Addr} {fs:List (Str × V)} {f:Str} {v:V} {A:Around} {E:Value→Shared→Prop}
theorem getattr_ok {b:Bool} {Q:Value→Shared→Prop} (I:Inv X pins σ H s) (e:H a=some (.ins C dx fs)) (c:Cls X.K C) (n:NoAttr X.K C f) (l:fs.lookup f=some v)
  (h:∀ u s',Inv X pins σ H s'→RelV v u→Q u s') : wpAny (model X.prog X.w) A (getAttr (.ref a) f b) Q E s:=by
 obtain ⟨mA,O,r,_,_,_⟩:=ins_get I.hok e
 obtain ⟨u,hu,ru⟩:=RelO.some_of (v:=v) (o:=mA f) (by rw [←l];exact r f)
 exact get_map I.kIn O (c.get f) c.hd n hu (handed_of ru) (h u _ (I.tok _) ru)
theorem getmeth_ok {m:Str} {g:Addr} {pl:Sem Bool} {Q:Value × List Value→Shared→Prop} (I:Inv X pins σ H s) (e:H a=some (.ins C dx fs)) (c:Cls X.K C) (k:Meth X.K C m g) (l:fs.lookup m=none)
  (h:Q (.ref g,[.ref a]) s) : wpAny (model X.prog X.w) A (getMethod (.ref a) m pl) Q E s:=by
 obtain ⟨mA,O,r,_,_,_⟩:=ins_get I.hok e
 have hn:mA m=none:=RelO.none_of (by rw [←l];exact r m)
 exact get_meth I.kIn O (c.get m) k.at_ k.fn hn h
theorem setattr_ok {y:V} {u:Value} {Q:Unit→Shared→Prop} (I:Inv X pins σ H s) (e:H a=some (.ins C dx fs)) (c:Cls X.K C) (n:NoAttr X.K C f) (hl:fs.length < 1000) (ry:RelV y u)
  (h:∀ s',Inv X pins σ (upd H a (.ins C dx (putF f y fs))) s'→Q () s') : wpAny (model X.prog X.w) A (setAttr (.ref a) f u) Q E s:=by
 obtain ⟨mA,O,r,wi,_,ho⟩:=ins_get I.hok e
 have hz:(fs.map (·.1)).length≤sizeLine:=by rw [List.length_map,sizeLine_eq];omega
 refine set_map I.kIn O c.sa c.po n.taker c.hd wi hz fun h' O' sb=>h _ ?_
 have hd:∃ o,h'.get? dx=some o:=let ⟨o,_,_,e',_⟩:=O'.ns;⟨o,e'⟩
 refine I.write (x:=a) (e:=dx) (by rw [e];exact True.intro) (.inr ho) (fun b q hb z=>(sb.2 b hb).trans z) hd ?_
 refine ⟨by rw [upd_ne O.ne];exact ho,?_,O.ne,O'.obj,_,O'.ns,fun g=>?_,fun g hg=>?_⟩
 ·have:=length_putF f y fs;omega
 ·show RelO ((putF f y fs).lookup g) (if g=f then some u else mA g)
  rw [lookup_putF]
  by_cases q:g=f
  ·rw [if_pos q,if_pos q];exact ry
  ·rw [if_neg q,if_neg q];exact r g
 ·by_cases q:g=f
  ·rw [q];exact (keys_putF f y fs).1
  ·refine (keys_putF f y fs).2 g (wi g fun z=>hg ?_)
   show (if g=f then some u else mA g)=none
   rw [if_neg q];exact z
theorem Inv.made (I:Inv X pins σ H s) : Inv X pins σ (upd (upd H s.heap.objs.size (.own (s.heap.objs.size+1))) (s.heap.objs.size+1) (.ins C s.heap.objs.size []))
  { s with heap:=(s.heap.push PySem.W.emptyDict).push (PySem.W.instObj C s.heap.objs.size) }:=by
 have e1:(s.heap.push PySem.W.emptyDict).get? s.heap.objs.size=some PySem.W.emptyDict:=Heap.get?_push_size s.heap rfl
 have e2:((s.heap.push PySem.W.emptyDict).push (PySem.W.instObj C s.heap.objs.size)).get? (s.heap.objs.size+1)=some (PySem.W.instObj C s.heap.objs.size):=by
  have:=Heap.get?_push_size (s.heap.push PySem.W.emptyDict) (o:=PySem.W.instObj C s.heap.objs.size) rfl
  rwa [Heap.size_push] at this
 have e3:(s.heap.push PySem.W.emptyDict).Ns s.heap.objs.size (fun _=>none):=⟨PySem.W.emptyDict,#[],_,e1,rfl,(fun e he=>absurd he (by simp)),fun _=>rfl⟩
 have I1:=I.laid (a:=s.heap.objs.size) (o:=.own (s.heap.objs.size+1)) (h':=s.heap.push PySem.W.emptyDict) (t':=s.toks) (fun b u q=>Heap.get?_push_of_some _ q) (Nat.le_refl _) ⟨_,e1⟩
 refine I1.laid (a:=s.heap.objs.size+1) (o:=.ins C s.heap.objs.size []) (t':=s.toks) (fun b u q=>Heap.get?_push_of_some _ q) (Nat.le_of_eq (Heap.size_push _ _)) ?_
 have ne:s.heap.objs.size≠s.heap.objs.size+1:=Nat.ne_of_lt (Nat.lt_succ_self _)
 refine ⟨by rw [upd_ne ne,upd_same],Nat.zero_le _,ne,e2,fun _=>none,(Heap.Ns1.of_empty e3).at fun o q=>Heap.get?_push_of_some _ q,fun _=>True.intro,fun y hy=>absurd rfl hy⟩
theorem attr_of {prog:Program} {w:World} {env:Env} {e:Expr} {f:Str} {pos:Pos} {s:Shared} {Q:Value→Shared→Prop} (hb:attributeBase e f env (eval e env)=eval e env)
  (h:wpAny (model prog w) A (eval e env) (fun o s₁=>wpAny (model prog w) A (getAttr o f true) Q E s₁) E s) : wpAny (model prog w) A (eval (.Attribute e f pos) env) Q E s :=
 Attribute_any_ h (by rw [arm_eval_Attribute,hb])
end
def tFld (K:PySem.W.Frag) (ta:TE) (f:Str) : TE:=fun σ H Q=>ta σ H fun x H1=>onR x fun a=>∃ C dx fs,H1 a=some (.ins C dx fs)∧Cls K C∧NoAttr K C f∧∃ v,fs.lookup f=some v∧Q v H1
def sFld (K:PySem.W.Frag) (ta tv:TE) (f:Str) : TS:=fun D σ H=>tv σ H fun y H1=>ta σ H1 fun x H2=>onR x fun a=>∃ C dx fs,H2 a=some (.ins C dx fs)∧Cls K C∧NoAttr K C f∧fs.length < 1000 ∧
 D.nx σ (upd H2 a (.ins C dx (putF f y fs)))
def InOp (X:Cx) (op:Operator) (rd:V→V→Hp→VK→Prop) : Prop :=
 ∀ (pins:List (Addr × Obj)) (s:Shared) (σ:St) (H:Hp) (x y:V) (u v:Value) (Q:VK),Inv X pins σ H s→RelV x u→RelV y v→rd x y H Q→wpAny (model X.prog X.w) X.A (inplaceOp op u v) (EP X pins σ Q) X.xe s
def sFldAug (K:PySem.W.Frag) (ta tv:TE) (rd:V→V→Hp→VK→Prop) (f:Str) : TS:=fun D σ H=>ta σ H fun x H1=>onR x fun a=>∃ C dx fs,H1 a=some (.ins C dx fs)∧Cls K C∧NoAttr K C f∧∃ v,fs.lookup f=some v ∧
 tv σ H1 fun y H2=>rd v y H2 fun z H3=>∃ dx' fs',H3 a=some (.ins C dx' fs')∧fs'.length < 1000∧D.nx σ (upd H3 a (.ins C dx' (putF f z fs')))
section
variable {X:Cx} {o e value:Expr} {f:Str} {pos pos' tpos:Pos} {ta tv:TE}
theorem pe_fld (he:PE X e ta) (hb:attributeBase e f X.env (eval e X.env)=eval e X.env) : PE X (.Attribute e f pos) (tFld X.K ta f):=by
 intro pins s σ H Q I h
 refine attr_of hb (thn (he pins s σ H _ I h) fun u s1 ⟨x,H1,I1,rx,z⟩=>?_)
 obtain ⟨a,rfl,C,dx,fs,ea,c,n,v,l,q⟩:=onR_e.mp z
 obtain rfl:u=Value.ref a:=rx
 exact getattr_ok I1 ea c n l fun u' s2 I2 ru=>⟨v,H1,I2,ru,q⟩
theorem ps_fld (ha:PE X o ta) (hv:PE X value tv) (hs:swapsWith value (some (.Attribute o f pos')) pos.line X.env=pure false) : PS X (.Assign [.Attribute o f pos'] value pos) (sFld X.K ta tv f):=by
 intro pins s σ H D I h
 refine plainObj_wpAny_Assign_Attribute (thn (hv pins s σ H _ I h) fun u s1 ⟨y,H1,I1,ry,q⟩=>thn (ha pins s1 σ H1 _ I1 q) fun ov s2 ⟨x,H2,I2,rx,z⟩=>?_) hs
 obtain ⟨a,rfl,C,dx,fs,ea,c,n,l,q2⟩:=onR_e.mp z
 obtain rfl:ov=Value.ref a:=rx
 exact setattr_ok I2 ea c n l ry fun s3 I3=>⟨σ,_,I3,q2⟩
theorem ps_fldaug {op:Operator} {rd:V→V→Hp→VK→Prop} (ha:PE X o ta) (hv:PE X value tv) (hop:InOp X op rd) : PS X (.AugAssign (.Attribute o f tpos) op value pos) (sFldAug X.K ta tv rd f):=by
 intro pins s σ H D I h
 refine wpAny_AugAssign_AttributeAny (thn (ha pins s σ H _ I h) fun ov s1 ⟨x,H1,I1,rx,z⟩=>?_)
 obtain ⟨a,rfl,C,dx,fs,ea,c,n,v,l,q⟩:=onR_e.mp z
 obtain rfl:ov=Value.ref a:=rx
 refine getattr_ok I1 ea c n l fun u s2 I2 ru=>thn (hv pins s2 σ H1 _ I2 q) fun w3 s3 ⟨y,H2,I3,ry,q3⟩=>thn (hop pins s3 σ H2 v y u w3 _ I3 ru ry q3) fun w4 s4 ⟨z,H3,I4,rz,dx',fs',ea',l',q4⟩=>?_
 exact setattr_ok I4 ea' c n l' rz fun s5 I5=>⟨σ,_,I5,q4⟩
def rAdd :V→V→Hp→VK→Prop:=fun x y H Q=>onI x fun i=>onI y fun j=>Q (.int (i+j)) H
theorem in_add :InOp X .Add rAdd:=by
 intro pins s σ H x y u v Q I rx ry h
 obtain ⟨i,rfl,h2⟩:=onI_e.mp h
 obtain ⟨j,rfl,q⟩:=onI_e.mp h2
 obtain ⟨t,rfl⟩:=(show ∃ t,u=Value.int i t from rx)
 obtain ⟨t',rfl⟩:=(show ∃ t',v=Value.int j t' from ry)
 exact PyProof.Rows.iadd_int ⟨.int (i+j),H,I.tok _,⟨_,rfl⟩,q⟩
end
section
variable {X:Cx} {pins:List (Addr × Obj)} {σ:St} {H:Hp} {s:Shared} {A:Around} {E:Value→Shared→Prop} {Q:Value→Shared→Prop} {c:Value} {b:Bool}
inductive TyOf (K:PySem.W.Frag) (H:Hp) : V→Value→Prop where
 | non:TyOf K H .non (.type "NoneType")
 | bl (x:Bool) : TyOf K H (.bl x) (.type "bool")
 | int (i:Int) : TyOf K H (.int i) (.type "int")
 | str (x:Str) : TyOf K H (.str x) (.type "str")
 | flt (x:UInt64) : TyOf K H (.flt x) (.type "float")
 | lst {a:Addr} {xs:List V} (e:H a=some (.lst xs)) : TyOf K H (.ref a) (.type "list")
 | frz {a:Addr} {o:Obj} {xs:List V} (e:H a=some (.frz o (.lst xs))) : TyOf K H (.ref a) (.type "list")
 | tup {a:Addr} {xs:List V} (e:H a=some (.tup xs)) : TyOf K H (.ref a) (.type "tuple")
 | dK {a:Addr} {kvs:List (Key × V)} (e:H a=some (.dK kvs)) : TyOf K H (.ref a) (.type "dict")
 | dT {a:Addr} {kvs:List (List Key × V)} (e:H a=some (.dT kvs)) : TyOf K H (.ref a) (.type "dict")
 | ins {a C dx:Addr} {fs:List (Str × V)} (e:H a=some (.ins C dx fs)) (cl:Cls K C) (ha:PySem.W.findIn K (.ref C) "__class__" = some (some (.builtin "object.__class__")))
   (hn:PySem.W.specialIn K (.builtin "object.__class__") "__get__" = some (some (.builtin "getset_descriptor.__get__"))) (htk:PySem.W.takesIn K (.builtin "object.__class__")=some true)
   (hm:PySem.W.mroIn K C (.type "object")=some true) : TyOf K H (.ref a) (.ref C)
end
end L2
namespace L2
open PySem PySem.Spec PyProof.Rows
structure Room (k:Nat) (A:Around) : Prop where
 hd:A.handled=none
 dp:A.depth+3*k+5 < recursionLimit
 un:A.units+16*k+200 < cLine
theorem Room.mono {j k:Nat} {A:Around} (r:Room k A) (h:j≤k) : Room j A:=⟨r.hd,by have:=r.dp;omega,by have:=r.un;omega⟩
theorem Room.deeper {k:Nat} {A:Around} (r:Room (k+1) A) (env:Env) : Room k (A.deeper env) :=
 ⟨r.hd,by have:=r.dp;show A.depth+1+3*k+5 < _;omega,by have:=r.un;show A.units+3+16*k+200 < _;omega⟩
theorem make_depth {A:Around} {C:Addr} {us:List Value} {kw:List (Str × Value)}:(A.under (.builtin "type.__call__" ⟨.ref C :: us,kw⟩)).depth=A.depth+1:=by
 first | rfl | simp [Around.under,Code.weight,Code.isCreation,Code.isGuard,Code.isCaller,Code.frames,Code.isFrame,guardIds]
theorem make_units {A:Around} {C:Addr} {us:List Value} {kw:List (Str × Value)}:(A.under (.builtin "type.__call__" ⟨.ref C :: us,kw⟩)).units=A.units+1:=by
 first | rfl | simp [Around.under,Code.cUnits,Code.frames,Code.isFrame]
theorem Room.make {k:Nat} {A:Around} (r:Room (k+1) A) (C:Addr) (us:List Value) (kw:List (Str × Value)) : Room k (A.under (.builtin "type.__call__" ⟨.ref C :: us,kw⟩)) :=
 ⟨r.hd,by have:=r.dp;rw [make_depth];omega,by have:=r.un;rw [make_units];omega⟩
theorem Room.depth {k:Nat} {A:Around} (r:Room k A) : A.depth < recursionLimit:=by have:=r.dp;omega
theorem Room.units {k:Nat} {A:Around} (r:Room k A) : A.units+64 < cLine:=by have:=r.un;omega
def tNil :TA:=fun _ H Q=>Q [] H
def tCons (ta:TE) (tr:TA) : TA:=fun σ H Q=>ta σ H fun x H1=>tr σ H1 fun xs H2=>Q (x :: xs) H2
section
variable {X:Cx} {e:Expr} {es:List Expr} {te:TE} {t:TA} {pos:Pos}
theorem pa_nil :PA X [] tNil:=fun _ _ _ _ H Q I h=>Calls.spliced_nil ⟨[],H,I,.nil,h⟩
theorem pa_cons (ha:PE X e te) (hr:PA X es t) (hs:starEach (e :: es) X.env=(false,eval e X.env) :: starEach es X.env:=by rfl) : PA X (e :: es) (tCons te t):=by
 intro pos pins s σ H Q I h
 rw [hs]
 show wpAny _ _ (spliced ((false,eval e X.env) :: backTo pos (starEach es X.env))) _ _ s
 refine Calls.spliced_cons (thn (ha pins s σ H _ I h) fun u s1 ⟨x,H1,I1,r1,q1⟩=>?_)
 exact thn (hr pos pins s1 σ H1 _ I1 q1) fun us s2 ⟨xs,H2,I2,r2,q2⟩=>⟨x :: xs,H2,I2,.cons r1 r2,q2⟩
def tTup (t:TA) : TE:=fun σ H Q=>t σ H fun xs H1=>xs.length≤sizeLine∧∀ p,H1 p=none→Q (.ref p) (upd H1 p (.tup xs))
def tLst (t:TA) : TE:=fun σ H Q=>t σ H fun xs H1=>xs.length≤sizeLine∧∀ p,H1 p=none→Q (.ref p) (upd H1 p (.lst xs))
theorem pe_tup {x1} (h:PA X es t) : PE X (.Tuple es x1 pos) (tTup t):=by
 intro pins s σ H Q I hq
 refine wpAny_Tuple_spliced (thn (h pos pins s σ H _ I hq) fun us s1 ⟨xs,H1,I1,r,z,q⟩=>⟨by rw [←r.length];exact z,?_⟩)
 have hf:H1 s1.heap.objs.size=none:=I1.hok.fresh (Nat.le_refl _)
 refine ⟨.ref s1.heap.objs.size,upd H1 s1.heap.objs.size (.tup xs),I1.laid (t':=s1.toks) (fun b u e=>Heap.get?_push_of_some _ e) (Nat.le_refl _) ?_,rfl,q _ hf⟩
 exact ⟨z,us,r,⟨_,Heap.get?_push_size _ rfl,rfl,_,rfl⟩⟩
theorem pe_lst (h:PA X es t) : PE X (.List es pos) (tLst t):=by
 intro pins s σ H Q I hq
 refine wpAny_List_spliced (thn (h pos pins s σ H _ I hq) fun us s1 ⟨xs,H1,I1,r,z,q⟩=>⟨by rw [←r.length];exact z,?_⟩)
 have hf:H1 s1.heap.objs.size=none:=I1.hok.fresh (Nat.le_refl _)
 refine ⟨.ref s1.heap.objs.size,upd H1 s1.heap.objs.size (.lst xs),I1.laid (t':=s1.toks) (fun b u e=>Heap.get?_push_of_some _ e) (Nat.le_refl _) ?_,rfl,q _ hf⟩
 exact ⟨z,us,0,r,Heap.get?_push_size _ rfl⟩
end
abbrev Sp :=List V→Hp→VK→XK→Prop
abbrev CXT :=List Env→Hp→Shared→XK→Value→Shared→Prop
structure Env0 (P:Program) (w:World) (K:PySem.W.Frag) (mg:Str→Option Value) (base:Heap) (A:Around) (outer:List Env) (s:Shared) (H:Hp) : Prop where
 frames:A.frames=some outer
 mod:Mod K mg base
 bs:∀ b o,base.get? b=some o→s.heap.get? b=some o∧H b=none
 bsz:base.objs.size≤s.heap.objs.size
 funs:s.heap.FunFrames base outer
 frf:∀ b∈frs outer,H b=none
 hok:HOk P w H s.heap
 bare:AllBare s.gens
def CE (outer:List Env) (P:Program) (w:World) (H:Hp) (s:Shared) (Q:VK) (u:Value) (s':Shared) : Prop :=
 ∃ v H',s'.os=s.os∧AllBare s'.gens∧Un (frs outer) [] H H' s.heap s'.heap∧HOk P w H' s'.heap∧RelV v u∧Q v H'
def CR (CX:CXT) (outer:List Env) (P:Program) (w:World) (H:Hp) (s:Shared) (Q:VK) (E:XK) (r:Result) (s':Shared) : Prop :=
 match r with
 | .ok (.ret u)=>CE outer P w H s Q u s'
 | .ok _=>False
 | .error e=>CX outer H s E e s'
structure FnOk (P:Program) (w:World) (K:PySem.W.Frag) (mg:Str→Option Value) (base:Heap) (CX:CXT) (k:Nat) (f:Addr) (fd:FuncData) (ps:List Str) (sp:Sp) : Prop where
 len:∀ vs H Q E,sp vs H Q E→vs.length=ps.length
 run:∀ (A:Around) (outer:List Env) (s:Shared) (H:Hp) (args:Args) (us:List Value) (vs:List V) (Q:VK) (E:XK),Room k A→Env0 P w K mg base A outer s H→BindsTo s fd args (ps.zip us)→Vals vs us→sp vs H Q E →
  codeAny (model P w) A (.call (.ref f) args) (CR CX outer P w H s Q E) s
theorem FnOk.mono {P:Program} {w:World} {K:PySem.W.Frag} {mg:Str→Option Value} {base:Heap} {CX:CXT} {j k:Nat} {f:Addr} {fd:FuncData} {ps:List Str} {sp:Sp} (F:FnOk P w K mg base CX j f fd ps sp) (h:j≤k) :
  FnOk P w K mg base CX k f fd ps sp:=⟨F.len,fun A outer s H args us vs Q E hr=>F.run A outer s H args us vs Q E (hr.mono h)⟩
theorem FnOk.imp {P:Program} {w:World} {K:PySem.W.Frag} {mg:Str→Option Value} {base:Heap} {CX:CXT} {k:Nat} {f:Addr} {fd:FuncData} {ps:List Str} {sp sp':Sp} (F:FnOk P w K mg base CX k f fd ps sp)
  (h:∀ vs H Q E,sp' vs H Q E→sp vs H Q E) : FnOk P w K mg base CX k f fd ps sp' :=
 ⟨fun vs H Q E q=>F.len vs H Q E (h _ _ _ _ q),fun A outer s H args us vs Q E hr he hb hv hs=>F.run A outer s H args us vs Q E hr he hb hv (h _ _ _ _ hs)⟩
theorem Env0.make {P:Program} {w:World} {K:PySem.W.Frag} {mg:Str→Option Value} {base:Heap} {A:Around} {outer:List Env} {s:Shared} {H:Hp} (e:Env0 P w K mg base A outer s H) (C:Addr) (us:List Value) (kw:List (Str × Value)) :
  Env0 P w K mg base (A.under (.builtin "type.__call__" ⟨.ref C :: us,kw⟩)) outer s H:=⟨by first | exact e.frames | (simpa [Around.under,Code.envs,Code.isFrame,pushEnvs] using e.frames),e.mod,e.bs,e.bsz,e.funs,e.frf,e.hok,e.bare⟩
section
variable {X:Cx} {pins:List (Addr × Obj)} {σ:St} {H:Hp} {s s':Shared}
theorem Inv.env0 (I:Inv X pins σ H s) : Env0 X.prog X.w X.K X.mg X.base X.A X.stack s H :=
 ⟨I.ok.frames,I.ok.mod,I.bs,Nat.le_trans I.ok.bsz I.sz,I.stack,I.stkFree,I.hok,I.bare⟩
theorem Inv.after {Q:VK} {u:Value} (I:Inv X pins σ H s) (h:CE X.stack X.prog X.w H s Q u s') : EP X pins σ Q u s':=by
 obtain ⟨v,H',os,bare,un,hok,r,q⟩:=h
 obtain ⟨hh,g,d,t,os'⟩:=s'
 obtain rfl:os'=s.os:=os
 exact ⟨v,H',I.call (h':=hh) (g':=g) (d':=d) (t':=t) (ch:=[]) un hok bare (fun b z=>absurd z (by simp)),r,q⟩
end
def tCall (sp:Sp) (dvs:List V) (E:XK) (t:TA) : TE:=fun σ H Q=>t σ H fun vs H1=>sp (vs ++ dvs) H1 Q E
def tMeth (C:Addr) (m:Str) (sp:Sp) (dvs:List V) (E:XK) (ta:TE) (t:TA) : TE:=fun σ H Q=>ta σ H fun x H1=>onR x fun a=>∃ dx fs,H1 a=some (.ins C dx fs)∧fs.lookup m=none ∧
 t σ H1 fun vs H2=>sp (x :: (vs ++ dvs)) H2 Q E
def tMake (C:Addr) (sp:Sp) (dvs:List V) (E:XK) (t:TA) : TE:=fun σ H Q=>t σ H fun vs H1=>∀ x dx,H1 x=none→H1 dx=none→dx≠x →
 sp (.ref x :: (vs ++ dvs)) (upd (upd H1 dx (.own x)) x (.ins C dx [])) (fun v H2=>v=.non∧Q (.ref x) H2) E
def Binds (K:PySem.W.Frag) (fd:FuncData) (ps:List Str) (ds:List Value) : Prop :=
 ∀ (s:Shared) (us:List Value),K.In s.heap→(us ++ ds).length=ps.length→BindsTo s fd ⟨us,[]⟩ (ps.zip (us ++ ds))
theorem Binds.all {K:PySem.W.Frag} {fd:FuncData} {ps:List Str} (h:∀ us:List Value,us.length=ps.length→bindArgs fd ⟨us,[]⟩=pure (ps.zip us)) : Binds K fd ps []:=fun s us _ hl=>by
 rw [List.append_nil] at hl ⊢
 exact .of_eq (h us hl)
def Passes (CX:CXT) (X:Cx) (E:XK) : Prop:=∀ (pins:List (Addr × Obj)) (σ:St) (H:Hp) (s:Shared) (e:Value) (s':Shared),Inv X pins σ H s→CX X.stack H s E e s'→X.xe e s'
section
variable {X:Cx} {CX:CXT} {k:Nat} {f C:Addr} {fd:FuncData} {ps:List Str} {sp:Sp} {dvs:List V} {ds:List Value} {E:XK} {x m:Str} {p pos apos:Pos} {e o:Expr} {es:List Expr} {ta:TE} {t:TA}
theorem run_fn {pins:List (Addr × Obj)} {σ:St} {H:Hp} {s:Shared} {Q:VK} {us:List Value} {vs:List V} (F:FnOk X.prog X.w X.K X.mg X.base CX k f fd ps sp) (hr:Room k X.A) (hb:Binds X.K fd ps ds) (hd:Vals dvs ds) (hx:Passes CX X E)
  (I:Inv X pins σ H s) (r:Vals vs us) (h:sp (vs ++ dvs) H Q E) : wpAny (model X.prog X.w) X.A (call (.ref f) us) (EP X pins σ Q) X.xe s:=by
 have r2:Vals (vs ++ dvs) (us ++ ds):=r.append hd
 have hl:(us ++ ds).length=ps.length:=by rw [←r2.length];exact F.len _ _ _ _ h
 refine wpAny_call (codeAny_mono (F.run X.A X.stack s H ⟨us,[]⟩ (us ++ ds) (vs ++ dvs) Q E hr I.env0 (hb s us I.kIn hl) r2 h) fun r s' hq=>?_)
 cases r with
 | error e=>exact hx pins σ H s e s' I hq
 | ok fl =>
  cases fl with
  | ret u=>exact I.after hq
  | next=>exact False.elim hq
  | brk=>exact False.elim hq
  | cont=>exact False.elim hq
theorem pe_call (F:FnOk X.prog X.w X.K X.mg X.base CX k f fd ps sp) (hr:Room k X.A) (hg:Gl X x) (hm:X.mg x=some (.ref f)) (hk:PySem.W.keepIn X.K (.ref f)=true) (hb:Binds X.K fd ps ds) (hd:Vals dvs ds) (hx:Passes CX X E)
  (ha:PA X (e :: es) t) (hdb:(x == ("__debug__" : Str))=false:=by decide) (he:starEach (e :: es) X.env=(false,eval e X.env) :: starEach es X.env:=by rfl) (hpl:(backTo pos (starEach es X.env)).any (·.1)=false:=by rfl) :
  PE X (.Call (.Name x p) (e :: es) [] pos) (tCall sp dvs E t):=by
 intro pins s σ H Q I h
 refine wpAny_Call_Name_kw (ld_glob I hg hm ?_ hdb)
 refine PySem.W.callWith_K (h₀:=X.base) I.ok.mod.kin hk (thn (ha pos pins s σ H _ I h) fun us s1 ⟨vs,H1,I1,r,q⟩=>⟨I1.kIn,?_⟩) he hpl
 exact run_fn F hr hb hd hx I1 r q
theorem pe_meth {pl:Sem Bool} (he:PE X o ta) (c:Cls X.K C) (hm:Meth X.K C m f) (F:FnOk X.prog X.w X.K X.mg X.base CX k f fd ps sp) (hr:Room k X.A) (hb:Binds X.K fd ps ds) (hd:Vals dvs ds) (hx:Passes CX X E) (ha:PA X (e :: es) t)
  (hst:starEach (e :: es) X.env=(false,eval e X.env) :: starEach es X.env:=by rfl) (hpl:(backTo pos (starEach es X.env)).any (·.1)=false:=by rfl)
  (ht:eval (.Call (.Attribute o m apos) (e :: es) [] pos) X.env=(do
   let ov ←eval o X.env
   standAt apos.atName
   let (f,first) ←holding [ov] (getMethod ov m pl)
   callWith pos f first (backTo pos (starEach (e :: es) X.env)) (backToKw pos (keywordEach [] X.env))):=by rfl) :
  PE X (.Call (.Attribute o m apos) (e :: es) [] pos) (tMeth C m sp dvs E ta t):=by
 intro pins s σ H Q I h
 refine PySem.W.methodCall_KW (pl:=pl) (thn (he pins s σ H _ I h) fun u s1 ⟨x,H1,I1,rx,z⟩=>?_) ht
 obtain ⟨a,rfl,dx,fs,ea,l,q⟩:=onR_e.mp z
 obtain rfl:u=Value.ref a:=rx
 refine getmeth_ok I1 ea c hm l ?_
 refine PySem.W.callWith_K (first:=[.ref a]) (h₀:=X.base) I.ok.mod.kin hm.kp (thn (ha pos pins s1 σ H1 _ I1 q) fun us s2 ⟨vs,H2,I2,r,q2⟩=>⟨I2.kIn,?_⟩) hst hpl
 exact run_fn (us:=.ref a :: us) (vs:=.ref a :: vs) F hr hb hd hx I2 (.cons rfl r) q2
theorem pe_meth0 {pl:Sem Bool} (he:PE X o ta) (c:Cls X.K C) (hm:Meth X.K C m f) (F:FnOk X.prog X.w X.K X.mg X.base CX k f fd ps sp) (hr:Room k X.A) (hb:Binds X.K fd ps ds) (hd:Vals dvs ds) (hx:Passes CX X E)
  (ht:eval (.Call (.Attribute o m apos) [] [] pos) X.env=(do
   let ov ←eval o X.env
   standAt apos.atName
   let (f,first) ←holding [ov] (getMethod ov m pl)
   callWith pos f first (backTo pos (starEach [] X.env)) (backToKw pos (keywordEach [] X.env))):=by rfl) :
  PE X (.Call (.Attribute o m apos) [] [] pos) (tMeth C m sp dvs E ta tNil):=by
 intro pins s σ H Q I h
 refine PySem.W.methodCall_KW (pl:=pl) (thn (he pins s σ H _ I h) fun u s1 ⟨x,H1,I1,rx,z⟩=>?_) ht
 obtain ⟨a,rfl,dx,fs,ea,l,q⟩:=onR_e.mp z
 obtain rfl:u=Value.ref a:=rx
 refine getmeth_ok I1 ea c hm l ?_
 exact PySem.W.callWith_K0 (first:=[.ref a]) I1.kIn hm.kp (run_fn (us:=[.ref a]) (vs:=[.ref a]) F hr hb hd hx I1 (.cons rfl .nil) q)
structure Mk (K:PySem.W.Frag) (C f:Addr) : Prop where
 makes:PySem.W.makesIn K C=true
 init:PySem.W.findIn K (.ref C) "__init__" = some (some (.ref f))
 fn:PySem.W.isFn K (.ref f)=true
 kp:PySem.W.keepIn K (.ref C)=true
theorem run_make {pins:List (Addr × Obj)} {σ:St} {H:Hp} {s:Shared} {Q:VK} {us:List Value} {vs:List V} (M:Mk X.K C f) (F:FnOk X.prog X.w X.K X.mg X.base CX k f fd ps sp) (hr:Room (k+1) X.A) (hb:Binds X.K fd ps ds) (hd:Vals dvs ds)
  (hx:Passes CX X E) (I:Inv X pins σ H s) (r:Vals vs us)
  (h:∀ x dx,H x=none→H dx=none→dx≠x→sp (.ref x :: (vs ++ dvs)) (upd (upd H dx (.own x)) x (.ins C dx [])) (fun v H2=>v=.non∧Q (.ref x) H2) E) :
  wpAny (model X.prog X.w) X.A (call (.ref C) us) (EP X pins σ Q) X.xe s:=by
 have hq:=h (s.heap.objs.size+1) s.heap.objs.size (I.hok.fresh (Nat.le_succ _)) (I.hok.fresh (Nat.le_refl _)) (Nat.ne_of_lt (Nat.lt_succ_self _))
 have I2:=Inv.made (C:=C) I
 have r2:Vals (V.ref (s.heap.objs.size+1) :: (vs ++ dvs)) (Value.ref (s.heap.objs.size+1) :: (us ++ ds)):=.cons rfl (r.append hd)
 have hl:(Value.ref (s.heap.objs.size+1) :: us ++ ds).length=ps.length:=by
  have e:=r2.length
  rw [F.len _ _ _ _ hq] at e
  exact e.symm
 refine wpAny_call (make_map (f:=f) I.kIn M.makes M.init (beq_iff_eq.mp M.fn) (codeAny_mono (F.run _ X.stack _ _ ⟨Value.ref (s.heap.objs.size+1) :: us,[]⟩ (Value.ref (s.heap.objs.size+1) :: (us ++ ds)) _ _ E (hr.make C us [])
  (I2.env0.make C us []) (hb _ (Value.ref (s.heap.objs.size+1) :: us) I2.kIn hl) r2 hq) fun r s' hq'=>?_))
 cases r with
 | error e=>exact hx pins σ _ _ e s' I2 hq'
 | ok fl =>
  cases fl with
  | ret u =>
   obtain ⟨v,H',I3,rv,ev,q3⟩:=I2.after hq'
   subst ev
   exact ⟨rv,⟨V.ref (s.heap.objs.size+1),H',I3,rfl,q3⟩⟩
  | next=>exact False.elim hq'
  | brk=>exact False.elim hq'
  | cont=>exact False.elim hq'
theorem pe_make (M:Mk X.K C f) (F:FnOk X.prog X.w X.K X.mg X.base CX k f fd ps sp) (hr:Room (k+1) X.A) (hg:Gl X x) (hm:X.mg x=some (.ref C)) (hb:Binds X.K fd ps ds) (hd:Vals dvs ds) (hx:Passes CX X E)
  (ha:PA X (e :: es) t) (hdb:(x == ("__debug__" : Str))=false:=by decide) (he:starEach (e :: es) X.env=(false,eval e X.env) :: starEach es X.env:=by rfl) (hpl:(backTo pos (starEach es X.env)).any (·.1)=false:=by rfl) :
  PE X (.Call (.Name x p) (e :: es) [] pos) (tMake C sp dvs E t):=by
 intro pins s σ H Q I h
 refine wpAny_Call_Name_kw (ld_glob I hg hm ?_ hdb)
 refine PySem.W.callWith_K (h₀:=X.base) I.ok.mod.kin M.kp (thn (ha pos pins s σ H _ I h) fun us s1 ⟨vs,H1,I1,r,q⟩=>⟨I1.kIn,?_⟩) he hpl
 exact run_make M F hr hb hd hx I1 r q
theorem pe_make0 (M:Mk X.K C f) (F:FnOk X.prog X.w X.K X.mg X.base CX k f fd ps sp) (hr:Room (k+1) X.A) (hg:Gl X x) (hm:X.mg x=some (.ref C)) (hb:Binds X.K fd ps ds) (hd:Vals dvs ds) (hx:Passes CX X E)
  (hdb:(x == ("__debug__" : Str))=false:=by decide) : PE X (.Call (.Name x p) [] [] pos) (tMake C sp dvs E tNil):=by
 intro pins s σ H Q I h
 refine wpAny_Call_Name_kw (ld_glob I hg hm ?_ hdb)
 exact PySem.W.callWith_K0 I.kIn M.kp (run_make (us:=[]) M F hr hb hd hx I .nil h)
end
section
variable {X:Cx} {CX:CXT} {k:Nat} {f C:Addr} {fd:FuncData} {ps ks:List Str} {sp:Sp} {E:XK} {x m:Str} {p pos apos kpos:Pos} {e o:Expr} {es:List Expr} {kws:List Keyword} {te ta:TE} {t tk:TA} {nm:Option Str}
structure KBinds (K:PySem.W.Frag) (fd:FuncData) (ps ks:List Str) (g:List Value→List Value→List Value) (gV:List V→List V→List V) : Prop where
 to:∀ (s:Shared) (us ws:List Value),K.In s.heap→(g us ws).length=ps.length→BindsTo s fd ⟨us,ks.zip ws⟩ (ps.zip (g us ws))
 rel:∀ {vs:List V} {us:List Value} {zs:List V} {ws:List Value},Vals vs us→Vals zs ws→Vals (gV vs zs) (g us ws)
variable {g:List Value→List Value→List Value} {gV:List V→List V→List V}
end
structure FnScope (N P:List Str) (sc:Scope) : Prop where
 kind:sc.kind=.function
 co:sc.isCoroutine=false
 gen:sc.isGenerator=false
 nd:N.Nodup
 pre:N.take P.length=P
 par:∀ x∈P,sc.names.lookup x=some .local∨sc.names.lookup x=some .cell
 nofree:∀ y∈sc.names,y.2≠.free
theorem bindL_out {kindOf:Str→Option NameKind} {x:Str}:∀ {binds:List (Str × Value)} {m:Str→Option Value},(∀ v,(x,v)∉binds)→bindL kindOf binds m x=m x
 | [],_,_=>rfl
 | (n,v) :: r,m,h=>by
  unfold bindL
  rw [bindL_out fun w hw=>h w (List.mem_cons_of_mem _ hw)]
  split
  ·have:x≠n:=by rintro rfl;exact h v List.mem_cons_self
   simp [this]
  ·rfl
theorem bindC_out {kindOf:Str→Option NameKind} {x:Str}:∀ {binds:List (Str × Value)} {m:Str→Option Value},(∀ v,(x,v)∉binds)→bindC kindOf binds m x=m x
 | [],_,_=>rfl
 | (n,v) :: r,m,h=>by
  unfold bindC
  rw [bindC_out fun w hw=>h w (List.mem_cons_of_mem _ hw)]
  split
  ·rfl
  ·have:x≠n:=by rintro rfl;exact h v List.mem_cons_self
   simp [this]
theorem bindL_get {kindOf:Str→Option NameKind} {x:Str} {v:Value}:∀ {P:List Str} {vs:List Value} {i:Nat} {m:Str→Option Value},P.Nodup→P[i]? = some x→vs[i]? = some v→kindOf x=some .local →
  bindL kindOf (P.zip vs) m x=some v
 | [],_,_,_,_,h,_,_=>by simp at h
 | _ :: _,[],_,_,_,_,h,_=>by simp at h
 | p :: P,w :: vs,0,m,nd,h1,h2,hk=>by
  simp at h1 h2;subst h1;subst h2
  show bindL kindOf ((p,w) :: P.zip vs) m p=_
  unfold bindL
  rw [bindL_out fun v hv=>(List.nodup_cons.mp nd).1 (List.of_mem_zip hv).1,if_pos hk]
  simp
 | p :: P,w :: vs,i+1,m,nd,h1,h2,hk=>by
  show bindL kindOf ((p,w) :: P.zip vs) m x=_
  unfold bindL
  exact bindL_get (i:=i) (List.nodup_cons.mp nd).2 (by simpa using h1) (by simpa using h2) hk
theorem bindC_get {kindOf:Str→Option NameKind} {x:Str} {v:Value}:∀ {P:List Str} {vs:List Value} {i:Nat} {m:Str→Option Value},P.Nodup→P[i]? = some x→vs[i]? = some v→kindOf x≠some .local →
  bindC kindOf (P.zip vs) m x=some v
 | [],_,_,_,_,h,_,_=>by simp at h
 | _ :: _,[],_,_,_,_,h,_=>by simp at h
 | p :: P,w :: vs,0,m,nd,h1,h2,hk=>by
  simp at h1 h2;subst h1;subst h2
  show bindC kindOf ((p,w) :: P.zip vs) m p=_
  unfold bindC
  rw [bindC_out fun v hv=>(List.nodup_cons.mp nd).1 (List.of_mem_zip hv).1,if_neg hk]
  simp
 | p :: P,w :: vs,i+1,m,nd,h1,h2,hk=>by
  show bindC kindOf ((p,w) :: P.zip vs) m x=_
  unfold bindC
  exact bindC_get (i:=i) (List.nodup_cons.mp nd).2 (by simpa using h1) (by simpa using h2) hk
def start (N:List Str) (vs:List V) : St:=vs.map some ++ List.replicate (N.length - vs.length) none
noncomputable def cxOf (CX:CXT) (P:Program) (w:World) (K:PySem.W.Frag) (mg:Str→Option Value) (base:Heap) (N:List Str) (qual:Str) (scope:Scope) (f:Addr) (cd:Value) (A:Around) (outer:List Env) (s:Shared) (H:Hp) (E:XK) : Cx where
 prog:=P
 w:=w
 K:=K
 mg:=mg
 base:=base
 A:=A.deeper (envOfC qual scope s.heap.objs.size f cd)
 N:=N
 s_0:=s
 H_0:=H
 env:=envOfC qual scope s.heap.objs.size f cd
 outer:=outer
 stack:=envOfC qual scope s.heap.objs.size f cd :: outer
 ex:=[]
 calm:=true
 fn:=fun _=>true
 pn:=[]
 xe:=fun e s'=>wpAny (model P w) (A.deeper (envOfC qual scope s.heap.objs.size f cd)) (leaving (envOfC qual scope s.heap.objs.size f cd) e) (fun _ s''=>CX outer H s E e s'') (fun e' s''=>CX outer H s E e' s'') s'
theorem cell_has {sc:Scope} {n:Nat} {x:Str} (h:sc.names.lookup x=some .cell) : ∃ c,(cellsFrom n sc.names []).lookup x=some c:=by
 have q:=PySem.W.cellsFrom_some sc.names n [] (.inl h)
 exact Option.isSome_iff_exists.mp q
theorem inv_start {CX:CXT} {P:Program} {w:World} {K:PySem.W.Frag} {mg:Str→Option Value} {base:Heap} {N ps:List Str} {qual:Str} {scope:Scope} {f:Addr} {cd:Value} {A:Around} {outer:List Env} {s s1:Shared} {H:Hp} {E:XK} {us:List Value} {vs:List V}
  (S:FnScope N ps scope) (hd:A.handled=none) (e0:Env0 P w K mg base A outer s H) (hl:vs.length=ps.length) (r:Vals vs us)
  (x:InCallC s s.heap.objs.size (bindL (envOfC qual scope s.heap.objs.size f cd).kindOf (ps.zip us) fun _=>none) (cellsFrom (s.heap.objs.size+1) scope.names []) (bindC (envOfC qual scope s.heap.objs.size f cd).kindOf (ps.zip us) fun _=>none) s1) :
  Inv (cxOf CX P w K mg base N qual scope f cd A outer s H E) [] (start N vs) H s1:=by
 have hpl:ps.length≤N.length:=by have:=congrArg List.length S.pre;rw [List.length_take] at this;omega
 obtain ⟨h1,tk,rfl,hk⟩:=x.done
 have noA:∀ b:Addr,b∉(cxOf CX P w K mg base N qual scope f cd A outer s H E).ex:=fun b z=>absurd (show b∈([] : List Addr) from z) (by simp)
 refine ⟨⟨e0.mod,S.kind,rfl,rfl,Nat.le_refl _,fun y z c h1 h2=>?_,fun y hy=>?_,fun y c _ h=>?_,fun _=>hd,Around.frames_deeper e0.frames,.inr ⟨rfl,rfl⟩,fun b z=>absurd z (noA b),e0.bs,e0.bsz,fun b _ _=>noA b,fun b z=>absurd z (noA b),e0.funs,e0.frf⟩,
  rfl,e0.bare,Un.kept hk,⟨_,x.toInCall.ns,fun i y v h1 h2 h3=>?_⟩,fun y c h=>⟨_,x.cell y c h⟩,e0.hok.fresh (Nat.le_refl _),fun y c h=>?_,fun p hp=>absurd (show p∈([] : List (Addr × Obj)) from hp) (by simp),e0.hok.kept hk,?_⟩
 ·exact name_of_addr x.apart (PySem.mem_of_lookup h1) (PySem.mem_of_lookup h2)
 ·have hy:scope.names.lookup y=some .cell∨scope.names.lookup y=some .free:=hy
  rcases hy with hy | hy
  ·exact cell_has hy
  ·exact absurd rfl (S.nofree _ (PySem.mem_of_lookup hy))
 ·exact Nat.le_of_lt (x.above y c (PySem.mem_of_lookup h))
 ·have hi:i < vs.length:=by
   unfold start at h2
   by_cases hi:i < vs.length
   ·exact hi
   ·rw [List.getElem?_append_right (by simpa using hi)] at h2
    rw [List.getElem?_replicate] at h2
    split at h2 <;> cases h2
  have ha:vs[i]? = some v:=by
   unfold start at h2
   rw [List.getElem?_append_left (by simpa using hi),List.getElem?_map] at h2
   cases e:vs[i]? with
   | none=>rw [e] at h2;cases h2
   | some a=>rw [e] at h2;cases h2;rfl
  obtain ⟨u,hu,rv⟩:=r.get ha
  have hp:ps[i]? = some y:=by
   rw [←S.pre,List.getElem?_take_of_lt (by omega)];exact h1
  have ndP:ps.Nodup:=by rw [←S.pre];exact S.nd.sublist (List.take_sublist _ _)
  refine ⟨u,rv,?_⟩
  rcases S.par y (List.mem_of_getElem? hp) with k | k
  ·exact .inl ⟨k,bindL_get ndP hp hu k⟩
  ·obtain ⟨c,e⟩:=cell_has (n:=s.heap.objs.size+1) k
   refine .inr ⟨.inl k,c,e,?_⟩
   have q:=x.cell y c e
   rw [bindC_get ndP hp hu (by show scope.names.lookup y≠_;rw [k];decide)] at q
   exact q
 ·exact e0.hok.fresh (Nat.le_of_lt (x.above y c (PySem.mem_of_lookup h)))
 ·unfold start
  show _=N.length
  rw [List.length_append,List.length_map,List.length_replicate]
  omega
theorem fn_of {CX:CXT} {P:Program} {w:World} {K:PySem.W.Frag} {mg:Str→Option Value} {base:Heap} {k:Nat} {f:Addr} {name qual:Str} {params:Arguments} {body:List Stmt} {scope:Scope} {dV kV doc pm cdv ct oc:Value} {an od:Option Addr}
  {osl:Array (Option Value)} {N ps:List Str} {sp:Sp} (lk:K.lookup f=some ⟨oc,od,.func (PySem.W.fnOf name qual params body scope dV kV doc pm an cdv ct),osl⟩) (hcd:PySem.W.codeIn K cdv qual=true) (S:FnScope N ps scope)
  (len:∀ vs H Q E,sp vs H Q E→vs.length=ps.length)
  (hbody:∀ (A:Around) (outer:List Env) (s:Shared) (H:Hp) (vs:List V) (Q:VK) (E:XK),Room k (A.deeper (envOfC qual scope s.heap.objs.size f cdv))→sp vs H Q E →
   ∃ t,PSs (cxOf CX P w K mg base N qual scope f cdv A outer s H E) body t∧t { nx:=fun _ H'=>Q .non H',rt:=Q } (start N vs) H) :
  FnOk P w K mg base CX (k+1) f (PySem.W.fnOf name qual params body scope dV kV doc pm an cdv ct) ps sp:=by
 refine ⟨len,fun A outer s H args us vs Q E hr e0 hb r hsp=>?_⟩
 have hl:=len _ _ _ _ hsp
 have KX:K.In s.heap:=e0.mod.kin.keeps fun b o e=>(e0.bs b o e).1
 have lim:s.heap.NoLimit:=e0.mod.nolimit.keeps fun b o e=>(e0.bs b o e).1
 have hkind:∀ y∈ps.zip us,scope.names.lookup y.1=some .local∨(scope.names.lookup y.1=some .cell∧((cellsFrom (s.heap.objs.size+1) scope.names []).lookup y.1).isSome=true):=fun ⟨n,v⟩ hy=>by
  rcases S.par n (List.of_mem_zip hy).1 with q | q
  ·exact .inl q
  ·exact .inr ⟨q,PySem.W.cellsFrom_some _ _ _ (.inl q)⟩
 refine codeAny_call_function hr.depth (KX _ _ lk) rfl S.co S.gen rfl (PySem.W.codeRec_of KX hcd) (hb _ _ _ _ ?_)
 refine wpAny_newFunctionEnv_cells S.kind hkind fun env he s1 x=>?_
 subst he
 refine ⟨lim.keeps x.toInCall.keep,codeAny_func ?_⟩
 obtain ⟨t,ht,hq⟩:=hbody A outer s H vs Q E (hr.deeper _) hsp
 have I:Inv (cxOf CX P w K mg base N qual scope f cdv A outer s H E) [] (start N vs) H s1:=inv_start S hr.hd e0 hl r x
 refine wpAny_mono (ht [] s1 (start N vs) H _ I hq) (fun fl s' hs=>?_) fun e s' hs=>hs
 have fin:∀ {σ':St} {H':Hp} {v:V} {u:Value},Inv (cxOf CX P w K mg base N qual scope f cdv A outer s H E) [] σ' H' s'→RelV v u→Q v H'→CE outer P w H s Q u s' :=
  fun {σ' H' v u} J rv q=>⟨v,H',J.os,J.bare,J.base,J.hok,rv,q⟩
 cases fl with
 | ret u =>
  obtain ⟨v,σ',H',J,rv,q⟩:=hs
  exact fin J rv q
 | next =>
  obtain ⟨σ',H',J,q⟩:=hs
  exact fin (v:=V.non) (u:=Value.none) J rfl q
 | brk =>
  obtain ⟨_,_,_,q⟩:=hs
  exact False.elim q
 | cont =>
  obtain ⟨_,_,_,q⟩:=hs
  exact False.elim q
end L2
namespace L2
open PySem PySem.Spec PyProof.Rows
section
variable {X:Cx} {x:Str} {p pos:Pos} {e:Expr} {es:List Expr} {t:TA} {id T:String} {r:List V→Hp→VK→Prop}
def tCB (r:List V→Hp→VK→Prop) (t:TA) : TE:=fun σ H Q=>t σ H fun vs H1=>r vs H1 Q
theorem pe_callB (hc:CallR X (.builtin id) r) (hg:Gl X x) (hm:X.mg x=none) (hv:bootBuiltins x=some (.builtin id)) (ha:PA X (e :: es) t) (hn:x ≠ "__name__":=by decide) (hdb:(x == ("__debug__" : Str))=false:=by decide)
  (he:starEach (e :: es) X.env=(false,eval e X.env) :: starEach es X.env:=by rfl) (hpl:(backTo pos (starEach es X.env)).any (·.1)=false:=by rfl) : PE X (.Call (.Name x p) (e :: es) [] pos) (tCB r t):=by
 intro pins s σ H Q I h
 refine wpAny_Call_Name_kw (ld_blt I hg hm hv ?_ hn hdb)
 exact PyProof.Rows.callWith_builtin1 (thn (ha pos pins s σ H _ I h) fun us s1 ⟨vs,H1,I1,r1,q1⟩=>hc pins s1 σ H1 vs us Q I1 r1 q1) he hpl
theorem pe_callTy (hc:CallR X (.type T) r) (hg:Gl X x) (hm:X.mg x=none) (hv:bootBuiltins x=some (.type T)) (ha:PA X (e :: es) t) (hn:x ≠ "__name__":=by decide) (hdb:(x == ("__debug__" : Str))=false:=by decide)
  (he:starEach (e :: es) X.env=(false,eval e X.env) :: starEach es X.env:=by rfl) (hpl:(backTo pos (starEach es X.env)).any (·.1)=false:=by rfl) : PE X (.Call (.Name x p) (e :: es) [] pos) (tCB r t):=by
 intro pins s σ H Q I h
 refine wpAny_Call_Name_kw (ld_blt I hg hm hv ?_ hn hdb)
 exact PyProof.Rows.callWith_type1 (thn (ha pos pins s σ H _ I h) fun us s1 ⟨vs,H1,I1,r1,q1⟩=>hc pins s1 σ H1 vs us Q I1 r1 q1) he hpl
end
end L2
namespace HT
open PySem PyProof.Rows
section
open PySem.SeqAt
open PySem.AutoSeq1 (wpAny_loadPart')
open PySem.MeetsSeq PySem.MeetsSeq2 PySem.MeetsSeq3
end
section
variable {prog:Program} {w:World} {A:Around} {E:Value→Shared→Prop} {s:Shared}
def sIx (n d:Nat) : Option Int→Nat
 | none=>d
 | some v=>if v < 0 then (v+(n:Int)).toNat else min v.toNat n
theorem sIx_none (n d:Nat) : sIx n d none=d:=rfl
theorem sIx_nat (n d k:Nat) : sIx n d (some (k:Int))=min k n:=by
 show (if (k:Int) < 0 then ((k:Int)+(n:Int)).toNat else min (k:Int).toNat n)=min k n
 rw [if_neg (by omega),Int.toNat_natCast]
end
end HT
namespace L2
open PySem PySem.Spec PyProof.Rows
abbrev TO :=St→Hp→(Option Int→Hp→Prop)→Prop
def PO (X:Cx) (e:Option Expr) (t:TO) : Prop :=
 ∀ (pins:List (Addr × Obj)) (s:Shared) (σ:St) (H:Hp) (Q:Option Int→Hp→Prop),Inv X pins σ H s→t σ H Q →
  wpAny (model X.prog X.w) X.A (evalPart e X.env) (fun u s'=>∃ o H',Inv X pins σ H' s'∧IsPart u o∧Q o H') X.xe s
def tNoPart :TO:=fun _ H Q=>Q none H
def tPart (t:TE) : TO:=fun σ H Q=>t σ H fun x H1=>onI x fun i=>Q (some i) H1
section
variable {X:Cx} {e:Expr} {te:TE} {lo hi:Option Expr} {tl th:TO} {pos p2:Pos}
theorem po_none :PO X none tNoPart:=by
 intro pins s σ H Q I h
 rw [evalPart_none]
 exact wpAny_pure ⟨none,H,I,.none,h⟩
theorem po_some (h:PE X e te) : PO X (some e) (tPart te):=by
 intro pins s σ H Q I hw
 rw [evalPart_some]
 refine thn (h pins s σ H _ I hw) fun u s1 ⟨x,H1,I1,r1,q1⟩=>?_
 obtain ⟨i,rfl,q⟩:=onI_e.mp q1
 obtain ⟨t,rfl⟩:=r1
 exact ⟨some i,H1,I1,.int i t,q⟩
def SlR (X:Cx) (r:V→Option Int→Option Int→Hp→VK→Prop) : Prop :=
 ∀ (pins:List (Addr × Obj)) (s:Shared) (σ:St) (H:Hp) (x:V) (v vl vu:Value) (lo hi:Option Int) (sl:Addr) (Q:VK),Inv X pins σ H s→RelV x v→s.heap.IsSliceOf sl vl vu .none→IsPart vl lo→IsPart vu hi→r x lo hi H Q →
  ∃ T id,typeLookup (.type T) "__getitem__" = pure (some (.builtin id))∧s.TypeIs v T∧wpAny (model X.prog X.w) X.A (getItem v (.ref sl)) (EP X pins σ Q) X.xe s
theorem SlR.or {r r':V→Option Int→Option Int→Hp→VK→Prop} (h:SlR X r) (h':SlR X r') : SlR X (fun x lo hi H Q=>r x lo hi H Q∨r' x lo hi H Q):=by
 intro pins s σ H x v vl vu lo hi sl Q I rx hs pl pu q
 rcases q with q | q
 ·exact h pins s σ H x v vl vu lo hi sl Q I rx hs pl pu q
 ·exact h' pins s σ H x v vl vu lo hi sl Q I rx hs pl pu q
def tSl (r:V→Option Int→Option Int→Hp→VK→Prop) (te:TE) (tl th:TO) : TE:=fun σ H Q=>te σ H fun x H1=>tl σ H1 fun l H2=>th σ H2 fun u H3=>r x l u H3 Q
theorem pe_slice {r:V→Option Int→Option Int→Hp→VK→Prop} (hr:SlR X r) (he:PE X e te) (hl:PO X lo tl) (hu:PO X hi th) : PE X (.Subscript e (.Slice lo hi none p2) pos) (tSl r te tl th):=by
 intro pins s σ H Q I h
 refine Subscript_ (thn (he pins s σ H _ I h) fun v s1 ⟨x,H1,I1,r1,q1⟩=>?_)
 refine wpAny_Slice (thn (hl pins s1 σ H1 _ I1 q1) fun vl s2 ⟨l,H2,I2,pl,q2⟩=>thn (hu pins s2 σ H2 _ I2 q2) fun vu s3 ⟨u,H3,I3,pu,q3⟩=>?_)
 rw [evalPart_none]
 refine wpAny_pure ?_
 have I4:Inv X pins σ H3 { s3 with heap:=s3.heap.push { cls:=.type "slice",data:=.fields #[vl,vu,.none] } }:=I3.kept (t':=s3.toks) fun b ob q=>Heap.get?_push_of_some _ q
 obtain ⟨T,id,hT,ht,hg⟩:=hr pins { s3 with heap:=s3.heap.push { cls:=.type "slice",data:=.fields #[vl,vu,.none] } } σ H3 x v vl vu l u s3.heap.objs.size Q I4 r1 (Heap.IsSliceOf.new ..) pl pu q3
 show wpAny (model X.prog X.w) X.A (subscriptTail e (.Slice lo hi none p2) v (.ref s3.heap.objs.size)) (EP X pins σ Q) X.xe { s3 with heap:=s3.heap.push { cls:=.type "slice",data:=.fields #[vl,vu,.none] } }
 exact tail_any (ops:=[.ref s3.heap.objs.size,v]) ht hT hg (by with_unfolding_all rfl)
def cutV (xs:List V) (lo hi:Option Int) : List V:=(xs.drop (HT.sIx xs.length 0 lo)).take (HT.sIx xs.length xs.length hi - HT.sIx xs.length 0 lo)
theorem cutV_length (xs:List V) (lo hi:Option Int) : (cutV xs lo hi).length≤xs.length:=by
 unfold cutV
 rw [List.length_take,List.length_drop]
 omega
end
end L2
namespace L2
open PySem PySem.Spec PyProof.Rows
def ixN (n:Nat) (i:Int) : Option Nat:=if 0≤i then (if i < n then some i.toNat else none) else if -(n:Int)≤i then some (i+n).toNat else none
def atI {α:Type} (xs:List α) (i:Int) : Option α:=(ixN xs.length i).bind fun j=>xs[j]?
theorem ixN_seq {n:Nat} {i:Int} {j:Nat} (h:ixN n i=some j) : seqIndex? i n=some j∧j < n∧-(n:Int)≤i∧i < n:=by
 unfold ixN at h
 by_cases h0:0≤i
 ·rw [if_pos h0] at h
  by_cases h1:i < n
  ·rw [if_pos h1] at h
   have e:i.toNat=j:=Option.some.inj h
   exact ⟨by rw [seqIndex_of h0 h1,e],by omega,by omega,h1⟩
  ·rw [if_neg h1] at h;cases h
 ·rw [if_neg h0] at h
  by_cases h1 : -(n:Int)≤i
  ·rw [if_pos h1] at h
   have e:(i+n).toNat=j:=Option.some.inj h
   exact ⟨by rw [seqIndex_neg (by omega) h1,e],by omega,h1,by omega⟩
  ·rw [if_neg h1] at h;cases h
theorem atI_get {α:Type} {xs:List α} {i:Int} {v:α} (h:atI xs i=some v) : ∃ j,seqIndex? i xs.length=some j∧xs[j]? = some v∧j < xs.length∧-(xs.length:Int)≤i∧i < xs.length:=by
 unfold atI at h
 cases e:ixN xs.length i with
 | none=>rw [e] at h;cases h
 | some j =>
  rw [e] at h
  obtain ⟨h1,h2,h3,h4⟩:=ixN_seq e
  exact ⟨j,h1,h,h2,h3,h4⟩
theorem atI_nat {α:Type} {xs:List α} {j:Nat} {v:α} (h:xs[j]? = some v) : atI xs (j:Int)=some v:=by
 have hj:j < xs.length:=(List.getElem?_eq_some_iff.mp h).1
 have e:ixN xs.length (j:Int)=some j:=by
  unfold ixN
  rw [if_pos (by omega),if_pos (by omega)];simp
 unfold atI;rw [e];exact h
def PlainIx (b:Expr) : Prop:=∀ o i,subscripted b false o i=operate [o,i] (getItem o i)
def IxR (X:Cx) (r:R2) : Prop :=
 ∀ (value slice:Expr) (pins:List (Addr × Obj)) (s:Shared) (σ:St) (H:Hp) (x y:V) (v u:Value) (Q:VK),Inv X pins σ H s→RelV x v→RelV y u→r x y H Q →
  subscripted slice false v u=operate [v,u] (getItem v u)→wpAny (model X.prog X.w) X.A (subscriptTail value slice v u) (EP X pins σ Q) X.xe s
def MtR (X:Cx) (id:String) (r:V→List V→Hp→VK→Prop) : Prop :=
 ∀ (pins:List (Addr × Obj)) (s:Shared) (σ:St) (H:Hp) (x:V) (xs:List V) (v:Value) (us:List Value) (Q:VK),Inv X pins σ H s→RelV x v→Vals xs us→r x xs H Q →
  wpAny (model X.prog X.w) X.A (call (.builtin id) (v :: us)) (EP X pins σ Q) X.xe s
section
variable {X:Cx} {a b:Expr} {ta tb:TE} {pos:Pos}
theorem IxR.or {r r':R2} (h:IxR X r) (h':IxR X r') : IxR X (fun x y H Q=>r x y H Q∨r' x y H Q):=by
 intro value slice pins s σ H x y v u Q I rx ry q hs
 rcases q with q | q
 ·exact h value slice pins s σ H x y v u Q I rx ry q hs
 ·exact h' value slice pins s σ H x y v u Q I rx ry q hs
theorem MtR.or {id:String} {r r':V→List V→Hp→VK→Prop} (h:MtR X id r) (h':MtR X id r') : MtR X id (fun x xs H Q=>r x xs H Q∨r' x xs H Q):=by
 intro pins s σ H x xs v us Q I rx rs q
 rcases q with q | q
 ·exact h pins s σ H x xs v us Q I rx rs q
 ·exact h' pins s σ H x xs v us Q I rx rs q
theorem pe_ix {r:R2} (hr:IxR X r) (ha:PE X a ta) (hb:PE X b tb) (hs:PlainIx b) : PE X (.Subscript a b pos) (tOp r ta tb):=by
 intro pins s σ H Q I h
 exact Subscript_ (binT ha hb I h fun v u s2 x y H2 I2 rx ry q=>hr a b pins s2 σ H2 x y v u Q I2 rx ry q (hs _ _))
def rIxL (K:PySem.W.Frag) : R2:=fun x y H Q=>onR x fun p=>onI y fun i=>∃ xs,SqL K H p xs∧∃ v,atI xs i=some v∧Q v H
theorem ix_list :IxR X (rIxL X.K):=by
 intro value slice pins s σ H x y v u Q I rx ry h hs
 obtain ⟨p,rfl,h2⟩:=onR_e.mp h
 obtain ⟨i,rfl,xs,hq,z,he,q⟩:=onI_e.mp h2
 cases rx
 obtain ⟨t,rfl⟩:=ry
 obtain ⟨its,r,pl,hz⟩:=I.list hq
 obtain ⟨j,h1,h2,h3,h4,h5⟩:=atI_get he
 obtain ⟨w,ew,rw'⟩:=r.get h2
 have hl:=r.length
 have hn:=line63
 have fin:EP X pins σ Q w s:=⟨z,H,I,rw',q⟩
 by_cases h0:0≤i
 ·have hj:i.toNat=j:=by
   rw [seqIndex_of h0 h5] at h1
   exact Option.some.inj h1
  exact item_listR pl.isList h0 (by omega) (by rw [hj];simpa using ew) fin hs
 ·have hj:(i+(its.toArray.size:Int)).toNat=j:=by
   rw [seqIndex_neg (by omega) h4] at h1
   rw [List.size_toArray,←hl]
   exact Option.some.inj h1
  exact subscriptTail_builtinR (x:=w) pl.isList.typeIs slot_list_getitem.lookup
   (wpAny_getItem_list_neg (Q:=fun r s'=>r=w∧EP X pins σ Q r s') pl.isList (by omega) (by rw [List.size_toArray] <;> omega) (by omega) (by rw [hj];simpa using ew) ⟨rfl,fin⟩) hs
theorem mapSeq_set (its:List Value) (n j:Nat) (u:Value) : Obj.mapSeq (·.setIfInBounds j u) { cls:=.type "list",data:=.seq its.toArray n }={ cls:=.type "list",data:=.seq (its.set j u).toArray n }:=by
 simp [Obj.mapSeq]
theorem Inv.lst {pins:List (Addr × Obj)} {σ:St} {H:Hp} {s:Shared} {p:Addr} {xs:List V} (I:Inv X pins σ H s) (h:H p=some (.lst xs)) :
  ∃ (its:List Value) (n:Nat),Vals xs its∧s.heap.get? p=some { cls:=.type "list",data:=.seq its.toArray n }∧xs.length≤sizeLine:=by
 obtain ⟨z,its,n,r,e⟩:=I.hok p _ h
 exact ⟨its,n,r,e,z⟩
theorem Inv.lstUpd {pins:List (Addr × Obj)} {σ:St} {H:Hp} {s:Shared} {p:Addr} {xs ys:List V} {its its':List Value} {n n':Nat} {f:Obj→Obj} (I:Inv X pins σ H s) (h:H p=some (.lst xs))
  (ho:s.heap.get? p=some { cls:=.type "list",data:=.seq its.toArray n }) (hf:f { cls:=.type "list",data:=.seq its.toArray n }={ cls:=.type "list",data:=.seq its'.toArray n' }) (r:Vals ys its') (hz:ys.length≤sizeLine) (t:Nat) :
  Inv X pins σ (upd H p (.lst ys)) { s with heap:=s.heap.update p f,toks:=t }:=by
 have e:(s.heap.update p f).get? p=some { cls:=.type "list",data:=.seq its'.toArray n' }:=by
  rw [Heap.get?_update_self f ho (by rw [hf] <;> rfl),hf]
 refine I.write (x:=p) (e:=p) (by rw [h];trivial) (.inl rfl) (fun b u hb q=>(Heap.get?_update_other _ _ (Ne.symm hb)).trans q) ⟨_,e⟩ ?_
 exact ⟨hz,its',n',r,e⟩
def rSetL :V→V→V→Hp→(Hp→Prop)→Prop:=fun o i v H Q=>onR o fun p=>onI i fun k=>∃ xs,H p=some (.lst xs)∧∃ j,ixN xs.length k=some j∧Q (upd H p (.lst (xs.set j v)))
theorem set_list :PSet X rSetL:=by
 intro pins s σ H o i v ov iv u Q I ro ri rv h
 obtain ⟨p,rfl,h2⟩:=onR_e.mp h
 obtain ⟨k,rfl,xs,hp,j,hj,q⟩:=onI_e.mp h2
 cases ro
 obtain ⟨t,rfl⟩:=ri
 obtain ⟨its,n,r,ho,hz⟩:=I.lst hp
 obtain ⟨h1,h2,h3,h4⟩:=ixN_seq hj
 have hl:=r.length
 have hn:=line63
 have I':Inv X pins σ (upd H p (.lst (xs.set j v))) { s with heap:=s.heap.update p (Obj.mapSeq (·.setIfInBounds j u)) } :=
  I.lstUpd hp ho (mapSeq_set its n j u) (r.set rv j) (by rw [List.length_set];exact hz) s.toks
 by_cases h0:0≤k
 ·have hk:k.toNat=j:=by
   rw [seqIndex_of h0 h4] at h1
   exact Option.some.inj h1
  exact PySem.W.ki_setAt ho h0 (by omega) (by rw [List.size_toArray,←hl];exact h4) (by rw [hk];exact ⟨_,I',q⟩)
 ·have hk:(k+(its.toArray.size:Int)).toNat=j:=by
   rw [seqIndex_neg (by omega) h3] at h1
   rw [List.size_toArray,←hl]
   exact Option.some.inj h1
  exact PySem.W.ki_setBack ho (by omega) (by rw [List.size_toArray,←hl];exact h3) (by omega) (by rw [hk];exact ⟨_,I',q⟩)
theorem slice_bounds (lo hi:Option Int) (n:Nat) : (sliceBounds lo hi none n).1=((HT.sIx n 0 lo:Nat) : Int)∧(sliceBounds lo hi none n).2.1=((HT.sIx n n hi:Nat) : Int)∧(sliceBounds lo hi none n).2.2=1:=by
 refine ⟨?_,?_,rfl⟩
 ·cases lo with
  | none=>simp [sliceBounds,HT.sIx]
  | some i =>
   simp only [sliceBounds,HT.sIx,Option.getD_none,show (1:Int) > 0 by decide,if_true]
   by_cases h:i < 0
   ·simp only [h,if_true] <;> omega
   ·simp only [h,if_false] <;> omega
 ·cases hi with
  | none=>simp [sliceBounds,HT.sIx]
  | some i =>
   simp only [sliceBounds,HT.sIx,Option.getD_none,show (1:Int) > 0 by decide,if_true]
   by_cases h:i < 0
   ·simp only [h,if_true] <;> omega
   ·simp only [h,if_false] <;> omega
theorem slicePick_cut (its:List Value) (lo hi:Option Int) : slicePick its.toArray lo hi none=((its.drop (HT.sIx its.length 0 lo)).take (HT.sIx its.length its.length hi - HT.sIx its.length 0 lo)).toArray:=by
 obtain ⟨h1,h2,h3⟩:=slice_bounds lo hi its.toArray.size
 unfold slicePick
 rw [h1,h2,h3]
 simp only [sliceRange_one,pick_run,List.size_toArray] <;> rfl
def rSlL (K:PySem.W.Frag) : V→Option Int→Option Int→Hp→VK→Prop:=fun x lo hi H Q=>∃ a xs,x=.ref a∧SqL K H a xs∧∀ p,H p=none→Q (.ref p) (upd H p (.lst (cutV xs lo hi)))
theorem sl_list :SlR X (rSlL X.K):=by
 intro pins s σ H x v vl vu lo hi sl Q I rx hs pl pu h
 obtain ⟨a,xs,rfl,hx,q⟩:=h
 cases rx
 obtain ⟨its,r,ht,hz⟩:=I.list hx
 have hlen:=r.length
 refine ⟨"list",_,slot_list_getitem.lookup,ht.isList.typeIs,?_⟩
 refine wpAny_getItem_list_slice ht.isList hs pl pu .none (by simp) ?_ (by rw [List.size_toArray] <;> omega)
 rw [slicePick_cut,←hlen]
 refine ⟨.ref s.heap.objs.size,_,I.laid (t':=s.toks) (o:=.lst (cutV xs lo hi)) (fun b ob q=>Heap.get?_push_of_some _ q) (Nat.le_refl _) ?_,rfl,q _ (I.hok.fresh (Nat.le_refl _))⟩
 exact ⟨Nat.le_trans (cutV_length xs lo hi) hz,_,0,(r.drop (HT.sIx xs.length 0 lo)).take (HT.sIx xs.length xs.length hi - HT.sIx xs.length 0 lo),Heap.get?_push_size _ rfl⟩
def flatV :V→Bool
 | .non=>true
 | .bl _=>true
 | .int _=>true
 | .str _=>true
 | _=>false
def eqV :V→V→Bool
 | .non,.non=>true
 | .bl a,.bl b=>a == b
 | .bl a,.int b=>(if a then 1 else 0) == b
 | .int a,.bl b=>a == (if b then 1 else 0)
 | .int a,.int b=>a == b
 | .str a,.str b=>a == b
 | _,_=>false
theorem eqAt_V {A:Around} {s:Shared} {y x:V} {u v:Value} (ry:RelV y u) (rx:RelV x v) (fy:flatV y=true) (fx:flatV x=true) : SeqAt.EqAt A s u v (eqV y x):=by
 cases y with
 | non =>
  cases ry
  cases x with
  | non=>cases rx;exact SeqAt.EqAt.same _
  | bl b=>cases rx;exact SeqAt.EqAt.none_bool b
  | int b=>obtain ⟨t,rfl⟩:=rx;exact SeqAt.EqAt.none_int b t
  | str b=>obtain ⟨t,rfl⟩:=rx;exact SeqAt.EqAt.none_str b t
  | _=>exact absurd (show false=true from fx) Bool.false_ne_true
 | bl a =>
  cases ry
  cases x with
  | non=>cases rx;exact SeqAt.EqAt.bool_none a
  | bl b=>cases rx;exact SeqAt.EqAt.bool_bool a b
  | int b=>obtain ⟨t,rfl⟩:=rx;exact SeqAt.EqAt.bool_int a b t
  | str b=>obtain ⟨t,rfl⟩:=rx;exact SeqAt.EqAt.bool_str a b t
  | _=>exact absurd (show false=true from fx) Bool.false_ne_true
 | int a =>
  obtain ⟨t',rfl⟩:=ry
  cases x with
  | non=>cases rx;exact SeqAt.EqAt.int_none a t'
  | bl b=>cases rx;exact SeqAt.EqAt.int_bool a t' b
  | int b=>obtain ⟨t,rfl⟩:=rx;exact SeqAt.EqAt.int_int a t' b t
  | str b=>obtain ⟨t,rfl⟩:=rx;exact SeqAt.EqAt.int_str a t' b t
  | _=>exact absurd (show false=true from fx) Bool.false_ne_true
 | str a =>
  obtain ⟨t',rfl⟩:=ry
  cases x with
  | non=>cases rx;exact SeqAt.EqAt.str_none a t'
  | bl b=>cases rx;exact SeqAt.EqAt.str_bool a t' b
  | int b=>obtain ⟨t,rfl⟩:=rx;exact SeqAt.EqAt.str_int a t' b t
  | str b=>obtain ⟨t,rfl⟩:=rx;exact SeqAt.EqAt.str_str a t' b t
  | _=>exact absurd (show false=true from fx) Bool.false_ne_true
 | _=>exact absurd (show false=true from fy) Bool.false_ne_true
def eqU (x:V) (u:Value) : Bool:=match u with
 | .none=>eqV .non x
 | .bool b=>eqV (.bl b) x
 | .int i _=>eqV (.int i) x
 | .str z _=>eqV (.str z) x
 | _=>false
theorem eqU_of {x y:V} {u:Value} (r:RelV y u) (f:flatV y=true) : eqU x u=eqV y x:=by
 cases y with
 | non=>cases r;rfl
 | bl b=>cases r;rfl
 | int i=>obtain ⟨t,rfl⟩:=r;rfl
 | str z=>obtain ⟨t,rfl⟩:=r;rfl
 | _=>exact absurd (show false=true from f) Bool.false_ne_true
theorem any_eqU {x:V}:∀ {xs:List V} {us:List Value},Vals xs us→xs.all flatV=true→us.any (eqU x)=xs.any fun y=>eqV y x
 | _,_,.nil,_=>rfl
 | y :: xs,u :: us,.cons r t,f=>by
  rw [List.all_cons,Bool.and_eq_true] at f
  rw [List.any_cons,List.any_cons,eqU_of r f.1,any_eqU t f.2]
theorem mem_eqAt {A:Around} {s:Shared} {x:V} {v:Value} (rx:RelV x v) (fx:flatV x=true) : ∀ {xs:List V} {us:List Value},Vals xs us→xs.all flatV=true→∀ u∈us,SeqAt.EqAt A s u v (eqU x u)
 | _,_,.nil,_=>fun u hu=>by cases hu
 | y :: xs,u :: us,.cons r t,f=>fun u' hu=>by
  rw [List.all_cons,Bool.and_eq_true] at f
  rcases List.mem_cons.mp hu with rfl | hu
  ·rw [eqU_of r f.1];exact eqAt_V r rx f.1 fx
  ·exact mem_eqAt rx fx t f.2 u' hu
def inV (x:V) (xs:List V) : Bool:=xs.any fun y=>eqV y x
def rIn (K:PySem.W.Frag) (neg:Bool) : R2:=fun x y H Q=>∃ p xs,y=.ref p∧(SqL K H p xs∨SqT K H p xs)∧flatV x=true∧xs.all flatV=true∧Q (.bl (if neg then !inV x xs else inV x xs)) H
theorem op_notIn_seq :OpR X (compareOp .NotIn) (rIn X.K true):=by
 intro pins s σ H x y v u Q I rx ry h
 obtain ⟨p,xs,rfl,hq,fx,fs,q⟩:=h
 cases ry
 rcases hq with hq | hq
 ·obtain ⟨its,r,pl,hz⟩:=I.list hq
  refine SeqAt.notIn_listAt (eqU x) pl.isList (fun w hw=>mem_eqAt rx fx r fs w (by simpa using hw)) ⟨.bl _,H,I,rfl,?_⟩
  rw [show its.toArray.any (eqU x)=its.any (eqU x) by simp,any_eqU r fs]
  exact q
 ·obtain ⟨its,r,pl,hz⟩:=I.tuple hq
  refine SeqAt.notIn_tupleAt (eqU x) pl (fun w hw=>mem_eqAt rx fx r fs w (by simpa using hw)) ⟨.bl _,H,I,rfl,?_⟩
  rw [show its.toArray.any (eqU x)=its.any (eqU x) by simp,any_eqU r fs]
  exact q
theorem call_len_seq :CallR X (.builtin "len") (fun xs H Q=>∃ p ys,xs=[.ref p]∧(SqL X.K H p ys∨SqT X.K H p ys)∧Q (.int ys.length) H):=by
 intro pins s σ H xs us Q I r h
 obtain ⟨p,ys,rfl,hq,q⟩:=h
 obtain ⟨u,rfl,rx⟩:=vals1 r
 cases rx
 have hn:=line63
 rcases hq with hq | hq
 ·obtain ⟨its,r',pl,hz⟩:=I.list hq
  have hlen:=r'.length
  exact Calls.call_len_list pl.isList (by simp only [List.size_toArray] <;> omega) ⟨.int ys.length,H,I.tok _,⟨s.toks+1,by rw [List.size_toArray,hlen]⟩,q⟩
 ·obtain ⟨its,r',pl,hz⟩:=I.tuple hq
  have hlen:=r'.length
  exact len_tuple pl (by simp only [List.size_toArray] <;> omega) ⟨.int ys.length,H,I.tok _,⟨s.toks+1,by rw [List.size_toArray,hlen]⟩,q⟩
theorem CallR.or {f:Value} {r r':List V→Hp→VK→Prop} (h:CallR X f r) (h':CallR X f r') : CallR X f (fun xs H Q=>r xs H Q∨r' xs H Q):=by
 intro pins s σ H xs us Q I rs q
 rcases q with q | q
 ·exact h pins s σ H xs us Q I rs q
 ·exact h' pins s σ H xs us Q I rs q
def tyV (K:PySem.W.Frag) (T:String) (x:V) (H:Hp) : Prop:=match x with
 | .str _=>T = "str"
 | .int _=>T = "int"
 | .ref p=>(T = "list"∧∃ xs,SqL K H p xs)∨(T = "tuple"∧∃ o,K.lookup p=some o∧o.cls=.type "tuple"∧o.dict=none) ∨
   (T = "dict"∧((∃ kvs,H p=some (.dK kvs))∨∃ kvs,H p=some (.dT kvs)))∨(T = "set"∧∃ S n,H p=some (.set S n))
 | _=>False
theorem tyV_is {pins:List (Addr × Obj)} {σ:St} {H:Hp} {s:Shared} {T:String} {x:V} {v:Value} (I:Inv X pins σ H s) (r:RelV x v) (ty:tyV X.K T x H) :
  s.TypeIs v T∧∀ a,v=.ref a→∃ ob,s.heap.get? a=some ob∧ob.dict=none:=by
 cases x with
 | str z =>
  obtain ⟨t,rfl⟩:=r
  cases (show T = "str" from ty)
  exact ⟨typeIs_str s z t,fun _ e=>nomatch e⟩
 | int i =>
  obtain ⟨t,rfl⟩:=r
  cases (show T = "int" from ty)
  exact ⟨typeIs_int s i t,fun _ e=>nomatch e⟩
 | ref p =>
  cases r
  rcases ty with ⟨rfl,xs,hq⟩ | ⟨rfl,o,hk,hc,hd⟩ | ⟨rfl,hk⟩ | ⟨rfl,S,n,hk⟩
  ·obtain ⟨its,_,pl,_⟩:=I.list hq
   refine ⟨pl.isList.typeIs,fun a e=>?_⟩
   cases e
   obtain ⟨o,n,e,c,hd,_⟩:=pl
   exact ⟨o,e,hd⟩
  ·refine ⟨⟨o,I.kIn p o hk,hc⟩,fun a e=>?_⟩
   cases e
   exact ⟨o,I.kIn _ o hk,hd⟩
  ·have z:∃ o,s.heap.get? p=some o∧o.ExactDict:=by
    rcases hk with ⟨kvs,hk⟩ | ⟨kvs,hk⟩
    ·obtain ⟨_,_,_,_,o,_,_,e,ex,_⟩:=I.hok p _ hk
     exact ⟨o,e,ex⟩
    ·obtain ⟨_,_,_,_,o,_,_,e,ex,_⟩:=I.hok p _ hk
     exact ⟨o,e,ex⟩
   obtain ⟨o,e,ex⟩:=z
   refine ⟨⟨o,e,ex.1⟩,fun a e2=>?_⟩
   cases e2
   exact ⟨o,e,ex.2.1⟩
  ·obtain ⟨o,_,_,_,e,ex,_⟩:=I.hok p _ hk
   refine ⟨⟨o,e,ex.1⟩,fun a e2=>?_⟩
   cases e2
   exact ⟨o,e,ex.2.1⟩
 | _=>exact False.elim ty
def tBM0 (K:PySem.W.Frag) (T:String) (r:V→List V→Hp→VK→Prop) (to:TE) : TE:=fun σ H Q=>to σ H fun x H1=>tyV K T x H1∧r x [] H1 Q
def tBM (K:PySem.W.Frag) (T:String) (r:V→List V→Hp→VK→Prop) (to:TE) (t:TA) : TE:=fun σ H Q=>to σ H fun x H1=>tyV K T x H1∧t σ H1 fun xs H2=>r x xs H2 Q
variable {o e:Expr} {es:List Expr} {to:TE} {t:TA} {name:Str} {apos cpos:Pos} {T id:String} {r:V→List V→Hp→VK→Prop}
theorem pe_bm0 (pa:PlainAttrs T) (slot:Slot T name id) (hty:typeOf (.builtin id)=pure (.type "method_descriptor")) (hm:MtR X id r) (ho:PE X o to)
  (hbase:attributeBase o name X.env (eval o X.env)=eval o X.env:=by rfl) (hline:(apos.endLine == cpos.line)=true:=by rfl) : PE X (.Call (.Attribute o name apos) [] [] cpos) (tBM0 X.K T r to):=by
 intro pins s σ H Q I h
 refine wpAny_Call_method0_late hbase hline (thn (ho pins s σ H _ I h) fun v s1 ⟨x,H1,I1,r1,ty,q1⟩=>?_)
 obtain ⟨h1,h2⟩:=tyV_is I1 r1 ty
 exact ⟨T,id,pa,slot,hty,h1,h2,Calls.callWith_builtin rfl (PySem.evalArgs_none (hm pins s1 σ H1 x [] v [] Q I1 r1 .nil q1))⟩
theorem pe_bm (pa:PlainAttrs T) (slot:Slot T name id) (hty:typeOf (.builtin id)=pure (.type "method_descriptor")) (hm:MtR X id r) (ho:PE X o to) (ha:PA X (e :: es) t)
  (hbase:attributeBase o name X.env (eval o X.env)=eval o X.env:=by rfl)
  (hfew:((backTo cpos (starEach (e :: es) X.env)).all (fun x=>!x.1) && (backToKw cpos (keywordEach [] X.env)).all (fun x=>x.1.isSome)
   && decide ((e :: es).length+([] : List Keyword).length+(if ([] : List Keyword).isEmpty then 0 else 1) < 30))=true:=by rfl)
  (hline:(apos.endLine == cpos.line)=true:=by rfl) (hs:starEach (e :: es) X.env=(false,eval e X.env) :: starEach es X.env:=by rfl) (hplain:(backTo cpos (starEach es X.env)).any (·.1)=false:=by rfl) :
  PE X (.Call (.Attribute o name apos) (e :: es) [] cpos) (tBM X.K T r to t):=by
 intro pins s σ H Q I h
 refine wpAny_Call_method_late hbase hfew hline rfl (thn (ho pins s σ H _ I h) fun v s1 ⟨x,H1,I1,r1,ty,q1⟩=>?_)
 obtain ⟨h1,h2⟩:=tyV_is I1 r1 ty
 refine ⟨T,id,pa,slot,hty,h1,h2,?_⟩
 have hA:=ha cpos pins s1 σ H1 _ I1 q1
 rw [hs] at hA ⊢
 refine Calls.callWith_builtin (by show (false || (backTo cpos (starEach es X.env)).any (·.1))=false;rw [hplain] <;> rfl) (Calls.evalArgs_plain ?_)
 exact thn hA fun us s2 ⟨vs,H2,I2,r2,q2⟩=>hm pins s2 σ H2 x vs v us Q I2 r1 r2 q2
end
end L2
namespace L2
open PySem PySem.Spec PyProof.Rows
def MtM (X:Cx) (id:String) (r:V→List V→Hp→VK→Prop) : Prop :=
 ∀ (pins:List (Addr × Obj)) (s:Shared) (σ:St) (H:Hp) (x:V) (xs:List V) (v:Value) (us:List Value) (Q:VK),Inv X pins σ H s→RelV x v→Vals xs us→r x xs H Q →
  wpAny (model X.prog X.w) X.A (call (.builtin id) (v :: us)) (EP X pins σ Q) X.xe s
theorem Vals.one {x:V} {us:List Value} (h:Vals [x] us) : ∃ u,us=[u]∧RelV x u:=by
 cases h with
 | cons r t=>cases t;exact ⟨_,rfl,r⟩
theorem Vals.zero :∀ {us:List Value},Vals [] us→us=[]
 | _,.nil=>rfl
theorem Vals.dropLast {xs:List V} {us:List Value} (h:Vals xs us) : Vals xs.dropLast us.dropLast:=by
 induction h with
 | nil=>exact .nil
 | cons r t ih =>
  cases t with
  | nil=>exact .nil
  | cons q t'=>exact .cons r ih
theorem Vals.rep {xs:List V} {us:List Value} (h:Vals xs us) : ∀ k:Nat,Vals (List.replicate k xs).flatten (List.replicate k us).flatten
 | 0=>.nil
 | k+1=>by
  rw [List.replicate_succ,List.replicate_succ,List.flatten_cons,List.flatten_cons]
  exact Vals.append h (Vals.rep h k)
theorem erase_last {α:Type} (l:List α) : l.eraseIdx (l.length - 1)=l.dropLast:=by
 induction l with
 | nil=>rfl
 | cons a r ih =>
  cases r with
  | nil=>rfl
  | cons b r =>
   have e:(a :: b :: r).length - 1=((b :: r).length - 1)+1:=by
    have h1:(a :: b :: r).length=r.length+2:=rfl
    have h2:(b :: r).length=r.length+1:=rfl
    omega
   rw [e,List.eraseIdx_cons_succ,ih]
   all_goals rfl
theorem foldl_rep (its:List Value) : ∀ (k:Nat) (acc:List Value),
  List.foldl (fun x1 x2=>x1 ++ x2) acc.toArray (List.replicate k its.toArray)=(acc ++ (List.replicate k its).flatten).toArray
 | 0,acc=>by simp
 | k+1,acc=>by
  have e:acc.toArray ++ its.toArray=(acc ++ its).toArray:=by simp
  have e2:(acc ++ its) ++ (List.replicate k its).flatten=acc ++ (List.replicate (k+1) its).flatten:=by
   rw [List.replicate_succ,List.flatten_cons,List.append_assoc]
  rw [←e2,←foldl_rep its k (acc ++ its),←e,List.replicate_succ,List.foldl_cons]
section
variable {X:Cx} {pins:List (Addr × Obj)} {σ:St} {H:Hp} {s:Shared} {l b:Addr} {xs ys zs:List V}
theorem Inv.lset {its its':List Value} {n:Nat} {f:Array Value→Array Value} {t':Nat} (I:Inv X pins σ H s) (hH:H l=some (.lst xs))
  (e:s.heap.get? l=some { cls:=.type "list",data:=.seq its.toArray n }) (hf:f its.toArray=its'.toArray) (hv:Vals ys its') (hz:ys.length≤sizeLine) :
  Inv X pins σ (upd H l (.lst ys)) { s with heap:=s.heap.update l (Obj.mapSeq f),toks:=t' }:=by
 have q:=PySem.IsL.update e f
 rw [hf] at q
 refine I.write (x:=l) (e:=l) (by rw [hH];exact trivial) (.inl rfl) (fun b' u hb hu=>(Heap.get?_update_other s.heap (Obj.mapSeq f) (Ne.symm hb)).trans hu) ⟨_,q⟩ ?_
 exact ⟨hz,its',_,hv,q⟩
theorem Inv.lnew {its:List Value} {t':Nat} (I:Inv X pins σ H s) (hv:Vals ys its) (hz:ys.length≤sizeLine) :
  Inv X pins σ (upd H s.heap.objs.size (.lst ys)) { s with heap:=s.heap.push { cls:=.type "list",data:=.seq its.toArray },toks:=t' } :=
 I.laid (fun _ _ q=>Heap.get?_push_of_some _ q) (Nat.le_refl _) ⟨hz,its,0,hv,Heap.get?_push_size _ rfl⟩
theorem Inv.fresh (I:Inv X pins σ H s) : H s.heap.objs.size=none:=I.hok.fresh (Nat.le_refl _)
theorem Inv.lstM (I:Inv X pins σ H s) (hH:H l=some (.lst xs)) : xs.length≤sizeLine∧∃ (its:List Value) (n:Nat),Vals xs its∧xs.length=its.length∧s.heap.get? l=some { cls:=.type "list",data:=.seq its.toArray n }:=by
 obtain ⟨z,its,n,r,e⟩:=I.hok l _ hH
 exact ⟨z,its,n,r,r.length,e⟩
theorem notLongL {n:Nat} (h:n≤sizeLine) : Builtin.List.listTooLong n=false:=by
 unfold Builtin.List.listTooLong
 exact decide_eq_false (by omega)
end
section
variable {X:Cx}
def rAppend :V→List V→Hp→VK→Prop:=fun x vs H Q=>onR x fun l=>on1 vs fun y=>∃ xs,H l=some (.lst xs)∧xs.length < sizeLine∧Q .non (upd H l (.lst (xs ++ [y])))
theorem mt_append :MtM X "list.append" rAppend:=by
 intro pins s σ H x vs v us Q I rx rv h
 obtain ⟨l,rfl,h2⟩:=onR_e.mp h
 obtain ⟨y,rfl,xs,hH,hz,q⟩:=on1_e.mp h2
 cases rx
 obtain ⟨u,rfl,ru⟩:=rv.one
 obtain ⟨z,its,n,r,hl,e⟩:=I.lstM hH
 refine call_meets F.slot_list_append ⟨_,e,rfl⟩ F.entry_list_append (F.args_list_append_2 _ _) (PySem.list_append l its.toArray n u (by rw [List.size_toArray];omega)) ⟨e,?_⟩
 refine ⟨.non,_,I.lset (its':=its ++ [u]) hH e (by simp) (r.append (.cons ru .nil)) ?_,rfl,q⟩
 rw [List.length_append,List.length_singleton]
 omega
def rExtend :V→List V→Hp→VK→Prop:=fun x vs H Q=>∃ l b xs zs,x=.ref l∧vs=[.ref b]∧H l=some (.lst xs)∧H b=some (.lst zs)∧xs.length+zs.length≤sizeLine∧Q .non (upd H l (.lst (xs ++ zs)))
theorem mt_extend :MtM X "list.extend" rExtend:=by
 intro pins s σ H x vs v us Q I rx rv h
 obtain ⟨l,b,xs,zs,rfl,rfl,hH,hB,hz,q⟩:=h
 cases rx
 obtain ⟨u,rfl,ru⟩:=rv.one
 cases ru
 obtain ⟨z,its,n,r,hl,e⟩:=I.lstM hH
 obtain ⟨z2,its2,n2,r2,hl2,e2⟩:=I.lstM hB
 have hsz:its.toArray.size+its2.toArray.size≤sizeLine:=by rw [List.size_toArray,List.size_toArray];omega
 have hlong:¬ (!its.toArray.isEmpty && Builtin.List.listTooLong (its.toArray.size+its2.toArray.size))=true:=by
  rw [notLongL hsz,Bool.and_false]
  exact Bool.false_ne_true
 refine call_meets F.slot_list_extend ⟨_,e,rfl⟩ F.entry_list_extend (F.args_list_extend_2 _ _)
  (AutoSeq1.list_extend_list_list_0 l its.toArray n b its2.toArray n2 hlong (by rw [List.size_toArray];omega) (by omega)) ⟨e,e2,?_⟩
 refine ⟨.non,_,I.lset (its':=its ++ its2) hH e (by simp) (r.append r2) ?_,rfl,q⟩
 rw [List.length_append]
 omega
def rPop :V→List V→Hp→VK→Prop:=fun x vs H Q=>onR x fun l=>on0 vs (∃ xs,H l=some (.lst xs)∧∃ y,xs[xs.length - 1]? = some y∧Q y (upd H l (.lst xs.dropLast)))
theorem mt_pop :MtM X "list.pop" rPop:=by
 intro pins s σ H x vs v us Q I rx rv h
 obtain ⟨l,rfl,h2⟩:=onR_e.mp h
 obtain ⟨rfl,xs,hH,y,hy,q⟩:=on0_e.mp h2
 cases rx
 have hus:=rv.zero
 subst hus
 obtain ⟨z,its,n,r,hl,e⟩:=I.lstM hH
 obtain ⟨u,hu,ru⟩:=r.get hy
 have hy':its.toArray[its.toArray.size - 1]? = some u:=by
  show its.toArray[its.length - 1]? = some u
  rw [←Array.getElem?_toList,←hl]
  exact hu
 refine call_meets F.slot_list_pop ⟨_,e,rfl⟩ F.entry_list_pop (F.args_list_pop_1 _) (MeetsSeq.list_pop_last l its.toArray n u hy' (by rw [List.size_toArray];omega)) ⟨e,?_⟩
 refine ⟨y,_,I.lset (its':=its.dropLast) hH e ?_ r.dropLast ?_,ru,q⟩
 ·show its.toArray.eraseIdxIfInBounds (its.toArray.size - 1)=its.dropLast.toArray
  rw [List.size_toArray,List.eraseIdxIfInBounds_toArray,erase_last]
 ·rw [List.length_dropLast]
  omega
def rCat :R2:=fun x y H Q=>∃ l b xs zs,x=.ref l∧y=.ref b∧H l=some (.lst xs)∧H b=some (.lst zs)∧xs.length+zs.length≤sizeLine∧∀ p,H p=none→Q (.ref p) (upd H p (.lst (xs ++ zs)))
theorem op_cat :OpR X (binaryOp .Add) rCat:=by
 intro pins s σ H x y v u Q I rx ry h
 obtain ⟨l,b,xs,zs,rfl,rfl,hH,hB,hz,q⟩:=h
 cases rx
 cases ry
 obtain ⟨z,its,n,r,hl,e⟩:=I.lstM hH
 obtain ⟨z2,its2,n2,r2,hl2,e2⟩:=I.lstM hB
 refine PySem.P.add_list e e2 ?_ (by rw [List.size_toArray,List.size_toArray];omega)
 have ea:its.toArray ++ its2.toArray=(its ++ its2).toArray:=by simp
 rw [ea]
 exact ⟨.ref _,_,I.lnew (t':=s.toks) (r.append r2) (by rw [List.length_append];omega),rfl,q _ I.fresh⟩
def rRep :R2:=fun x y H Q=>∃ l k xs,x=.ref l∧y=.int k∧H l=some (.lst xs)∧-(2 ^ 63)≤k∧k < 2 ^ 63∧xs.length*k.toNat≤sizeLine ∧
 ∀ p,H p=none→Q (.ref p) (upd H p (.lst (List.replicate k.toNat xs).flatten))
theorem len_rep {α:Type} (xs:List α) (k:Nat) : (List.replicate k xs).flatten.length=k*xs.length:=by
 induction k with
 | zero=>simp
 | succ k ih=>rw [List.replicate_succ,List.flatten_cons,List.length_append,ih,Nat.succ_mul,Nat.add_comm]
theorem op_rep :OpR X (binaryOp .Mult) rRep:=by
 intro pins s σ H x y v u Q I rx ry h
 obtain ⟨l,k,xs,rfl,rfl,hH,h1,h2,hz,q⟩:=h
 cases rx
 obtain ⟨t,rfl⟩:=ry
 obtain ⟨z,its,n,r,hl,e⟩:=I.lstM hH
 have hlen:its.toArray.size*k.toNat≤sizeLine:=by rw [List.size_toArray,←hl];exact hz
 have hcap:¬ its.toArray.size*k.toNat > (2 ^ 63 - 1) / 8:=by
  have:(sizeLine:Nat)≤(2 ^ 63 - 1) / 8:=by decide
  omega
 have hfit:¬ (!Builtin.List.listFitsIndex k)=true:=by
  rw [fitsIndex_both h1 h2]
  exact Bool.false_ne_true
 have hlong:¬ Builtin.List.listTooLong (its.toArray.size*k.toNat)=true:=by
  rw [notLongL hlen]
  exact Bool.false_ne_true
 have hnew:List.foldl (fun x1 x2=>x1 ++ x2) #[] (List.replicate (if its.toArray.isEmpty=true then 0 else k.toNat) its.toArray)=(List.replicate k.toNat its).flatten.toArray:=by
  have f0:∀ m:Nat,List.foldl (fun x1 x2=>x1 ++ x2) #[] (List.replicate m its.toArray)=(List.replicate m its).flatten.toArray:=fun m=>by
   have:=foldl_rep its m []
   rw [List.nil_append] at this
   exact this
  rw [f0]
  cases its with
  | nil=>simp
  | cons a r'=>rw [if_neg (by simp)]
 refine wpAny_binaryOp_repeat_ref (T:="list") (U:="int") (by decide) ⟨_,e,rfl⟩ (fun s'=>typeIs_int s' k t) noFill_list_mul F.fills_int_mul F.slot_int_rmul repeat_list F.slot_int_index.lookup
  (call_meets F.slot_int_rmul (typeIs_int s k t) F.entry_int_rmul (F.args_int_rmul_2 _ _) (int___rmul___int_list k t l its.toArray n)
   ⟨e,rfl,⟨_,e,rfl⟩,call_meets F.slot_list_mul ⟨_,e,rfl⟩ F.entry_list_mul (F.args_list_mul_2 _ _) (AutoListH.list___mul___list_int_3 l its.toArray n k t hfit hcap hlong) ⟨e,?_⟩⟩)
 rw [hnew]
 exact ⟨.ref _,_,I.lnew (t':=s.toks) (r.rep k.toNat) (by rw [len_rep,Nat.mul_comm];exact hz),rfl,q _ I.fresh⟩
end
section
variable {prog:Program} {w:World} {A:Around} {E:Value→Shared→Prop} {s:Shared}
end
section
variable {X:Cx}
end
end L2
namespace L2
open PySem PySem.Spec PyProof.Rows
theorem Vals.ints :∀ {ns:List Int} {us:List Value},Vals (ns.map V.int) us→IntsAre us ns
 | [],us,h=>by
  rw [List.map_nil] at h
  cases h
  exact IntsAre.nil
 | n :: ns,us,h=>by
  rw [List.map_cons] at h
  cases h with
  | cons r t =>
   obtain ⟨k,rfl⟩:=r
   exact IntsAre.cons n k (Vals.ints t)
theorem Vals.strs :∀ {xs:List Str} {us:List Value},Vals (xs.map V.str) us→StrsAre us xs
 | [],us,h=>by
  rw [List.map_nil] at h
  cases h
  exact StrsAre.nil
 | x :: xs,us,h=>by
  rw [List.map_cons] at h
  cases h with
  | cons r t =>
   obtain ⟨k,rfl⟩:=r
   exact StrsAre.cons x k (Vals.strs t)
theorem Vals.bls :∀ {bs:List Bool} {us:List Value},Vals (bs.map V.bl) us→us=bs.map Value.bool
 | [],us,h=>by
  rw [List.map_nil] at h
  cases h
  rfl
 | b :: bs,us,h=>by
  rw [List.map_cons] at h
  cases h with
  | cons r t =>
   cases r
   rw [Vals.bls t,List.map_cons]
theorem Vals.ref1 {a:Addr} {us:List Value} (r:Vals [V.ref a] us) : us=[Value.ref a]:=by
 cases r with
 | cons r t =>
  cases t
  cases r
  rfl
section
variable {prog:Program} {w:World} {A:Around} {E:Value→Shared→Prop} {s:Shared} {l:Addr} {its:List Value} {ns:List Int} {Q:Value→Shared→Prop}
theorem sum_raw (hh:A.handled=none) (hl:s.heap.IsList l its.toArray) (hi:IntsAre its ns)
  (h:∀ h' tk t',(∀ b o,s.heap.get? b=some o→h'.get? b=some o)→Q (.int ns.sum t') { s with heap:=h',toks:=tk }) : wpAny (model prog w) A (call (.builtin "sum") [.ref l]) Q E s:=by
 obtain ⟨xs,e⟩:=hi.allInts.items
 have hn:numsOf (intItems xs).toList=ns:=by rw [←e];exact hi.numsOf
 rw [nums_intItems] at hn
 rw [e] at hl
 refine PySem.sum_intListG hh hl fun h' tk t' hk=>?_
 have:=h h' tk t' hk
 rw [preSum_eq,List.take_of_length_le (by simp),hn];exact this
theorem max_raw (hh:A.handled=none) (hl:s.heap.IsList l its.toArray) (hi:IntsAre its ns) (hne:0 < ns.length)
  (h:∀ h' tk M t',(∀ b o,s.heap.get? b=some o→h'.get? b=some o)→M∈ns→(∀ a,a∈ns→a≤M)→Q (.int M t') { s with heap:=h',toks:=tk }) : wpAny (model prog w) A (call (.builtin "max") [.ref l]) Q E s:=by
 obtain ⟨xs,e⟩:=hi.allInts.items
 have hn:numsOf (intItems xs).toList=ns:=by rw [←e];exact hi.numsOf
 rw [nums_intItems] at hn
 subst hn
 rw [e] at hl
 have hsz:0 < xs.size:=by simpa using hne
 refine PySem.max_intList hh hl hsz fun v h' tk hv hk=>?_
 obtain ⟨t,rfl⟩:=intItems_at hv
 obtain ⟨h1,h2⟩:=argBest_gt (numAt xs) (xs.size - 1)
 refine h h' tk _ t hk ?_ fun a ha=>?_
 ·rw [numAt_eq];exact PySem.getD_mem (by rw [List.length_map,Array.length_toList];omega)
 ·obtain ⟨j,hj,rfl⟩:=mem_getD ha
  rw [List.length_map,Array.length_toList] at hj
  rw [←numAt_eq];exact h2 j (by omega)
theorem min_raw (hh:A.handled=none) (hl:s.heap.IsList l its.toArray) (hi:IntsAre its ns) (hne:0 < ns.length)
  (h:∀ h' tk M t',(∀ b o,s.heap.get? b=some o→h'.get? b=some o)→M∈ns→(∀ a,a∈ns→M≤a)→Q (.int M t') { s with heap:=h',toks:=tk }) : wpAny (model prog w) A (call (.builtin "min") [.ref l]) Q E s:=by
 obtain ⟨xs,e⟩:=hi.allInts.items
 have hn:numsOf (intItems xs).toList=ns:=by rw [←e];exact hi.numsOf
 rw [nums_intItems] at hn
 subst hn
 rw [e] at hl
 have hsz:0 < xs.size:=by simpa using hne
 refine PySem.min_intList hh hl hsz fun v h' tk hv hk=>?_
 obtain ⟨t,rfl⟩:=intItems_at hv
 obtain ⟨h1,h2⟩:=argBest_lt (numAt xs) (xs.size - 1)
 refine h h' tk _ t hk ?_ fun a ha=>?_
 ·rw [numAt_eq];exact PySem.getD_mem (by rw [List.length_map,Array.length_toList];omega)
 ·obtain ⟨j,hj,rfl⟩:=mem_getD ha
  rw [List.length_map,Array.length_toList] at hj
  rw [←numAt_eq];exact h2 j (by omega)
end
section
variable {X:Cx}
def rSum (K:PySem.W.Frag) : List V→Hp→VK→Prop:=fun vs H Q=>∃ (a:Addr) (ns:List Int),vs=[V.ref a]∧SqL K H a (ns.map V.int)∧Q (.int ns.sum) H
def rMax (K:PySem.W.Frag) : List V→Hp→VK→Prop:=fun vs H Q=>∃ (a:Addr) (ns:List Int),vs=[V.ref a]∧SqL K H a (ns.map V.int)∧0 < ns.length∧∀ m,m∈ns→(∀ y,y∈ns→y≤m)→Q (.int m) H
def rMin (K:PySem.W.Frag) : List V→Hp→VK→Prop:=fun vs H Q=>∃ (a:Addr) (ns:List Int),vs=[V.ref a]∧SqL K H a (ns.map V.int)∧0 < ns.length∧∀ m,m∈ns→(∀ y,y∈ns→m≤y)→Q (.int m) H
theorem cr_sum (hc:X.calm=true) : CallR X (.builtin "sum") (rSum X.K):=by
 intro pins s σ H vs us Q I r h
 obtain ⟨a,ns,rfl,hs,q⟩:=h
 obtain ⟨its,rv,hl,_⟩:=I.list hs
 rw [Vals.ref1 r]
 exact sum_raw (I.ok.hd hc) hl.isList rv.ints fun h' tk t' hk=>⟨.int _,H,I.kept hk,⟨_,rfl⟩,q⟩
theorem cr_max (hc:X.calm=true) : CallR X (.builtin "max") (rMax X.K):=by
 intro pins s σ H vs us Q I r h
 obtain ⟨a,ns,rfl,hs,hne,q⟩:=h
 obtain ⟨its,rv,hl,_⟩:=I.list hs
 rw [Vals.ref1 r]
 exact max_raw (I.ok.hd hc) hl.isList rv.ints hne fun h' tk m t' hk h1 h2=>⟨.int _,H,I.kept hk,⟨_,rfl⟩,q m h1 h2⟩
theorem cr_min (hc:X.calm=true) : CallR X (.builtin "min") (rMin X.K):=by
 intro pins s σ H vs us Q I r h
 obtain ⟨a,ns,rfl,hs,hne,q⟩:=h
 obtain ⟨its,rv,hl,_⟩:=I.list hs
 rw [Vals.ref1 r]
 exact min_raw (I.ok.hd hc) hl.isList rv.ints hne fun h' tk m t' hk h1 h2=>⟨.int _,H,I.kept hk,⟨_,rfl⟩,q m h1 h2⟩
end
section
variable {X:Cx}
end
section
variable {X:Cx}
end
theorem iter_any {prog:Program} {w:World} {A:Around} {E:Value→Shared→Prop} {s:Shared} {l:Addr} {items:Array Value} {Q:Value→Shared→Prop} (hl:s.heap.IsList l items)
  (h:∀ s₂:Shared,s₂={ s with heap:=s.heap.push { cls:=.type "list_iterator",data:=.fields #[.ref l,.int 0 0] } } →
   (s₂.heap.IsListIter s.heap.objs.size l 0∧s₂.heap.IsList l items)→l≠s.heap.objs.size→Q (.ref s.heap.objs.size) s₂) : wpAny (model prog w) A (pyIter (.ref l)) Q E s:=by
 have hlt:l < s.heap.objs.size:=by obtain ⟨_,e,_⟩:=hl;exact Heap.lt_size e
 exact wpAny_pyIter_list hl (h _ rfl ⟨⟨_,Heap.get?_push_size _ rfl,rfl,rfl⟩,hl.push _⟩ (Nat.ne_of_lt hlt))
theorem truth_bools {prog:Program} {w:World} {A:Around} {bs:List Bool} {its:List Value} (e:its=bs.map Value.bool) :
  TruthOf prog w A (fun i v=>its.toArray[i]? = some v) (fun i=>bs.getD i false):=fun i v s Q E hv hq=>by
 have hv':its[i]? = some v:=by simpa using hv
 rw [e,List.getElem?_map] at hv'
 obtain ⟨b,hb,rfl⟩:=Option.map_eq_some_iff.mp hv'
 have hg:bs.getD i false=b:=by rw [List.getD_eq_getElem?_getD,hb] <;> rfl
 have hq':Q (bs.getD i false) s:=hq
 rw [hg] at hq'
 exact wpAny_truthy_bool hq'
theorem any_range :∀ bs:List Bool,(List.range bs.length).any (fun i=>bs.getD i false)=bs.any id
 | []=>rfl
 | b :: bs=>by
  rw [List.length_cons,List.range_succ_eq_map,List.any_cons,List.any_map,List.any_cons,←any_range bs]
  all_goals rfl
theorem all_range :∀ bs:List Bool,(List.range bs.length).all (fun i=>bs.getD i false)=bs.all id
 | []=>rfl
 | b :: bs=>by
  rw [List.length_cons,List.range_succ_eq_map,List.all_cons,List.all_map,List.all_cons,←all_range bs]
  all_goals rfl
section
variable {X:Cx}
def rAny (K:PySem.W.Frag) : List V→Hp→VK→Prop:=fun vs H Q=>∃ (a:Addr) (bs:List Bool),vs=[V.ref a]∧SqL K H a (bs.map V.bl)∧Q (.bl (bs.any id)) H
def rAll (K:PySem.W.Frag) : List V→Hp→VK→Prop:=fun vs H Q=>∃ (a:Addr) (bs:List Bool),vs=[V.ref a]∧SqL K H a (bs.map V.bl)∧Q (.bl (bs.all id)) H
theorem cr_any (hc:X.calm=true) : CallR X (.builtin "any") (rAny X.K):=by
 intro pins s σ H vs us Q I r h
 obtain ⟨a,bs,rfl,hs,q⟩:=h
 obtain ⟨its,rv,hl,_⟩:=I.list hs
 rw [Vals.ref1 r]
 have hb:=rv.bls
 refine call_any_walk (iter_any hl.isList fun s₂ e2 st hne=>?_)
 subst e2
 refine ⟨_,_,_,_,_,_,_,rfl,Walks.list (A:=X.A.in1) (I.ok.hd hc) _ a hne its.toArray,st,truth_bools hb,fun h' tk hk=>?_⟩
 refine ⟨.bl _,H,I.kept fun b o eo=>hk b o (fun hmem=>?_) (Heap.get?_push_of_some _ eo),?_,q⟩
 ·rcases List.mem_cons.mp hmem with e1 | hmem
  ·exact absurd (e1 ▸ Heap.lt_size eo) (Nat.lt_irrefl _)
  ·cases hmem
 ·show Value.bool _=Value.bool _
  rw [←any_range,hb,List.size_toArray,List.length_map]
theorem cr_all (hc:X.calm=true) : CallR X (.builtin "all") (rAll X.K):=by
 intro pins s σ H vs us Q I r h
 obtain ⟨a,bs,rfl,hs,q⟩:=h
 obtain ⟨its,rv,hl,_⟩:=I.list hs
 rw [Vals.ref1 r]
 have hb:=rv.bls
 refine call_all_walk (iter_any hl.isList fun s₂ e2 st hne=>?_)
 subst e2
 refine ⟨_,_,_,_,_,_,_,rfl,Walks.list (A:=X.A.in1) (I.ok.hd hc) _ a hne its.toArray,st,truth_bools hb,fun h' tk hk=>?_⟩
 refine ⟨.bl _,H,I.kept fun b o eo=>hk b o (fun hmem=>?_) (Heap.get?_push_of_some _ eo),?_,q⟩
 ·rcases List.mem_cons.mp hmem with e1 | hmem
  ·exact absurd (e1 ▸ Heap.lt_size eo) (Nat.lt_irrefl _)
  ·cases hmem
 ·show Value.bool _=Value.bool _
  rw [←all_range,hb,List.size_toArray,List.length_map]
end
mutual
inductive Dp (K:PySem.W.Frag) (H:Hp) : V→PyData→Prop
 | non:Dp K H .non .none
 | bl (b:Bool) : Dp K H (.bl b) (.bool b)
 | int (i:Int) : Dp K H (.int i) (.int i)
 | str (x:Str) : Dp K H (.str x) (.str x)
 | lst {a:Addr} {xs:List V} {ds:List PyData}:SqL K H a xs→DpAll K H xs ds→Dp K H (.ref a) (.list ds)
 | tup {a:Addr} {xs:List V} {ds:List PyData}:SqT K H a xs→DpAll K H xs ds→Dp K H (.ref a) (.tuple ds)
inductive DpAll (K:PySem.W.Frag) (H:Hp) : List V→List PyData→Prop
 | nil:DpAll K H [] []
 | cons {v:V} {vs:List V} {d:PyData} {ds:List PyData}:Dp K H v d→DpAll K H vs ds→DpAll K H (v :: vs) (d :: ds)
end
section
variable {X:Cx} {pins:List (Addr × Obj)} {σ:St} {H:Hp} {s:Shared}
mutual
theorem Dp.reads (I:Inv X pins σ H s) : ∀ (d:PyData) (v:V) (u:Value),Dp X.K H v d→RelV v u→∃ as,Reads s.heap u d as
 | .none,_,_,h,r=>by
  cases h
  cases r
  exact ⟨_,Reads.none⟩
 | .bool b,_,_,h,r=>by
  cases h
  cases r
  exact ⟨_,Reads.bool b⟩
 | .int i,_,_,h,r=>by
  cases h
  obtain ⟨t,rfl⟩:=r
  exact ⟨_,Reads.int i t⟩
 | .str x,_,_,h,r=>by
  cases h
  obtain ⟨t,rfl⟩:=r
  exact ⟨_,Reads.str x t⟩
 | .list ds,_,_,h,r=>by
  cases h with
  | lst hs ha =>
   cases r
   obtain ⟨its,rv,⟨o,n,ho,hc,_,hd⟩,_⟩:=I.list hs
   obtain ⟨as,hr⟩:=Dp.readsAll I ds _ its ha rv
   exact ⟨_,Reads.list ho hc hd hr⟩
 | .tuple ds,_,_,h,r=>by
  cases h with
  | tup hs ha =>
   cases r
   obtain ⟨its,rv,⟨o,ho,hc,n,hd⟩,_⟩:=I.tuple hs
   obtain ⟨as,hr⟩:=Dp.readsAll I ds _ its ha rv
   exact ⟨_,Reads.tuple ho hc hd hr⟩
 | .dict _,_,_,h,_=>by cases h
theorem Dp.readsAll (I:Inv X pins σ H s) : ∀ (ds:List PyData) (vs:List V) (us:List Value),DpAll X.K H vs ds→Vals vs us→∃ as,ReadsAll s.heap us ds as
 | [],_,_,h,r=>by
  cases h
  cases r
  exact ⟨_,ReadsAll.nil⟩
 | d :: ds,_,_,h,r=>by
  cases h with
  | cons h1 h2 =>
   cases r with
   | cons r1 r2 =>
    obtain ⟨as,q1⟩:=Dp.reads I d _ _ h1 r1
    obtain ⟨bs,q2⟩:=Dp.readsAll I ds _ _ h2 r2
    exact ⟨_,ReadsAll.cons q1 q2⟩
end
end
section
variable {X:Cx}
def rEqD (K:PySem.W.Frag) : R2:=fun x y H Q=>∃ d e,Dp K H x d∧Dp K H y e∧SeqAt.shaped d=true∧SeqAt.shaped e=true∧Q (.bl (PyData.eqv d e)) H
theorem op_eqD (hu:X.A.units+64 < cLine) : OpR X (compareOp .Eq) (rEqD X.K):=by
 intro pins s σ H x y v u Q I rx ry h
 obtain ⟨d,e,hd,he,sd,se,q⟩:=h
 obtain ⟨as,r1⟩:=Dp.reads I d x v hd rx
 obtain ⟨bs,r2⟩:=Dp.reads I e y u he ry
 exact SeqAt.compareEq_shaped r1 r2 sd se hu ⟨.bl _,H,I,rfl,q⟩
end
end L2
namespace L2
open PySem PySem.Spec PyProof.Rows
abbrev CellAt (h:Heap) (c:Addr) (v:Option Value) : Prop:=h.IsCell c v
def relS (scope sc:Scope) : Scope :=
 { scope with names:=scope.names.map fun (n,k)=>if (k == .free && sc.kind == .function && sc.names.lookup n == some .cell) then (n,.cell) else (n,k) }
def cloFrom (cells:List (Str × Addr)) : List (Str × NameKind)→List (Str × Addr)→List (Str × Addr)
 | [],acc=>acc
 | (n,k) :: r,acc=>if k == .free then cloFrom cells r ((n,(cells.lookup n).getD 0) :: acc) else cloFrom cells r acc
theorem closure_loop (env:Env) (f:Str × NameKind→List (Str × Addr)→Sem (ForInStep (List (Str × Addr))))
  (hf:∀ n k c,f (n,k) c=if k == .free then (do let a ←cellOf env n;pure (.yield ((n,a) :: c))) else pure (.yield c)) :
  ∀ (names:List (Str × NameKind)) (acc:List (Str × Addr)),(∀ y∈names,y.2=.free→∃ c,env.cells.lookup y.1=some c)→forIn names acc f=pure (cloFrom env.cells names acc)
 | [],acc,_=>by rw [List.forIn_nil];rfl
 | (n,k) :: r,acc,h=>by
  rw [List.forIn_cons,hf]
  have ih:=fun acc=>closure_loop env f hf r acc fun y hy=>h y (List.mem_cons_of_mem _ hy)
  unfold cloFrom
  by_cases hk:(k == NameKind.free)=true
  ·rw [if_pos hk,if_pos hk]
   obtain ⟨c,hc⟩:=h (n,k) List.mem_cons_self (by simpa using hk)
   have e:cellOf env n=pure c:=by unfold cellOf;rw [hc]
   rw [e]
   have e2:(env.cells.lookup n).getD 0=c:=by rw [hc];rfl
   rw [e2]
   exact ih _
  ·rw [if_neg hk,if_neg hk]
   exact ih _
theorem closure_ok {scope:Scope} {env:Env} (h:∀ y∈scope.names,y.2=.free→∃ c,env.cells.lookup y.1=some c) : closureFor scope env=pure (cloFrom env.cells scope.names []):=by
 simp only [closureFor]
 rw [closure_loop env _ (fun n k c=>rfl) scope.names [] h]
 rfl
theorem mem_lookup {α:Type}:∀ {l:List (Str × α)} {n:Str} {c:α},(n,c)∈l→∃ c',l.lookup n=some c'
 | (k,v) :: r,n,c,h=>by
  rw [List.lookup_cons]
  cases hb:n == k with
  | true=>exact ⟨_,rfl⟩
  | false =>
   rcases List.mem_cons.mp h with e | h
   ·cases e;simp at hb
   ·exact mem_lookup h
theorem cloFrom_mem {cells:List (Str × Addr)}:∀ {names:List (Str × NameKind)} {acc:List (Str × Addr)} {n:Str} {c:Addr},(n,c)∈cloFrom cells names acc→(n,c)∈acc∨((n,.free)∈names∧c=(cells.lookup n).getD 0)
 | [],_,_,_,h=>.inl h
 | (m,k) :: r,acc,n,c,h=>by
  unfold cloFrom at h
  split at h
  ·rename_i hk
   have hk:k=.free:=by simpa using hk
   rcases cloFrom_mem h with h | ⟨h1,h2⟩
   ·rcases List.mem_cons.mp h with e | h
    ·cases e;exact .inr ⟨hk ▸ List.mem_cons_self,rfl⟩
    ·exact .inl h
   ·exact .inr ⟨List.mem_cons_of_mem _ h1,h2⟩
  ·rcases cloFrom_mem h with h | ⟨h1,h2⟩
   ·exact .inl h
   ·exact .inr ⟨List.mem_cons_of_mem _ h1,h2⟩
theorem cloFrom_acc {cells:List (Str × Addr)}:∀ {names:List (Str × NameKind)} {acc:List (Str × Addr)} {p:Str × Addr},p∈acc→p∈cloFrom cells names acc
 | [],_,_,h=>h
 | (m,k) :: r,acc,p,h=>by
  unfold cloFrom
  split
  ·exact cloFrom_acc (List.mem_cons_of_mem _ h)
  ·exact cloFrom_acc h
theorem cloFrom_has {cells:List (Str × Addr)}:∀ {names:List (Str × NameKind)} {acc:List (Str × Addr)} {n:Str},(n,.free)∈names→(n,(cells.lookup n).getD 0)∈cloFrom cells names acc
 | (m,k) :: r,acc,n,h=>by
  unfold cloFrom
  rcases List.mem_cons.mp h with e | h
  ·cases e
   exact cloFrom_acc List.mem_cons_self
  ·split
   ·exact cloFrom_has h
   ·exact cloFrom_has h
theorem cells_mem :∀ {names:List (Str × NameKind)} {h:Heap} {acc:List (Str × Addr)} {x:Str} {c:Addr},(x,c)∈cellsFrom h.objs.size names acc →
  (x,c)∈acc∨((x,.cell)∈names∧h.objs.size≤c∧CellAt (pushCells h names) c none)
 | [],_,_,_,_,h=>.inl h
 | (n,k) :: r,h,acc,x,c,hm=>by
  unfold cellsFrom at hm
  unfold pushCells
  split at hm
  ·rename_i hk
   rw [if_pos hk]
   have hk:k=.cell:=by simpa using hk
   rw [←Heap.size_push h { cls:=.type "cell",data:=.cell none }] at hm
   rcases cells_mem hm with hm | ⟨h1,h2,h3⟩
   ·rcases List.mem_cons.mp hm with e | hm
    ·cases e
     exact .inr ⟨hk ▸ List.mem_cons_self,Nat.le_refl _,_,pushCells_keeps r _ _ _ (Heap.get?_push_size _ rfl),rfl⟩
    ·exact .inl hm
   ·rw [Heap.size_push] at h2
    exact .inr ⟨List.mem_cons_of_mem _ h1,Nat.le_of_succ_le h2,h3⟩
  ·rename_i hk
   rw [if_neg hk]
   rcases cells_mem hm with hm | ⟨h1,h2,h3⟩
   ·exact .inl hm
   ·exact .inr ⟨List.mem_cons_of_mem _ h1,h2,h3⟩
theorem cells_acc :∀ {names:List (Str × NameKind)} {n:Nat} {acc:List (Str × Addr)} {p:Str × Addr},p∈acc→p∈cellsFrom n names acc
 | [],_,_,_,h=>h
 | (m,k) :: r,n,acc,p,h=>by
  unfold cellsFrom
  split
  ·exact cells_acc (List.mem_cons_of_mem _ h)
  ·exact cells_acc h
theorem cells_has :∀ {names:List (Str × NameKind)} {n:Nat} {acc:List (Str × Addr)} {x:Str},(x,.cell)∈names→∃ c,(x,c)∈cellsFrom n names acc
 | (m,k) :: r,n,acc,x,h=>by
  unfold cellsFrom
  rcases List.mem_cons.mp h with e | h
  ·cases e
   exact ⟨n,cells_acc List.mem_cons_self⟩
  ·split
   ·exact cells_has h
   ·exact cells_has h
theorem cells_inj :∀ {names:List (Str × NameKind)} {h:Heap} {acc:List (Str × Addr)} {x y:Str} {c:Addr},(∀ p∈acc,p.2 < h.objs.size)→(∀ x y c,(x,c)∈acc→(y,c)∈acc→x=y) →
  (x,c)∈cellsFrom h.objs.size names acc→(y,c)∈cellsFrom h.objs.size names acc→x=y
 | [],_,_,_,_,_,_,hi,h1,h2=>hi _ _ _ h1 h2
 | (n,k) :: r,h,acc,x,y,c,hl,hi,h1,h2=>by
  unfold cellsFrom at h1 h2
  split at h1
  ·rename_i hk
   rw [if_pos hk] at h2
   rw [←Heap.size_push h { cls:=.type "cell",data:=.cell none }] at h1 h2
   refine cells_inj (h:=h.push _) (fun p hp=>?_) (fun x y c a b=>?_) h1 h2
   ·rw [Heap.size_push]
    rcases List.mem_cons.mp hp with rfl | hp
    ·exact Nat.lt_succ_self _
    ·exact Nat.lt_succ_of_lt (hl p hp)
   ·rcases List.mem_cons.mp a with e | a <;> rcases List.mem_cons.mp b with e' | b
    ·cases e;cases e';rfl
    ·cases e;exact absurd (hl _ b) (Nat.lt_irrefl _)
    ·cases e';exact absurd (hl _ a) (Nat.lt_irrefl _)
    ·exact hi _ _ _ a b
  ·rename_i hk
   rw [if_neg hk] at h2
   exact cells_inj hl hi h1 h2
theorem newEnv_comp {M:Model} {A:Around} {E:Value→Shared→Prop} {s:Shared} {scope:Scope} {globals:Addr} {closure:List (Str × Addr)} {qual:Str} {func:Option Addr} {code:Value} {around:Env} {builtins:Addr} {Q:Env→Shared→Prop}
  (h:Q (newEnv scope s.heap.objs.size globals (cellsFrom (s.heap.objs.size+1) scope.names closure) qual func code (some around) builtins)
   { s with heap:=pushCells (s.heap.push { cls:=.type "dict",data:=.dict #[] }) scope.names }) :
  wpAny M A (newFunctionEnv scope globals closure [] qual func code (some around) builtins) Q E s:=by
 simp only [newFunctionEnv,Option.isSome_some,if_true]
 refine wpAny_bind (wpAny_alloc ?_)
 refine wpAny_bind (wpAny_layCells _ (fun n k c=>rfl) scope.names closure _ _ ?_)
 rw [show ({ s with heap:=s.heap.push { cls:=.type "dict",data:=.dict #[] } }:Shared).heap.objs.size=s.heap.objs.size+1 from Heap.size_push ..]
 rw [List.forIn_nil]
 exact wpAny_bind (wpAny_pure (wpAny_pure h))
theorem lookup_relS {sc:Scope}:∀ {names:List (Str × NameKind)} {x:Str} {k:NameKind},
  (names.map fun (n,k)=>if (k == NameKind.free && sc.kind == .function && sc.names.lookup n == some .cell) then (n,NameKind.cell) else (n,k)).lookup x=some k →
  ∃ k',names.lookup x=some k'∧(k=k'∨(k'=.free∧k=.cell))
 | [],_,_,h=>by simp at h
 | (n,k₀) :: r,x,k,h=>by
  have ih:=@lookup_relS sc r x k
  have h':List.lookup x ((if (k₀ == NameKind.free && sc.kind == .function && sc.names.lookup n == some .cell)=true then (n,NameKind.cell) else (n,k₀)) :: (r.map _))=some k:=h
  cases hx:x == n with
  | true =>
   simp only [List.lookup_cons,hx]
   by_cases hc:(k₀ == NameKind.free && sc.kind == .function && sc.names.lookup n == some .cell)=true
   ·rw [if_pos hc] at h'
    simp only [List.lookup_cons,hx] at h'
    cases h'
    simp only [Bool.and_eq_true,beq_iff_eq] at hc
    exact ⟨k₀,rfl,.inr ⟨hc.1.1,rfl⟩⟩
   ·rw [if_neg hc] at h'
    simp only [List.lookup_cons,hx] at h'
    cases h'
    exact ⟨_,rfl,.inl rfl⟩
  | false =>
   simp only [List.lookup_cons,hx]
   by_cases hc:(k₀ == NameKind.free && sc.kind == .function && sc.names.lookup n == some .cell)=true
   ·rw [if_pos hc] at h'
    simp only [List.lookup_cons,hx] at h'
    exact ih h'
   ·rw [if_neg hc] at h'
    simp only [List.lookup_cons,hx] at h'
    exact ih h'
structure BlkOk (N:List Str) (sc scope:Scope) (own:List (Str × Nat)) : Prop where
 kind:scope.kind=.function
 uniq:∀ y∈scope.names,scope.names.lookup y.1=some y.2
 ix:∀ p∈own,N[p.2]? = some p.1
 free:∀ y∈scope.names,y.2=.free→sc.names.lookup y.1=some .cell∨sc.names.lookup y.1=some .free
 own:∀ y∈scope.names,y.2=.local∨y.2=.cell→y.1∈own.map (·.1)∨y.1∉N
def wipe (σ:St) : List Nat→St
 | []=>σ
 | v :: vs=>(wipe σ vs).set v none
theorem wipe_length (σ:St) : ∀ vs:List Nat,(wipe σ vs).length=σ.length
 | []=>rfl
 | v :: vs=>by unfold wipe;rw [List.length_set,wipe_length σ vs]
theorem wipe_some {σ:St} {i:Nat} {x:V}:∀ {vs:List Nat},(wipe σ vs)[i]? = some (some x)→σ[i]? = some (some x)∧i∉vs
 | [],h=>⟨h,by simp⟩
 | v :: vs,h=>by
  unfold wipe at h
  by_cases hi:v=i
  ·subst hi
   by_cases hv:v < (wipe σ vs).length
   ·rw [List.getElem?_set_self hv] at h;cases h
   ·rw [List.getElem?_eq_none (by simpa using hv)] at h;cases h
  ·rw [List.getElem?_set_ne hi] at h
   obtain ⟨h1,h2⟩:=wipe_some h
   exact ⟨h1,by simp only [List.mem_cons,not_or];exact ⟨fun e=>hi e.symm,h2⟩⟩
abbrev Cx.blk (X:Cx) (s:Shared) (H:Hp) (scope:Scope) (cenv:Env) (fp:List Addr) : Cx:={ X with s_0:=s,H_0:=H,env:=cenv,outer:=X.stack,ex:=fp,fn:=fun x=>scope.names.lookup x == some .cell,pn:=[],xe:=fun _ _=>False }
section
variable {X:Cx} {pins:List (Addr × Obj)} {σ:St} {H:Hp} {s:Shared}
theorem block_start {scope:Scope} {own:List (Str × Nat)} {fp:List Addr} (I:Inv X pins σ H s) (ok:BlkOk X.N X.env.scope scope own) (hN:X.N.Nodup) (hfp:∀ b∈fp,FpOk X pins H b∧b < s.heap.objs.size) :
  Inv (X.blk s H scope (compEnvC scope (cellsFrom (s.heap.objs.size+1) scope.names (cloFrom X.env.cells scope.names [])) s.heap.objs.size X.env) fp) [] (wipe σ (own.map (·.2))) H { s with heap:=pushCells (s.heap.push { cls:=.type "dict",data:=.dict #[] }) scope.names }:=by
 have hfree:∀ y∈scope.names,y.2=.free→∃ c,X.env.cells.lookup y.1=some c:=fun y hy e=>by
  rcases ok.free y hy e with k | k
  ·exact I.ok.has _ (.inl k)
  ·exact I.ok.has _ (.inr k)
 generalize hcenv:compEnvC scope (cellsFrom (s.heap.objs.size+1) scope.names (cloFrom X.env.cells scope.names [])) s.heap.objs.size X.env=cenv
 have kp:∀ b o,s.heap.get? b=some o→(pushCells (s.heap.push { cls:=.type "dict",data:=.dict #[] }) scope.names).get? b=some o:=fun b o e=>pushCells_keeps _ _ _ _ (Heap.get?_push_of_some _ e)
 have hL:cenv.locals=s.heap.objs.size:=by rw [←hcenv];rfl
 have hcl:cenv.cells=cellsFrom (s.heap.objs.size+1) scope.names (cloFrom X.env.cells scope.names []):=by rw [←hcenv];rfl
 have hsc:cenv.scope=relS scope X.env.scope:=by rw [←hcenv];rfl
 rw [←Heap.size_push s.heap { cls:=.type "dict",data:=.dict #[] }] at hcl
 have cm:∀ {y c},(y,c)∈cloFrom X.env.cells scope.names []→X.env.cells.lookup y=some c∧c < s.heap.objs.size:=fun {y c} hm=>by
  rcases cloFrom_mem hm with hm | ⟨h1,rfl⟩
  ·cases hm
  ·obtain ⟨c,hc⟩:=hfree _ h1 rfl
   rw [hc]
   obtain ⟨w,z⟩:=I.cell _ _ hc
   exact ⟨rfl,z.lt⟩
 have mem:∀ {y c},cenv.cells.lookup y=some c→(X.env.cells.lookup y=some c∧c < s.heap.objs.size)∨(s.heap.objs.size+1≤c∧CellAt (pushCells (s.heap.push { cls:=.type "dict",data:=.dict #[] }) scope.names) c none):=fun {y c} e=>by
  rw [hcl] at e
  rcases cells_mem (PySem.mem_of_lookup e) with hm | ⟨_,h2,h3⟩
  ·exact .inl (cm hm)
  ·rw [Heap.size_push] at h2;exact .inr ⟨h2,h3⟩
 have look:∀ {y},scope.names.lookup y=some .free→∃ c,cenv.cells.lookup y=some c∧X.env.cells.lookup y=some c:=fun {y} hl=>by
  have hy:(y,NameKind.free)∈scope.names:=PySem.mem_of_lookup hl
  obtain ⟨c',e'⟩:=mem_lookup (cells_acc (names:=scope.names) (n:=(s.heap.push { cls:=.type "dict",data:=.dict #[] }).objs.size) (cloFrom_has (cells:=X.env.cells) (acc:=[]) hy))
  rw [←hcl] at e'
  refine ⟨c',e',?_⟩
  rw [hcl] at e'
  rcases cells_mem (PySem.mem_of_lookup e') with hm | ⟨h1,_,_⟩
  ·exact (cm hm).1
  ·have:=ok.uniq _ h1
   rw [hl] at this;cases this
 have okB:(X.blk s H scope cenv fp).Ok:=by
  refine ⟨I.ok.mod,by show cenv.scope.kind=_;rw [hsc];exact ok.kind,by show cenv.globals=_;rw [←hcenv];exact I.ok.glob,by show cenv.builtins=_;rw [←hcenv];exact I.ok.blt,by show s.heap.objs.size≤cenv.locals;rw [hL];exact Nat.le_refl _,
   fun y z c e1 e2=>?_,fun y hy=>?_,fun y c z e=>?_,I.ok.hd,I.ok.frames,.inl rfl,fun b hb=>⟨?_,fun y c e z=>?_⟩,I.bs,Nat.le_trans I.ok.bsz I.sz,fun b o e hb=>?_,fun b hb z=>?_,I.stack,I.stkFree⟩
  ·have e1:cenv.cells.lookup y=some c:=e1
   have e2:cenv.cells.lookup z=some c:=e2
   rw [hcl] at e1 e2
   refine cells_inj (fun p hp=>?_) (fun y z c a b=>I.ok.inj y z c (cm a).1 (cm b).1) (PySem.mem_of_lookup e1) (PySem.mem_of_lookup e2)
   rw [Heap.size_push]
   exact Nat.lt_succ_of_lt (cm (y:=p.1) (c:=p.2) hp).2
  ·show ∃ c,cenv.cells.lookup y=some c
   have key:∀ k,cenv.kindOf y=some k→(k=.cell∨k=.free)→∃ c,cenv.cells.lookup y=some c:=fun k hk hk'=>by
    unfold Env.kindOf at hk
    rw [hsc] at hk
    obtain ⟨k',e,r⟩:=lookup_relS hk
    have:k'=.cell∨k'=.free:=by
     rcases r with rfl | ⟨rfl,_⟩
     ·exact hk'
     ·exact .inr rfl
    rcases this with rfl | rfl
    ·obtain ⟨c,hm⟩:=cells_has (n:=(s.heap.push { cls:=.type "dict",data:=.dict #[] }).objs.size) (acc:=cloFrom X.env.cells scope.names []) (PySem.mem_of_lookup e)
     obtain ⟨c',e'⟩:=mem_lookup hm
     exact ⟨c',by rw [hcl];exact e'⟩
    ·obtain ⟨c,h1,_⟩:=look e
     exact ⟨c,h1⟩
   rcases hy with hy | hy
   ·exact key _ hy (.inl rfl)
   ·exact key _ hy (.inr rfl)
  ·have z:(scope.names.lookup y == some NameKind.cell)=true:=z
   have z:scope.names.lookup y=some .cell:=by simpa using z
   have e:cenv.cells.lookup y=some c:=e
   rw [hcl] at e
   rcases cells_mem (PySem.mem_of_lookup e) with hm | ⟨_,h2,_⟩
   ·rcases cloFrom_mem hm with hm | ⟨h1,_⟩
    ·cases hm
    ·have q:=ok.uniq _ h1
     rw [z] at q;cases q
   ·rw [Heap.size_push] at h2
    exact Nat.le_of_succ_le h2
  ·show b≠cenv.locals
   rw [hL];exact Nat.ne_of_lt (hfp b hb).2
  ·have e:cenv.cells.lookup y=some c:=e
   rcases mem e with ⟨h1,_⟩ | ⟨h1,_⟩
   ·exact (hfp b hb).1.2.2.2.2.1 y c h1 z
   ·have h2:s.heap.objs.size+1≤b:=by rw [←z];exact h1
    exact absurd (Nat.lt_of_lt_of_le (hfp b hb).2 (Nat.le_of_succ_le h2)) (Nat.lt_irrefl _)
  ·rcases (hfp b hb).1.2.2.2.1 with z | z
   ·exact I.ok.noex b o e z
   ·exact absurd (Nat.lt_of_lt_of_le (Heap.lt_size e) (Nat.le_trans I.ok.bsz z)) (Nat.lt_irrefl _)
  ·rcases List.mem_cons.mp (I.stkSub b z) with z | z
   ·exact (hfp b hb).1.2.1 z
   ·exact (hfp b hb).1.2.2.1 z
 refine ⟨okB,rfl,I.bare,Un.kept kp,⟨fun _=>none,?_,fun i y av e1 e2 e3=>?_⟩,fun y c e=>?_,?_,fun y c e=>?_,fun p hp=>?_,I.hok.kept kp,by rw [wipe_length];exact I.len⟩
 ·show Heap.Ns _ cenv.locals _
  rw [hL]
  exact Heap.Ns.keeps (Heap.Ns.new ..) fun b o e=>pushCells_keeps _ _ _ _ e
 ·obtain ⟨e2,hne⟩:=wipe_some e2
  have hfr:scope.names.lookup y=some .free∧(cenv.kindOf y=some .cell∨cenv.kindOf y=some .free):=by
   have key:∀ k,cenv.scope.names.lookup y=some k→k=.local∨k=.cell∨k=.free→scope.names.lookup y=some .free∧(cenv.kindOf y=some .cell∨cenv.kindOf y=some .free):=fun k hk hk'=>by
    have hk0:=hk
    rw [hsc] at hk
    obtain ⟨k',e,r⟩:=lookup_relS hk
    have no:¬ (k'=.local∨k'=.cell):=fun hh=>by
     rcases ok.own _ (PySem.mem_of_lookup e) hh with e' | e'
     ·obtain ⟨p,hp,hpy⟩:=List.mem_map.mp e'
      have e3:=ok.ix p hp
      have:p.1=y:=hpy
      rw [this] at e3
      exact hne (List.mem_map.mpr ⟨p,hp,nodup_ix hN e3 e1⟩)
     ·exact e' (List.mem_of_getElem? e1)
    rcases r with rfl | ⟨rfl,rfl⟩
    ·rcases hk' with rfl | rfl | rfl
     ·exact absurd (.inl rfl) no
     ·exact absurd (.inr rfl) no
     ·exact ⟨e,.inr hk0⟩
    ·exact ⟨e,.inl hk0⟩
   have e3:Vis cenv.scope y:=e3
   rcases e3 with e3 | e3 | e3
   ·exact key _ e3 (.inl rfl)
   ·exact key _ e3 (.inr (.inl rfl))
   ·exact key _ e3 (.inr (.inr rfl))
  obtain ⟨m,hn,hl⟩:=I.loc
  have hvis:Vis X.env.scope y:=(ok.free _ (PySem.mem_of_lookup hfr.1) rfl).elim (fun k=>.inr (.inl k)) (fun k=>.inr (.inr k))
  obtain ⟨w,r,q⟩:=hl i y av e1 e2 hvis
  refine ⟨w,r,.inr ⟨hfr.2,?_⟩⟩
  obtain ⟨c,h1,h2⟩:=look hfr.1
  rcases q with ⟨k,_⟩ | ⟨_,c',e',z⟩
  ·have k:X.env.scope.names.lookup y=some .local:=k
   rcases ok.free _ (PySem.mem_of_lookup hfr.1) rfl with k' | k' <;> rw [show X.env.scope.names.lookup y=_ from k'] at k <;> cases k
  ·rw [h2] at e';cases e'
   exact ⟨c,h1,z.keeps kp⟩
 ·have e:cenv.cells.lookup y=some c:=e
  rcases mem e with ⟨h1,_⟩ | ⟨_,z⟩
  ·obtain ⟨w,z⟩:=I.cell y c h1
   exact ⟨w,z.keeps kp⟩
  ·exact ⟨_,z⟩
 ·show H cenv.locals=none
  rw [hL];exact I.hok.fresh (Nat.le_refl _)
 ·have e:cenv.cells.lookup y=some c:=e
  rcases mem e with ⟨h1,_⟩ | ⟨h1,_⟩
  ·exact I.freeC y c h1
  ·exact I.hok.fresh (Nat.le_of_succ_le h1)
 ·exact absurd (show p∈([] : List (Addr × Obj)) ++ [] from hp) (by simp)
theorem app_ok {E:Value→Shared→Prop} {D:Addr} {xs:List V} {y:V} {v:Value} {Q:Value→Shared→Prop} (I:Inv X pins σ H s) (hD:H D=some (.lst xs)) (hz:xs.length < sizeLine) (r:RelV y v)
  (h:∀ s',Inv X pins σ (upd H D (.lst (xs ++ [y]))) s'→Q .none s') : wpAny (model X.prog X.w) X.A (call (.builtin "list.append") [.ref D,v]) Q E s:=by
 obtain ⟨hz',its,n,ri,e⟩:=I.hok D _ hD
 have hl:=ri.length
 refine append_at (hsz:=by rw [List.size_toArray];omega) e fun h' sb ho'=>?_
 refine h { s with heap:=h' } (I.write (t':=s.toks) (by rw [hD];trivial) (.inl rfl) (fun b u hb q=>(sb.2 b hb).trans q) ⟨_,ho'⟩ ⟨by rw [List.length_append];exact hz,its ++ [v],n+1,ri.append (.cons r .nil),?_⟩)
 rw [ho']
 simp
def PTs (X:Cx) (ifs:List Expr) (t:TT) : Prop :=
 ∀ (pins:List (Addr × Obj)) (s:Shared) (σ:St) (H:Hp) (Q:Bool→Hp→Prop),Inv X pins σ H s→t σ H Q →
  wpAny (model X.prog X.w) X.A (forIn ifs true fun c r=>if r=true then do let ok ←isTrue c X.env (eval c X.env);pure (ForInStep.yield ok) else pure (ForInStep.yield r)) (TP X pins σ Q) X.xe s
def tYes :TT:=fun _ H Q=>Q true H
theorem pts_nil :PTs X [] tYes:=fun _ _ _ H _ I h=>wpAny_tests_nil ⟨H,I,h⟩
theorem pts_one {c:Expr} {t:TT} (h:PT X c t) : PTs X [c] t:=fun pins s σ H Q I hw=>wpAny_tests_one (h pins s σ H Q I hw)
end
theorem thnF {α:Type} {t:Sem α} {Q Q':α→Shared→Prop} {M:Model} {A:Around} {E:Value→Shared→Prop} {s:Shared} (h:wpAny M A t Q (fun _ _=>False) s) (hQ:∀ a s,Q a s→Q' a s) : wpAny M A t Q' E s:=wpAny_mono h hQ fun _ _ z=>False.elim z
theorem compLoop_any {prog:Program} {w:World} {A:Around} {R:Result→Shared→Prop} {s:Shared} {elt target iter:Expr} {ifs:List Expr} {scope:Scope} {pos:Pos} {it acc:Value} {env:Env} (I:Nat→Shared→Prop)
  (turn:∀ n s,I n s→wpAny (model prog w) A (pyNext it) (fun r s₁=>match r with
   | none=>R (.ok .next) s₁
   | some v=>wpAny (model prog w) A (letOwnedTupleGo target it v) (fun _ s₁'=>wpAny (model prog w) A (assign target env v) (fun _ s₂ =>
     wpAny (model prog w) A (forIn ifs true fun c r=>if r=true then do let ok ←isTrue c env (eval c env);pure (ForInStep.yield ok) else pure (ForInStep.yield r)) (fun ok s₃ =>
      if ok=true then wpAny (model prog w) A (eval elt env) (fun x s₄ =>
       wpAny (model prog w) A (call (.builtin "list.append") [acc,x]) (fun _ s₅=>∃ m,m < n∧I m s₅) (notedBy (model prog w) A env fun e s'=>R (.error e) s') s₄) (notedBy (model prog w) A env fun e s'=>R (.error e) s') s₃
      else ∃ m,m < n∧I m s₃) (notedBy (model prog w) A env fun e s'=>R (.error e) s') s₂) (notedBy (model prog w) A env fun e s'=>R (.error e) s') s₁') (notedBy (model prog w) A env fun e s'=>R (.error e) s') s₁) (notedBy (model prog w) A env fun e s'=>R (.error e) s') s)
  (n:Nat) (h:I n s) :
  codeAny (model prog w) A (.compLoop (.ListComp elt [⟨target,iter,ifs,0⟩] scope pos) 0 it acc env) R s:=by
 refine codeAny_loop rfl I (fun n s hI=>?_) n h
 show wpAny _ A ((compTurn (.ListComp elt [⟨target,iter,ifs,0⟩] scope pos) 0 it acc env).onRaise (fun x=>do noteFrame x env;theTreesLotGoes x)) _ _ s
 refine wpAny_noted ?_
 rw [compTurn_list]
 refine wpAny_bind (wpAny_standAt (wpAny_bind (wpAny_mono (turn n s hI) (fun r s₁ h₁=>?_) fun _ _ h'=>h')))
 cases r with
 | none=>exact wpAny_pure h₁
 | some v =>
  refine wpAny_bind (wpAny_mono h₁ (fun _ s₁' h₁'=>?_) fun _ _ h'=>h')
  refine wpAny_bind (wpAny_mono h₁' (fun _ s₂ h₂=>wpAny_bind (wpAny_mono h₂ (fun ok s₃ h₃=>?_) fun _ _ h'=>h')) fun _ _ h'=>h')
  cases ok with
  | false=>exact wpAny_pure ⟨rfl,h₃⟩
  | true =>
   exact wpAny_bind (wpAny_bind (wpAny_mono h₃ (fun x s₄ h₄=>wpAny_bind (wpAny_mono h₄ (fun _ s₅ h₅=>wpAny_pure (wpAny_pure ⟨rfl,h₅⟩)) fun _ _ h'=>h')) fun _ _ h'=>h'))
section
variable {X:Cx}
def tLc (wi:TI) (g:TG) (tt:TT) (te:TE) (vs:List Nat) : TE:=fun σ H Q=>wi σ H fun J H1=>∀ D,H1 D=none→∃ W:Nat→Nat→Hp→Prop,(∃ m,W 0 m (upd H1 D (.lst [])))∧∀ i m H,W i m H →
 (J.stop i H∧Q (.ref D) H)∨(J.go i H∧∃ Nx:Hp→Prop,(∀ H',Nx H'→∃ m',m' < m∧W (i+1) m' H')∧∀ x H',J.yld i H x H'→g x (wipe σ vs) H' fun σ2 H2=>wipe σ2 vs=wipe σ vs∧tt σ2 H2 fun b H3 =>
  if b=true then te σ2 H3 fun y H4=>∃ acc,H4 D=some (.lst acc)∧acc.length < sizeLine∧Nx (upd H4 D (.lst (acc ++ [y]))) else Nx H3)
theorem lc_core {pins:List (Addr × Obj)} {s:Shared} {σ:St} {H:Hp} {Q:VK} {elt tg iter:Expr} {ifs:List Expr} {scope:Scope} {own:List (Str × Nat)} {pos pos':Pos} {wi:TI} {g:TG} {tt:TT} {te:TE} {use:Option (Value→Sem Unit)} {Qf:Value→Shared→Prop}
  (hc:X.calm=true) (hN:X.N.Nodup) (I:Inv X pins σ H s) (hi:PI X tg iter wi) (ok:BlkOk X.N X.env.scope scope own)
  (hg:∀ (s:Shared) (H:Hp) (C:Addr) (cl:List (Str × Addr)) (fp:List Addr),PG (X.blk s H scope (compEnvC scope cl C X.env) fp) tg g) (ht:∀ (s:Shared) (H:Hp) (C:Addr) (cl:List (Str × Addr)) (fp:List Addr),PTs (X.blk s H scope (compEnvC scope cl C X.env) fp) ifs tt)
  (he:∀ (s:Shared) (H:Hp) (C:Addr) (cl:List (Str × Addr)) (fp:List Addr),PE (X.blk s H scope (compEnvC scope cl C X.env) fp) elt te) (hs:∀ x,foldedSetIterable iter X.env x=pure x)
  (h:tLc wi g tt te (own.map (·.2)) σ H Q)
  (hRR:∀ D C s' m H',Inv X pins σ H' s'→Q (.ref D) H'→s'.heap.Ns C m→FpOk X pins H' C→compPost (model X.prog X.w) X.A X.xe use Qf (.ref D) C (.ok .next) s') :
  wpAny (model X.prog X.w) X.A (comprehension (.ListComp elt [⟨tg,iter,ifs,0⟩] scope pos) scope X.env pos' (newList []) false (eval iter X.env) use) Qf X.xe s:=by
 have hfree:∀ y∈scope.names,y.2=.free→∃ c,X.env.cells.lookup y.1=some c:=fun y hy e=>by
  rcases ok.free y hy e with k | k
  ·exact I.ok.has _ (.inl k)
  ·exact I.ok.has _ (.inr k)
 refine wpAny_comprehension_free (use:=use) rfl hs (closure_ok hfree) ok.kind (fun y hy e=>by rw [ok.uniq y hy,e])
  (thn (hi pins s σ H _ I h) fun xv s1 hx=>thn hx fun itv s2 h2=>?_)
 obtain ⟨it,fp,tn,J,H2,e,I2,T,st2,f2,q⟩:=h2
 subst e
 refine wpAny_newObj_type (newEnv_comp ?_) (by show 0≤sizeLine;decide)
 generalize hD:s2.heap.objs.size=D
 have hDn:H2 D=none:=I2.hok.fresh (Nat.le_of_eq hD)
 obtain ⟨W,⟨m0,w0⟩,turn⟩:=q D hDn
 generalize hs3:({ s2 with heap:=s2.heap.push { cls:=.type "list",data:=.seq ([] : List Value).toArray } }:Shared)=s3
 have I3:Inv X pins σ (upd H2 D (.lst [])) s3:=by
  rw [←hs3]
  refine I2.laid (t':=s2.toks) (fun b o e=>Heap.get?_push_of_some _ e) (Nat.le_of_eq hD) ⟨Nat.zero_le _,[],0,.nil,?_⟩
  rw [←hD]
  exact Heap.get?_push_size _ rfl
 have h3:s3.heap=s2.heap.push { cls:=.type "list",data:=.seq ([] : List Value).toArray }:=by rw [←hs3]
 have sz:∀ b∈fp,b < s2.heap.objs.size:=fun b hb=>by
  obtain ⟨o,e,_⟩:=T.obj _ _ st2 b hb
  exact Heap.lt_size e
 have f3:∀ b∈fp,FpOk X pins (upd H2 D (.lst [])) b∧b < s3.heap.objs.size:=fun b hb=>by
  have hlt:=sz b hb
  refine ⟨⟨?_,(f2 b hb).2⟩,by rw [h3,Heap.size_push];exact Nat.lt_succ_of_lt hlt⟩
  rw [upd_ne (by rw [←hD];exact Nat.ne_of_lt hlt)]
  exact (f2 b hb).1
 have st3:tn 0 s3.heap:=T.keep _ _ _ st2 fun b _ o e=>by rw [h3];exact Heap.get?_push_of_some _ e
 have I4:=block_start I3 ok hN f3
 have pg:=hg s3 (upd H2 D (.lst [])) s3.heap.objs.size (cellsFrom (s3.heap.objs.size+1) scope.names (cloFrom X.env.cells scope.names [])) fp
 have pt:=ht s3 (upd H2 D (.lst [])) s3.heap.objs.size (cellsFrom (s3.heap.objs.size+1) scope.names (cloFrom X.env.cells scope.names [])) fp
 have pe:=he s3 (upd H2 D (.lst [])) s3.heap.objs.size (cellsFrom (s3.heap.objs.size+1) scope.names (cloFrom X.env.cells scope.names [])) fp
 show codeAny _ _ (.compStart (.ListComp elt [⟨tg,iter,ifs,0⟩] scope pos) 0 (.ref it) (.ref D) (compEnvC scope (cellsFrom (s3.heap.objs.size+1) scope.names (cloFrom X.env.cells scope.names [])) s3.heap.objs.size X.env)) (compPost (model X.prog X.w) X.A X.xe use Qf (.ref D) s3.heap.objs.size) { s3 with heap:=pushCells (s3.heap.push { cls:=.type "dict",data:=.dict #[] }) scope.names }
 have nfp:∀ b∈fp,(upd H2 D (.lst [])) b=none:=fun b hb=>(f3 b hb).1.1
 generalize hce:compEnvC scope (cellsFrom (s3.heap.objs.size+1) scope.names (cloFrom X.env.cells scope.names [])) s3.heap.objs.size X.env=ce at I4 pg pt pe ⊢
 have cL:ce.locals=s3.heap.objs.size:=by subst hce;rfl
 generalize hH3:upd H2 D (.lst [])=H3 at I3 I4 pg pt pe w0 nfp f3
 generalize hs4:({ s3 with heap:=pushCells (s3.heap.push { cls:=.type "dict",data:=.dict #[] }) scope.names }:Shared)=s4 at I4 ⊢
 have st4:tn 0 s4.heap:=T.keep _ _ _ st3 fun b _ o e=>by rw [←hs4];exact pushCells_keeps _ _ _ _ (Heap.get?_push_of_some _ e)
 have stat:∀ {σ':St} {H':Hp} {s':Shared},Inv (X.blk s3 H3 scope ce fp) [] σ' H' s'→(∀ b∈fp,H' b=none)→∀ b∈fp,FpOk (X.blk s3 H3 scope ce fp) [] H' b:=fun {σ' H' s'} I' hn b hb =>
  ⟨hn b hb,(I'.ok.exf b hb).1,I'.ok.exfs b hb,.inl hb,fun x c e=>(I'.ok.exf b hb).2 x c e,fun p hp=>absurd (show p∈([] : List (Addr × Obj)) ++ [] from hp) (by simp)⟩
 have loop:codeAny (model X.prog X.w) X.A (.compLoop (.ListComp elt [⟨tg,iter,ifs,0⟩] scope pos) 0 (.ref it) (.ref D) ce) (compPost (model X.prog X.w) X.A X.xe use Qf (.ref D) s3.heap.objs.size) s4:=by
  refine compLoop_any (fun n s'=>∃ i H',Inv (X.blk s3 H3 scope ce fp) [] (wipe σ (own.map (·.2))) H' s'∧tn i s'.heap∧(∀ b∈fp,H' b=none)∧W i n H') ?_ m0 ⟨0,H3,I4,st4,nfp,w0⟩
  rintro n s5 ⟨i,H5,I5,st5,n5,w5⟩
  rcases turn i n H5 w5 with ⟨stop,qq⟩ | ⟨go,Nx,hNx,step⟩
  ·have td:=T.done (X.blk s3 H3 scope ce fp) rfl rfl rfl hc i [] s5 _ H5 (fun _ _=>False) I5 (stat I5 n5) st5 stop
   refine thnF td fun r s6 ⟨hr,I6⟩=>?_
   subst hr
   have I7:Inv X pins σ H5 s6:=I3.call' (ch:=fp) I6.os I6.base I6.hok I6.bare fun b hb=>⟨(f3 b hb).1.2.2.2.1,(f3 b hb).1.2.1,(f3 b hb).1.2.2.2.2.1,(f3 b hb).1.2.2.2.2.2⟩
   have nC:H5 s3.heap.objs.size=none:=by
    have z:H5 ce.locals=none:=I6.free
    rw [cL] at z
    exact z
   obtain ⟨m,hn,_⟩:=I6.loc
   have hn:s6.heap.Ns ce.locals m:=hn
   rw [cL] at hn
   exact hRR D s3.heap.objs.size s6 m H5 I7 qq hn (I3.fpOk (Nat.le_refl _) nC)
  ·have ti:=T.item (X.blk s3 H3 scope ce fp) rfl rfl rfl hc i [] s5 _ H5 (fun _ _=>False) I5 (stat I5 n5) st5 go
   refine thnF ti fun r s6 ⟨u,hr,h6⟩=>?_
   subst hr
   refine thnF h6 fun _ s7 ⟨x,H7,I7,r7,y7,st7,n7⟩=>?_
   have I7':=I7.pinned (stat I7 n7) (T.obj _ _ st7)
   refine thnF (pg _ s7 _ H7 x u _ I7' r7 (step x H7 y7)) fun _ s8 ⟨σ8,H8,I8,hw8,q8⟩=>?_
   refine thnF (pt _ s8 σ8 H8 _ I8 q8) fun b s9 ⟨H9,I9,q9⟩=>?_
   have fin:∀ {s':Shared} {H':Hp},Inv (X.blk s3 H3 scope ce fp) ([] ++ pinsAt fp s7.heap) σ8 H' s'→Nx H'→∃ m,m < n∧∃ i H',Inv (X.blk s3 H3 scope ce fp) [] (wipe σ (own.map (·.2))) H' s'∧tn i s'.heap∧(∀ b∈fp,H' b=none)∧W i m H':=fun {s' H'} I' nx=>by
    obtain ⟨m',hm,w'⟩:=hNx H' nx
    have pin':∀ b∈fp,∀ o,s7.heap.get? b=some o→s'.heap.get? b=some o∧H' b=none:=fun b hb o e =>
     let z:=I'.pin (b,o) (List.mem_append_right _ (List.mem_append_right _ (mem_pinsAt hb e)))
     ⟨z.1,z.2.1⟩
    have hl:(wipe σ (own.map (·.2))).length=σ8.length:=by rw [←hw8,wipe_length]
    refine ⟨m',hm,i+1,H',(I'.unpinned (pins:=[])).weak hl (fun j v e=>?_),T.keep _ _ _ st7 fun b hb o e=>(pin' b hb o e).1,fun b hb=>?_,w'⟩
    ·rw [←hw8] at e
     exact (wipe_some e).1
    ·obtain ⟨o,e,_⟩:=T.obj _ _ st7 b hb
     exact (pin' b hb o e).2
   cases b with
   | false =>
    simp only [Bool.false_eq_true,if_false] at q9 ⊢
    exact fin I9 q9
   | true =>
    simp only [if_true] at q9 ⊢
    refine thnF (pe _ s9 σ8 H9 _ I9 q9) fun z s10 ⟨yv,H10,I10,r10,acc,hD10,hz10,nx⟩=>?_
    exact app_ok (X:=X.blk s3 H3 scope ce fp) I10 hD10 hz10 r10 fun s11 I11=>fin I11 nx
 exact codeAny_compStart_list loop (T.self X.A 0 _ _ _ st4 loop)
theorem pe_lc {elt tg iter:Expr} {ifs:List Expr} {scope:Scope} {own:List (Str × Nat)} {pos:Pos} {wi:TI} {g:TG} {tt:TT} {te:TE} (hc:X.calm=true) (hN:X.N.Nodup) (hi:PI X tg iter wi) (ok:BlkOk X.N X.env.scope scope own)
  (hg:∀ (s:Shared) (H:Hp) (C:Addr) (cl:List (Str × Addr)) (fp:List Addr),PG (X.blk s H scope (compEnvC scope cl C X.env) fp) tg g) (ht:∀ (s:Shared) (H:Hp) (C:Addr) (cl:List (Str × Addr)) (fp:List Addr),PTs (X.blk s H scope (compEnvC scope cl C X.env) fp) ifs tt)
  (he:∀ (s:Shared) (H:Hp) (C:Addr) (cl:List (Str × Addr)) (fp:List Addr),PE (X.blk s H scope (compEnvC scope cl C X.env) fp) elt te) (hs:∀ x,foldedSetIterable iter X.env x=pure x:=by intro _;rfl) :
  PE X (.ListComp elt [⟨tg,iter,ifs,0⟩] scope pos) (tLc wi g tt te (own.map (·.2))):=by
 intro pins s σ H Q I h
 rw [eval_ListComp]
 refine lc_core hc hN I hi ok hg ht he hs h fun D C s' m H' I' q hn f=>⟨m,hn,fun h'' sb=>?_⟩
 obtain ⟨f0,f1,f2,f3,f4,f5⟩:=f
 exact ⟨.ref D,H',I'.turned (t':=s'.toks) (fun b o hb e=>(sb.2 b hb).trans e) f0 f1 f3 f4 f5,rfl,q⟩
theorem ps_setLc {i:Nat} {y:Str} {py:Pos} {elt tg iter:Expr} {ifs:List Expr} {scope:Scope} {own:List (Str × Nat)} {pos spos:Pos} {wi:TI} {g:TG} {tt:TT} {te:TE} (hc:X.calm=true) (hN:X.N.Nodup) (hy:X.N[i]? = some y) (hyl:X.env.scope.names.lookup y=some .local)
  (hsw:swapsWith (.ListComp elt [⟨tg,iter,ifs,0⟩] scope pos) (some (.Name y py)) spos.line X.env=pure true) (hi:PI X tg iter wi) (ok:BlkOk X.N X.env.scope scope own)
  (hg:∀ (s:Shared) (H:Hp) (C:Addr) (cl:List (Str × Addr)) (fp:List Addr),PG (X.blk s H scope (compEnvC scope cl C X.env) fp) tg g) (ht:∀ (s:Shared) (H:Hp) (C:Addr) (cl:List (Str × Addr)) (fp:List Addr),PTs (X.blk s H scope (compEnvC scope cl C X.env) fp) ifs tt)
  (he:∀ (s:Shared) (H:Hp) (C:Addr) (cl:List (Str × Addr)) (fp:List Addr),PE (X.blk s H scope (compEnvC scope cl C X.env) fp) elt te) (hs:∀ x,foldedSetIterable iter X.env x=pure x:=by intro _;rfl) :
  PS X (.Assign [.Name y py] (.ListComp elt [⟨tg,iter,ifs,0⟩] scope pos) spos) (tAsg (tLc wi g tt te (own.map (·.2))) (gName i)):=by
 intro pins s σ H D I h
 rw [exec_Assign_Name_used _ _ _ _ hsw]
 refine wpAny_bind (wpAny_standAt (wpAny_bind ?_))
 show wpAny _ X.A (do let _ ←comprehension (.ListComp elt [⟨tg,iter,ifs,0⟩] scope pos) scope X.env (firstIterPos [⟨tg,iter,ifs,0⟩] pos) (newList []) false (eval iter X.env) (some (assign (.Name y py) X.env))) _ _ s
 have h:tLc wi g tt te (own.map (·.2)) σ H (fun x H1=>gName i x σ H1 D.nx):=h
 refine wpAny_bind (thn (lc_core (Qf:=fun _ s'=>SP X pins D .next s') hc hN I hi ok hg ht he hs h fun L C s' m H' I' q hn f=>?_) fun _ s' hq=>wpAny_pure (wpAny_pure hq))
 show wpAny _ _ (assign (.Name y py) X.env (.ref L)) _ _ _
 refine wpAny_assign_Name (store_ok2 (v:=V.ref L) I' hN hy (.inl hyl) rfl (fun s2 I2 ⟨a,sb,ha⟩=>?_) (.inr hyl))
 obtain ⟨f0,f1,f2,f3,f4,f5⟩:=f
 have haC:C≠a:=by
  rcases ha with z | z
  ·rw [z];exact f1
  ·exact fun e=>f4 y a z e.symm
 refine ⟨m,hn.sameBut sb haC,fun h3 sb3=>?_⟩
 exact ⟨_,H',I2.turned (t':=s2.toks) (fun b o hb e=>(sb3.2 b hb).trans e) f0 f1 f3 f4 f5,q⟩
theorem sw_true {elt:Expr} {gs:List Comprehension} {scope:Scope} {pos py:Pos} {y:Str} {l:Nat} {env:Env} (hk:env.scope.kind=.function) (hy:env.scope.names.lookup y=some .local) (hl:(py.line == pos.line)=true)
  (ha:(scope.names.any fun (n,k)=>n == y && (k == .local || k == .cell))=false) : swapsWith (.ListComp elt gs scope pos) (some (.Name y py)) l env=pure true:=by
 have ky:env.kindOf y=some .local:=hy
 have hb:env.blockKind=.function:=by unfold Env.blockKind;rw [hk];rfl
 unfold swapsWith
 simp only [hb,ky,ha,Expr.pos,hl]
 rfl
end
theorem lc_range {lo:Int} {n:Nat} {g:TG} {tt:TT} {te:TE} {vs:List Nat} {σ:St} {H1:Hp} {D:Addr} {Qd:Hp→Prop} (Pv:Nat→Hp→Prop) (h0:Pv 0 (upd H1 D (.lst [])))
  (hs:∀ i H,i < n→Pv i H→g (.int (lo+i)) (wipe σ vs) H fun σ2 H2=>wipe σ2 vs=wipe σ vs∧tt σ2 H2 fun b H3 =>
   if b=true then te σ2 H3 fun y H4=>∃ acc,H4 D=some (.lst acc)∧acc.length < sizeLine∧Pv (i+1) (upd H4 D (.lst (acc ++ [y]))) else Pv (i+1) H3) (hd:∀ H,Pv n H→Qd H) :
  ∃ W:Nat→Nat→Hp→Prop,(∃ m,W 0 m (upd H1 D (.lst [])))∧∀ i m H,W i m H →
   ((Itr lo n).stop i H∧Qd H)∨((Itr lo n).go i H∧∃ Nx:Hp→Prop,(∀ H',Nx H'→∃ m',m' < m∧W (i+1) m' H')∧∀ x H',(Itr lo n).yld i H x H'→g x (wipe σ vs) H' fun σ2 H2=>wipe σ2 vs=wipe σ vs∧tt σ2 H2 fun b H3 =>
    if b=true then te σ2 H3 fun y H4=>∃ acc,H4 D=some (.lst acc)∧acc.length < sizeLine∧Nx (upd H4 D (.lst (acc ++ [y]))) else Nx H3):=by
 refine ⟨fun i m H=>m=n - i∧i≤n∧Pv i H,⟨n,by simp,Nat.zero_le _,h0⟩,?_⟩
 rintro i m H ⟨rfl,hi,p⟩
 by_cases hlt:i < n
 ·refine .inr ⟨hlt,Pv (i+1),fun H' p'=>⟨n - (i+1),by omega,rfl,hlt,p'⟩,fun x H' y=>?_⟩
  obtain ⟨e,y⟩:=y
  subst e y
  exact hs i _ hlt p
 ·have e:i=n:=by omega
  subst e
  exact .inl ⟨Nat.le_refl _,hd H p⟩
def blkC (N:List Str) (sc scope:Scope) (own:List (Str × Nat)) : Bool :=
 (match scope.kind with | .function=>true | _=>false) && (scope.names.all fun y=>decide (scope.names.lookup y.1=some y.2)) && (own.all fun p=>decide (N[p.2]? = some p.1)) &&
  (scope.names.all fun y=>match y.2 with
   | .free=>(match sc.names.lookup y.1 with | some .cell=>true | some .free=>true | _=>false)
   | .local=>decide (y.1∈own.map (·.1)) || decide (y.1∉N)
   | .cell=>decide (y.1∈own.map (·.1)) || decide (y.1∉N)
   | _=>true)
theorem blkOk_by {N:List Str} {sc scope:Scope} {own:List (Str × Nat)} (h:blkC N sc scope own=true) : BlkOk N sc scope own:=by
 unfold blkC at h
 simp only [Bool.and_eq_true,List.all_eq_true,decide_eq_true_eq] at h
 obtain ⟨⟨⟨h1,h2⟩,h3⟩,h4⟩:=h
 refine ⟨?_,h2,h3,fun y hy e=>?_,fun y hy e=>?_⟩
 ·split at h1
  ·assumption
  ·cases h1
 ·have q:=h4 y hy
  simp only [e] at q
  split at q <;> first | exact .inl (by assumption) | exact .inr (by assumption) | cases q
 ·have q:=h4 y hy
  rcases e with e | e <;> (simp only [e,Bool.or_eq_true,decide_eq_true_eq] at q;exact q)
end L2
namespace L2
open PySem PySem.Spec PyProof.Rows
section
variable {prog:Program} {w:World} {A:Around} {R:Result→Shared→Prop} {s:Shared} {elt t0 i0 t1 i1:Expr} {ifs0 ifs1:List Expr} {scope:Scope} {pos:Pos} {it acc:Value} {env:Env}
end
section
variable {X:Cx}
end
end L2
namespace L2
open PySem PySem.Spec PyProof.Rows
section
variable {κ:Type} [DecidableEq κ]
def valV (kvs:List (κ × V)) (k:κ) : Option V:=(kvs.find? fun kv=>decide (kv.1=k)).map (·.2)
def putK (kvs:List (κ × V)) (k:κ) (v:V) : List (κ × V) :=
 if (kvs.any fun kv=>decide (kv.1=k))=true then kvs.map (fun kv=>if kv.1=k then (kv.1,v) else kv) else kvs ++ [(k,v)]
def dropK (kvs:List (κ × V)) (k:κ) : List (κ × V):=kvs.filter fun kv=>decide (kv.1≠k)
theorem valV_pos {p:κ × V} {r:List (κ × V)} {k:κ} (e:p.1=k) : valV (p :: r) k=some p.2:=by simp [valV,List.find?_cons,e]
theorem valV_neg {p:κ × V} {r:List (κ × V)} {k:κ} (e:¬ p.1=k) : valV (p :: r) k=valV r k:=by simp [valV,List.find?_cons,e]
theorem valV_any (k:κ) : ∀ kvs:List (κ × V),(kvs.any fun kv=>decide (kv.1=k))=(valV kvs k).isSome
 | []=>rfl
 | p :: r=>by
  rw [List.any_cons]
  by_cases e:p.1=k
  ·simp only [valV_pos e,decide_eq_true e,Bool.true_or,Option.isSome_some]
  ·rw [valV_neg e,decide_eq_false e,Bool.false_or];exact valV_any k r
theorem valV_map (k j:κ) (y:V) : ∀ kvs:List (κ × V),valV (kvs.map fun kv=>if kv.1=k then (kv.1,y) else kv) j=(valV kvs j).map fun x=>if j=k then y else x
 | []=>rfl
 | p :: r=>by
  have ih:=valV_map k j y r
  rw [List.map_cons]
  by_cases h:p.1=k
  ·rw [if_pos h]
   by_cases e:p.1=j
   ·rw [valV_pos (p:=(p.1,y)) e,valV_pos e,Option.map_some,if_pos (e.symm.trans h)]
   ·rw [valV_neg (p:=(p.1,y)) e,valV_neg e,ih]
  ·rw [if_neg h]
   by_cases e:p.1=j
   ·rw [valV_pos (p:=p) e,valV_pos e,Option.map_some,if_neg (fun z=>h (e.trans z))]
   ·rw [valV_neg (p:=p) e,valV_neg e,ih]
theorem valV_snoc (k j:κ) (y:V) : ∀ kvs:List (κ × V),valV kvs k=none→valV (kvs ++ [(k,y)]) j=if j=k then some y else valV kvs j
 | [],_=>by
  by_cases e:k=j
  ·rw [if_pos e.symm];exact valV_pos (p:=(k,y)) e
  ·rw [if_neg (fun z=>e z.symm)];exact valV_neg (p:=(k,y)) e
 | p :: r,hn=>by
  rw [List.cons_append]
  have hk:¬ p.1=k:=fun z=>by rw [valV_pos z] at hn;cases hn
  rw [valV_neg hk] at hn
  have ih:=valV_snoc k j y r hn
  by_cases e:p.1=j
  ·rw [valV_pos e,valV_pos e,if_neg (fun z=>hk (e.trans z))]
  ·rw [valV_neg e,valV_neg e,ih]
theorem valV_put (kvs:List (κ × V)) (k j:κ) (y:V) : valV (putK kvs k y) j=if j=k then some y else valV kvs j:=by
 unfold putK
 by_cases a:(kvs.any fun kv=>decide (kv.1=k))=true
 ·rw [if_pos a,valV_map]
  rw [valV_any] at a
  by_cases e:j=k
  ·obtain ⟨x,hx⟩:=Option.isSome_iff_exists.mp a
   rw [if_pos e,e,hx,Option.map_some,if_pos rfl]
  ·rw [if_neg e]
   cases valV kvs j with
   | none=>rfl
   | some x=>rw [Option.map_some,if_neg e]
 ·rw [if_neg a]
  refine valV_snoc k j y kvs ?_
  rw [valV_any] at a
  cases q:valV kvs k with
  | none=>rfl
  | some x=>rw [q] at a;exact (a rfl).elim
theorem length_putK (kvs:List (κ × V)) (k:κ) (v:V) : (putK kvs k v).length≤kvs.length+1:=by
 unfold putK
 split
 ·rw [List.length_map];omega
 ·rw [List.length_append,List.length_cons,List.length_nil];omega
theorem putK_new {kvs:List (κ × V)} {k:κ} (v:V) (h:valV kvs k=none) : putK kvs k v=kvs ++ [(k,v)]:=by
 unfold putK
 rw [valV_any,h]
 exact if_neg (by decide)
theorem RelO.isSome_eq {o:Option V} {u:Option Value} (r:RelO o u) : o.isSome=u.isSome:=by
 cases o with
 | none=>cases u with
  | none=>rfl
  | some _=>exact (show False from r).elim
 | some _=>cases u with
  | none=>exact (show False from r).elim
  | some _=>rfl
theorem RelO.getD {o:Option V} {u:Option Value} {d:V} {d':Value} (r:RelO o u) (rd:RelV d d') : RelV (o.getD d) (u.getD d'):=by
 cases o with
 | none=>cases u with
  | none=>exact rd
  | some _=>exact (show False from r).elim
 | some _=>cases u with
  | none=>exact (show False from r).elim
  | some _=>exact r
theorem KV.val {kvs:List (κ × V)} {vs:List (κ × Value)} (r:KV kvs vs) (k:κ) : RelO (valV kvs k) (valueAt vs k):=by
 unfold KV at r
 induction r with
 | nil=>exact True.intro
 | @cons p q ps qs h t ih =>
  obtain ⟨h1,h2⟩:=h
  by_cases e:p.1=k
  ·have e':q.1=k:=h1.symm.trans e
   have b:valueAt (q :: qs) k=some q.2:=by simp [valueAt,List.find?_cons,e']
   rw [valV_pos e,b];exact h2
  ·have e':¬ q.1=k:=fun z=>e (h1.trans z)
   have b:valueAt (q :: qs) k=valueAt qs k:=by simp [valueAt,List.find?_cons,e']
   rw [valV_neg e,b];exact ih
theorem KV.any {kvs:List (κ × V)} {vs:List (κ × Value)} (r:KV kvs vs) (k:κ) : (kvs.any fun kv=>decide (kv.1=k))=vs.any fun kv=>decide (kv.1=k):=by
 unfold KV at r
 induction r with
 | nil=>rfl
 | cons h t ih=>rw [List.any_cons,List.any_cons,ih,h.1]
theorem KV.repl {kvs:List (κ × V)} {vs:List (κ × Value)} (r:KV kvs vs) (k:κ) {y:V} {u:Value} (ry:RelV y u) :
  KV (kvs.map fun kv=>if kv.1=k then (kv.1,y) else kv) (vs.map fun kv=>if kv.1=k then (kv.1,u) else kv):=by
 unfold KV at r ⊢
 induction r with
 | nil=>exact .nil
 | @cons p q ps qs h t ih =>
  rw [List.map_cons,List.map_cons]
  refine .cons ?_ ih
  obtain ⟨h1,h2⟩:=h
  by_cases e:p.1=k
  ·rw [if_pos e,if_pos (h1.symm.trans e)];exact ⟨h1,ry⟩
  ·rw [if_neg e,if_neg (fun z=>e (h1.trans z))];exact ⟨h1,h2⟩
theorem KV.put {kvs:List (κ × V)} {vs:List (κ × Value)} (r:KV kvs vs) (k:κ) {y:V} {u:Value} (ry:RelV y u) : KV (putK kvs k y) (stored vs k u):=by
 unfold putK stored
 rw [r.any k]
 by_cases e:(vs.any fun kv=>decide (kv.1=k))=true
 ·rw [if_pos e,if_pos e];exact r.repl k ry
 ·rw [if_neg e,if_neg e];exact Paired.snoc r ⟨rfl,ry⟩
theorem KV.drop {kvs:List (κ × V)} {vs:List (κ × Value)} (r:KV kvs vs) (k:κ) : KV (dropK kvs k) (without vs k):=by
 unfold KV at r ⊢
 unfold dropK without
 induction r with
 | nil=>exact .nil
 | @cons p q ps qs h t ih =>
  obtain ⟨h1,h2⟩:=h
  rw [List.filter_cons,List.filter_cons]
  by_cases e:p.1=k
  ·have a:¬ decide (p.1≠k)=true:=by simp [e]
   have b:¬ decide (q.1≠k)=true:=by simp [h1.symm.trans e]
   rw [if_neg a,if_neg b];exact ih
  ·have e':¬ q.1=k:=fun z=>e (h1.trans z)
   have a:decide (p.1≠k)=true:=by simp [e]
   have b:decide (q.1≠k)=true:=by simp [e']
   rw [if_pos a,if_pos b];exact .cons ⟨h1,h2⟩ ih
theorem KV.keys {kvs:List (κ × V)} {vs:List (κ × Value)} (r:KV kvs vs) : kvs.map (·.1)=vs.map (·.1):=by
 unfold KV at r
 induction r with
 | nil=>rfl
 | cons h t ih=>rw [List.map_cons,List.map_cons,ih,h.1]
theorem KV.length {kvs:List (κ × V)} {vs:List (κ × Value)} (r:KV kvs vs) : kvs.length=vs.length:=Paired.length r
theorem dropK_le (kvs:List (κ × V)) (k:κ) : (dropK kvs k).length≤kvs.length:=List.length_filter_le _ _
end
theorem kV_is {P:Program} {w:World} {k:Key} {u:Value} (r:RelV (kV k) u) : (mixKind P w).is k u=true:=by
 cases k with
 | inl i=>obtain ⟨t,e⟩:=(show ∃ t,u=Value.int i t from r);subst e;exact mixKind_int P w i t
 | inr x=>obtain ⟨t,e⟩:=(show ∃ t,u=Value.str x t from r);subst e;exact mixKind_str P w x t
theorem items_are {P:Program} {w:World}:∀ {ks:List Key} {us:List Value},Vals (ks.map kV) us→ItemsAre (mixKind P w) ks us
 | [],_,r=>by rw [List.map_nil] at r;cases r;exact .nil
 | k :: ks,_,r=>by
  rw [List.map_cons] at r
  cases r with
  | cons h t=>exact .cons (kV_is h) (items_are t)
abbrev KT (H:Hp) : List (List Key × V)→List (List Key × Addr × Value)→Prop:=Paired fun p q=>p.1=q.1∧H q.2.1=some (.tup (p.1.map kV))∧RelV p.2 q.2.2
theorem KT.val {H:Hp} {kvs:List (List Key × V)} {xs:List (List Key × Addr × Value)} (r:KT H kvs xs) (k:List Key) : RelO (valV kvs k) ((atKey xs k).map (·.2)):=by
 induction r with
 | nil=>exact True.intro
 | @cons p q ps qs h t ih =>
  obtain ⟨h1,_,h2⟩:=h
  by_cases e:p.1=k
  ·have e':q.1=k:=h1.symm.trans e
   have b:atKey (q :: qs) k=some q.2:=by simp [atKey,List.find?_cons,e']
   rw [valV_pos e,b];exact h2
  ·have e':¬ q.1=k:=fun z=>e (h1.trans z)
   have b:atKey (q :: qs) k=atKey qs k:=by simp [atKey,List.find?_cons,e']
   rw [valV_neg e,b];exact ih
theorem KT.repl {H:Hp} {kvs:List (List Key × V)} {xs:List (List Key × Addr × Value)} (r:KT H kvs xs) (k:List Key) {y:V} {u:Value} (ry:RelV y u) :
  KT H (kvs.map fun kv=>if kv.1=k then (kv.1,y) else kv) (xs.map (putAt k u)):=by
 induction r with
 | nil=>exact .nil
 | @cons p q ps qs h t ih =>
  rw [List.map_cons,List.map_cons]
  refine .cons ?_ ih
  obtain ⟨h1,h2,h3⟩:=h
  unfold putAt
  by_cases e:p.1=k
  ·rw [if_pos e,if_pos (h1.symm.trans e)];exact ⟨h1,h2,ry⟩
  ·rw [if_neg e,if_neg (fun z=>e (h1.trans z))];exact ⟨h1,h2,h3⟩
theorem KT.put {H:Hp} {kvs:List (List Key × V)} {xs:List (List Key × Addr × Value)} (r:KT H kvs xs) (k:List Key) {b:Addr} {y:V} {u:Value} (hb:H b=some (.tup (k.map kV))) (ry:RelV y u) :
  KT H (putK kvs k y) (storedH xs k b u):=by
 have e:(kvs.any fun kv=>decide (kv.1=k))=(atKey xs k).isSome:=by
  rw [valV_any,(r.val k).isSome_eq,Option.isSome_map]
 unfold putK storedH
 rw [e]
 by_cases q:(atKey xs k).isSome=true
 ·rw [if_pos q,if_pos q];exact r.repl k ry
 ·rw [if_neg q,if_neg q];exact Paired.snoc r ⟨rfl,hb,ry⟩
theorem KT.keeps {H H':Hp} {kvs:List (List Key × V)} {xs:List (List Key × Addr × Value)} (r:KT H kvs xs) (ht:∀ b ys,H b=some (.tup ys)→H' b=some (.tup ys)) : KT H' kvs xs :=
 Paired.mapP r fun _ _ z=>⟨z.1,ht _ _ z.2.1,z.2.2⟩
section
variable {P:Program} {w:World} {H:Hp} {h:Heap} {a:Addr}
theorem rd_of {u:HO} (ok:HOk P w H h) (e:Rd H a u) : ObjOk P w H h a u:=e.ok ok
theorem dk_rd {kvs:List (Key × V)} (ok:HOk P w H h) (e:Rd H a (.dK kvs)) : kvs.length≤sizeLine∧(a == sysModules)=false∧∃ vs,KV kvs vs∧h.DictOf (mixKind P w) a vs :=
 show ObjOk P w H h a (.dK kvs) from rd_of ok e
theorem dk_of {kvs:List (Key × V)} (ok:HOk P w H h) (e:H a=some (.dK kvs)) : kvs.length≤sizeLine∧(a == sysModules)=false∧∃ vs,KV kvs vs∧h.DictOf (mixKind P w) a vs:=dk_rd ok (.inl e)
theorem key_of {ks:List Key} (ok:HOk P w H h) (e:H a=some (.tup (ks.map kV))) : (tupleKind (mixKind P w)).is h ks a:=by
 obtain ⟨_,its,r,o,h1,h2,n,h3⟩:=(show ObjOk P w H h a (.tup (ks.map kV)) from ok a _ e)
 exact ⟨o,its.toArray,n,h1,h2,h3,by simpa using items_are r⟩
theorem dt_rd {kvs:List (List Key × V)} (ok:HOk P w H h) (e:Rd H a (.dT kvs)) : kvs.length≤sizeLine∧(a == sysModules)=false ∧
  ∃ xs,KT H kvs xs∧h.DictOfH (tupleKind (mixKind P w)) a xs:=by
 obtain ⟨z,y,xs,r,o,es,ep,h1,h2,h3,h4,h5⟩:=(show ObjOk P w H h a (.dT kvs) from rd_of ok e)
 refine ⟨z,y,xs,r,o,es,ep,h1,h2,h3,h4,fun x hx=>?_,h5⟩
 have all:∀ {l:List (List Key × V)} {m:List (List Key × Addr × Value)},KT H l m→∀ x∈m,(tupleKind (mixKind P w)).is h x.1 x.2.1:=by
  intro l m q
  induction q with
  | nil=>intro x hx;exact nomatch hx
  | @cons p q ps qs hq t ih =>
   intro x hx
   rcases List.mem_cons.mp hx with e | hx
   ·subst e
    exact key_of ok (by rw [←hq.1];exact hq.2.1)
   ·exact ih x hx
 exact all r x hx
theorem dt_of {kvs:List (List Key × V)} (ok:HOk P w H h) (e:H a=some (.dT kvs)) : kvs.length≤sizeLine∧(a == sysModules)=false ∧
  ∃ xs,KT H kvs xs∧h.DictOfH (tupleKind (mixKind P w)) a xs:=dt_rd ok (.inl e)
end
def DGet (H:Hp) (a:Addr) (y:V) (r:Option V) : Prop :=
 (∃ kvs k,Rd H a (.dK kvs)∧y=kV k∧r=valV kvs k)∨∃ kvs k b,Rd H a (.dT kvs)∧y=.ref b∧H b=some (.tup (k.map kV))∧r=valV kvs k
def DPut (H:Hp) (a:Addr) (y v:V) (H':Hp) : Prop :=
 (∃ kvs k,H a=some (.dK kvs)∧y=kV k∧kvs.length < sizeLine∧H'=upd H a (.dK (putK kvs k v))) ∨
 ∃ kvs k b,H a=some (.dT kvs)∧y=.ref b∧H b=some (.tup (k.map kV))∧kvs.length < sizeLine∧H'=upd H a (.dT (putK kvs k v))
theorem DGet.k {H:Hp} {a:Addr} {kvs:List (Key × V)} {k:Key} (e:H a=some (.dK kvs)) : DGet H a (kV k) (valV kvs k):=.inl ⟨kvs,k,.inl e,rfl,rfl⟩
theorem DGet.t {H:Hp} {a b:Addr} {kvs:List (List Key × V)} {k:List Key} (e:H a=some (.dT kvs)) (eb:H b=some (.tup (k.map kV))) : DGet H a (.ref b) (valV kvs k):=.inr ⟨kvs,k,b,.inl e,rfl,eb,rfl⟩
theorem DPut.k {H:Hp} {a:Addr} {kvs:List (Key × V)} {k:Key} {v:V} (e:H a=some (.dK kvs)) (hl:kvs.length < sizeLine) : DPut H a (kV k) v (upd H a (.dK (putK kvs k v))):=.inl ⟨kvs,k,e,rfl,hl,rfl⟩
theorem DPut.t {H:Hp} {a b:Addr} {kvs:List (List Key × V)} {k:List Key} {v:V} (e:H a=some (.dT kvs)) (eb:H b=some (.tup (k.map kV))) (hl:kvs.length < sizeLine) :
  DPut H a (.ref b) v (upd H a (.dT (putK kvs k v))):=.inr ⟨kvs,k,b,e,rfl,eb,hl,rfl⟩
section
variable {X:Cx} {pins:List (Addr × Obj)} {σ:St} {H:Hp} {s:Shared} {a:Addr} {y v:V} {u r:Value} {o:Option V} {A:Around} {E:Value→Shared→Prop}
theorem Inv.big (I:Inv X pins σ H s) : sysModules < s.heap.objs.size:=by
 have h:mainGlobals < s.heap.objs.size:=(I.mod.glob.keeps I.bk).lt
 exact Nat.lt_trans (by decide) h
theorem d_getItem {Q:Value→Shared→Prop} (hu:A.units+1 < cLine) (I:Inv X pins σ H s) (g:DGet H a y (some v)) (ry:RelV y u) (h:∀ w' s',Inv X pins σ H s'→RelV v w'→Q w' s') :
  wpAny (model X.prog X.w) A (getItem (.ref a) u) Q E s:=by
 rcases g with ⟨kvs,k,e,ey,l⟩ | ⟨kvs,k,b,e,ey,eb,l⟩
 ·subst ey
  obtain ⟨z,hd,vs,rel,dd⟩:=dk_rd I.hok e
  obtain ⟨w',hw,rw'⟩:=RelO.some_of (v:=v) (o:=valueAt vs k) (by rw [l];exact rel.val k)
  exact wpAny_getItem_of (kV_is ry) dd.mapOf hw (h w' _ (I.tok _) rw')
 ·subst ey
  cases (show u=Value.ref b from ry)
  obtain ⟨z,hd,xs,rel,dd⟩:=dt_rd I.hok e
  obtain ⟨w',hw,rw'⟩:=RelO.some_of (v:=v) (o:=(atKey xs k).map (·.2)) (by rw [l];exact rel.val k)
  obtain ⟨p,hp,hp2⟩:=Option.map_eq_some_iff.mp hw
  refine wpAny_getItem_heap (tupleKind_room_in1 hu) (key_of I.hok eb) dd hp ?_
  rw [hp2]
  exact h w' _ (I.tok _) rw'
theorem d_in {Q:Value→Shared→Prop} (hu:A.units+1 < cLine) (I:Inv X pins σ H s) (g:DGet H a y o) (ry:RelV y u) (h:∀ s',Inv X pins σ H s'→Q (.bool o.isSome) s') :
  wpAny (model X.prog X.w) A (compareOp .In u (.ref a)) Q E s:=by
 rcases g with ⟨kvs,k,e,ey,l⟩ | ⟨kvs,k,b,e,ey,eb,l⟩
 ·subst ey
  obtain ⟨z,hd,vs,rel,dd⟩:=dk_rd I.hok e
  refine wpAny_in_of (kV_is ry) hd dd.mapOf ?_
  rw [←(rel.val k).isSome_eq,←l]
  exact h _ (I.tok _)
 ·subst ey
  cases (show u=Value.ref b from ry)
  obtain ⟨z,hd,xs,rel,dd⟩:=dt_rd I.hok e
  refine wpAny_in_heap (tupleKind_room_in1 hu) (key_of I.hok eb) hd dd ?_
  have q:=(rel.val k).isSome_eq
  rw [Option.isSome_map] at q
  rw [←q,←l]
  exact h _ (I.tok _)
theorem d_notIn {Q:Value→Shared→Prop} (hu:A.units+1 < cLine) (I:Inv X pins σ H s) (g:DGet H a y o) (ry:RelV y u) (h:∀ s',Inv X pins σ H s'→Q (.bool (!o.isSome)) s') :
  wpAny (model X.prog X.w) A (compareOp .NotIn u (.ref a)) Q E s:=by
 rcases g with ⟨kvs,k,e,ey,l⟩ | ⟨kvs,k,b,e,ey,eb,l⟩
 ·subst ey
  obtain ⟨z,hd,vs,rel,dd⟩:=dk_rd I.hok e
  refine wpAny_notIn_of (kV_is ry) hd dd.mapOf ?_
  rw [←(rel.val k).isSome_eq,←l]
  exact h _ (I.tok _)
 ·subst ey
  cases (show u=Value.ref b from ry)
  obtain ⟨z,hd,xs,rel,dd⟩:=dt_rd I.hok e
  refine wpAny_notIn_heap (tupleKind_room_in1 hu) (key_of I.hok eb) hd dd ?_
  have q:=(rel.val k).isSome_eq
  rw [Option.isSome_map] at q
  rw [←q,←l]
  exact h _ (I.tok _)
theorem d_write {h':Heap} {t':Nat} {ob:HO} (I:Inv X pins σ H s) (mu:Mut (H a)) (hs:Heap.SameBut a s.heap h') (he:∃ q,h'.get? a=some q) (new:ObjOk X.prog X.w (upd H a ob) h' a ob) :
  Inv X pins σ (upd H a ob) { s with heap:=h',toks:=t' } :=
 I.write (x:=a) (e:=a) mu (.inl rfl) (fun b q hb z=>(hs.2 b hb).trans z) he new
theorem dk_new {P:Program} {w:World} {H':Hp} {h':Heap} {kvs:List (Key × V)} {vs:List (Key × Value)} (z:kvs.length≤sizeLine) (hd:(a == sysModules)=false) (rel:KV kvs vs) (dd:h'.DictOf (mixKind P w) a vs) :
  ObjOk P w H' h' a (.dK kvs):=⟨z,hd,vs,rel,dd⟩
theorem d_setItem {H':Hp} {Q:Unit→Shared→Prop} (hu:A.units+1 < cLine) (I:Inv X pins σ H s) (g:DPut H a y v H') (ry:RelV y u) (rv:RelV v r) (h:∀ s',Inv X pins σ H' s'→Q () s') :
  wpAny (model X.prog X.w) A (setItem (.ref a) u r) Q E s:=by
 rcases g with ⟨kvs,k,e,ey,l,eH⟩ | ⟨kvs,k,b,e,ey,eb,l,eH⟩
 ·subst ey eH
  obtain ⟨z,hd,vs,rel,dd⟩:=dk_of I.hok e
  have hz:vs.length≤sizeLine:=by rw [←rel.length];exact z
  have hl:(putK kvs k v).length≤sizeLine:=by have:=length_putK kvs k v;omega
  refine wpAny_setItem_pairs (hsz:=hz) (kV_is ry) dd fun h' dd' hs=>h _ ?_
  have he:∃ q,h'.get? a=some q:=let ⟨q,_,_,hq,_⟩:=dd';⟨q,hq⟩
  exact d_write I (by rw [e];exact True.intro) hs he (dk_new hl hd (rel.put k rv) dd')
 ·subst ey eH
  cases (show u=Value.ref b from ry)
  obtain ⟨z,hd,xs,rel,dd⟩:=dt_of I.hok e
  have hz:xs.length≤sizeLine:=by rw [←Paired.length rel];exact z
  have hl:(putK kvs k v).length≤sizeLine:=by have:=length_putK kvs k v;omega
  refine wpAny_setItem_heap (hsz:=hz) (tupleKind_room_in1 hu) (key_of I.hok eb) dd fun h' dd' hs=>h _ ?_
  obtain ⟨q,es,ep,hq,h2,h3,h4,_,h5⟩:=dd'
  refine d_write I (by rw [e];exact True.intro) hs ⟨q,hq⟩ ⟨hl,hd,_,(rel.put k eb rv).keeps fun c ys ec=>?_,q,es,ep,hq,h2,h3,h4,h5⟩
  rw [upd_ne (ne_of ec e (fun z=>nomatch z))]
  exact ec
end
section
variable {X:Cx} {pins:List (Addr × Obj)} {σ:St} {H:Hp} {s:Shared} {a:Addr} {kvs:List (Key × V)} {k:Key} {u:Value} {A:Around} {E:Value→Shared→Prop}
theorem d_pop {v:V} {more:List Value} {Q:Value→Shared→Prop} (I:Inv X pins σ H s) (e:H a=some (.dK kvs)) (ry:RelV (kV k) u) (l:valV kvs k=some v) (hm:more=[]∨∃ x,more=[x])
  (h:∀ w' s',Inv X pins σ (upd H a (.dK (dropK kvs k))) s'→RelV v w'→Q w' s') : wpAny (model X.prog X.w) A (call (.builtin "dict.pop") (.ref a :: u :: more)) Q E s:=by
 obtain ⟨z,hd,vs,rel,dd⟩:=dk_of I.hok e
 obtain ⟨w',hw,rw'⟩:=RelO.some_of (v:=v) (o:=valueAt vs k) (by rw [←l];exact rel.val k)
 have hp:(keyPart u).isSome=true:=by
  cases k with
  | inl i=>obtain ⟨t,q⟩:=(show ∃ t,u=Value.int i t from ry);subst q;rfl
  | inr x=>obtain ⟨t,q⟩:=(show ∃ t,u=Value.str x t from ry);subst q;rfl
 have ha:argsOk "dict.pop" ⟨.ref a :: u :: more,[]⟩:=by
  rcases hm with q | ⟨x,q⟩
  ·subst q;exact PySem.F.args_dict_pop_2 _ _
  ·subst q;exact PySem.F.args_dict_pop_3 _ _ _
 refine call_meetsIn PySem.F.slot_dict_pop dd.typeIs PySem.F.entry_dict_pop ha (meets_dict_pop_there (mixKind X.prog X.w) a (kV_is ry) more hm hp)
  ⟨vs,w',dd,by rw [←rel.length];exact z,hw,fun h' dd' hs=>h w' _ ?_ rw'⟩
 have he:∃ q,h'.get? a=some q:=let ⟨q,_,_,hq,_⟩:=dd';⟨q,hq⟩
 exact d_write I (by rw [e];exact True.intro) hs he (dk_new (Nat.le_trans (dropK_le kvs k) z) hd (rel.drop k) dd')
end
def NoSl (i:Expr) : Prop:=∀ ov iv,subscripted i false ov iv=operate [ov,iv] (getItem ov iv)
theorem subD_of {prog:Program} {w:World} {A:Around} {E:Value→Shared→Prop} {s:Shared} {env:Env} {value slice:Expr} {pos:Pos} {T id:String} {Q:Value→Shared→Prop}
  (hl:typeLookup (.type T) "__getitem__" = pure (some (.builtin id))) (hs:NoSl slice)
  (h:wpAny (model prog w) A (eval value env) (fun o s₁=>wpAny (model prog w) A (eval slice env) (fun i s₂=>s₂.TypeIs o T∧wpAny (model prog w) A (getItem o i) Q E s₂) E s₁) E s) :
  wpAny (model prog w) A (eval (.Subscript value slice pos) env) Q E s:=by
 refine Subscript_ (wpAny_mono h (fun o s₁ h₁=>wpAny_mono h₁ (fun i s₂ h₂=>?_) fun _ _ x=>x) fun _ _ x=>x)
 obtain ⟨hT,h₂⟩:=h₂
 unfold subscriptTail
 refine wpAny_bind ?_
 rw [getitemInPython_of_ne hT.not_modules]
 refine wpAny_bind (wpAny_specialOf hT hl ?_)
 have fin:wpAny (model prog w) A (subscripted slice false o i) (fun r s₃=>wpAny (model prog w) A (letTemporaryGo value o r >>= fun _=>pure r) Q E s₃) E s₂:=by
  rw [hs o i]
  exact wpAny_operating (wpAny_mono h₂ (fun r s₃ h₃=>wpAny_bind (wpAny_letTemporaryGo (wpAny_pure h₃))) fun _ _ x=>x)
 first
  | exact wpAny_pure (wpAny_bind fin)
  | exact wpAny_bind (wpAny_pure (wpAny_bind fin))
  | exact wpAny_bind fin
theorem dict_typeIs {X:Cx} {pins:List (Addr × Obj)} {σ:St} {H:Hp} {s:Shared} {a:Addr} {y:V} {o:Option V} (I:Inv X pins σ H s) (g:DGet H a y o) : s.TypeIs (.ref a) "dict":=by
 rcases g with ⟨kvs,k,e,_,_⟩ | ⟨kvs,k,b,e,_,_,_⟩
 ·obtain ⟨_,_,vs,_,dd⟩:=dk_rd I.hok e
  exact dd.typeIs
 ·obtain ⟨_,_,xs,_,dd⟩:=dt_rd I.hok e
  exact dd.typeIs
def tDGet (td ty:TE) : TE:=fun σ H Q=>td σ H fun x H1=>ty σ H1 fun y H2=>∃ a v,x=.ref a∧DGet H2 a y (some v)∧Q v H2
def tDIn (ty td:TE) : TE:=fun σ H Q=>ty σ H fun y H1=>td σ H1 fun x H2=>∃ a o,x=.ref a∧DGet H2 a y o∧Q (.bl o.isSome) H2
def tDNotIn (ty td:TE) : TE:=fun σ H Q=>ty σ H fun y H1=>td σ H1 fun x H2=>∃ a o,x=.ref a∧DGet H2 a y o∧Q (.bl (!o.isSome)) H2
def sDPut (td ty tv:TE) : TS:=fun D σ H=>tv σ H fun v H1=>td σ H1 fun x H2=>ty σ H2 fun y H3=>∃ a H4,x=.ref a∧DPut H3 a y v H4∧D.nx σ H4
section
variable {X:Cx} {o i e value:Expr} {pos pos' tpos:Pos} {td ty tv:TE}
theorem pe_dget (hu:X.A.units+1 < cLine) (ho:PE X o td) (hi:PE X i ty) (hs:NoSl i) : PE X (.Subscript o i pos) (tDGet td ty):=by
 intro pins s σ H Q I h
 refine subD_of PySem.F.slot_dict_getitem.lookup hs (thn (ho pins s σ H _ I h) fun u s1 ⟨x,H1,I1,rx,q1⟩=>thn (hi pins s1 σ H1 _ I1 q1) fun iv s2 ⟨y,H2,I2,ry,z⟩=>?_)
 obtain ⟨a,v,rfl,g,q2⟩:=z
 obtain rfl:u=Value.ref a:=rx
 exact ⟨dict_typeIs I2 g,d_getItem hu I2 g ry fun w' s3 I3 rw'=>⟨v,H2,I3,rw',q2⟩⟩
theorem pc_din (hu:X.A.units+1 < cLine) (hi:PE X i ty) (ho:PE X o td) : PC X .In i o (tDIn ty td):=by
 intro pins s σ H Q I h
 refine thn (hi pins s σ H _ I h) fun iv s1 ⟨y,H1,I1,ry,q1⟩=>thn (ho pins s1 σ H1 _ I1 q1) fun u s2 ⟨x,H2,I2,rx,z⟩=>?_
 obtain ⟨a,ov,rfl,g,q2⟩:=z
 obtain rfl:u=Value.ref a:=rx
 exact d_in hu I2 g ry fun s3 I3=>⟨.bl ov.isSome,H2,I3,rfl,q2⟩
theorem pc_dnotin (hu:X.A.units+1 < cLine) (hi:PE X i ty) (ho:PE X o td) : PC X .NotIn i o (tDNotIn ty td):=by
 intro pins s σ H Q I h
 refine thn (hi pins s σ H _ I h) fun iv s1 ⟨y,H1,I1,ry,q1⟩=>thn (ho pins s1 σ H1 _ I1 q1) fun u s2 ⟨x,H2,I2,rx,z⟩=>?_
 obtain ⟨a,ov,rfl,g,q2⟩:=z
 obtain rfl:u=Value.ref a:=rx
 exact d_notIn hu I2 g ry fun s3 I3=>⟨.bl (!ov.isSome),H2,I3,rfl,q2⟩
theorem ps_dput (hu:X.A.units+1 < cLine) (ho:PE X o td) (hi:PE X i ty) (hv:PE X value tv) (hs:swapsWith value (some (.Subscript o i pos')) pos.line X.env=pure false) :
  PS X (.Assign [.Subscript o i pos'] value pos) (sDPut td ty tv):=by
 intro pins s σ H D I h
 refine wpAny_Assign_Subscript (thn (hv pins s σ H _ I h) fun r s1 ⟨v,H1,I1,rv,q1⟩=>thn (ho pins s1 σ H1 _ I1 q1) fun u s2 ⟨x,H2,I2,rx,q2⟩=>thn (hi pins s2 σ H2 _ I2 q2) fun iv s3 ⟨y,H3,I3,ry,z⟩=>?_) hs
 obtain ⟨a,H4,rfl,g,q3⟩:=z
 obtain rfl:u=Value.ref a:=rx
 exact d_setItem hu I3 g ry rv fun s4 I4=>⟨σ,H4,I4,q3⟩
end
theorem dk_empty {P:Program} {w:World} {H:Hp} (h:Heap) (hb:sysModules < h.objs.size) : ObjOk P w H (h.push { cls:=.type "dict",data:=.dict #[] }) h.objs.size (.dK []) :=
 ⟨Nat.zero_le _,beq_eq_false_iff_ne.mpr (Ne.symm (Nat.ne_of_lt hb)),[],.nil,Heap.DictOf.new h⟩
theorem dt_empty {P:Program} {w:World} {H:Hp} (h:Heap) (hb:sysModules < h.objs.size) : ObjOk P w H (h.push { cls:=.type "dict",data:=.dict #[] }) h.objs.size (.dT []) :=
 ⟨Nat.zero_le _,beq_eq_false_iff_ne.mpr (Ne.symm (Nat.ne_of_lt hb)),[],.nil,_,#[],0,Heap.get?_push_size _ rfl,⟨rfl,rfl,rfl⟩,rfl,rfl,List.nodup_nil⟩
def tDNewK :TE:=fun _ H Q=>∀ p,H p=none→Q (.ref p) (upd H p (.dK []))
def tDNewT :TE:=fun _ H Q=>∀ p,H p=none→Q (.ref p) (upd H p (.dT []))
section
variable {X:Cx} {pos:Pos}
theorem pe_dnewK :PE X (.Dict [] [] pos) tDNewK:=fun pins s σ H Q I h =>
 wpAny_Dict_empty ⟨.ref s.heap.objs.size,_,I.laid (a:=s.heap.objs.size) (o:=.dK []) (t':=s.toks) (fun _ _ q=>Heap.get?_push_of_some _ q) (Nat.le_refl _) (dk_empty s.heap I.big),rfl,h _ (I.hok.fresh (Nat.le_refl _))⟩
theorem pe_dnewT :PE X (.Dict [] [] pos) tDNewT:=fun pins s σ H Q I h =>
 wpAny_Dict_empty ⟨.ref s.heap.objs.size,_,I.laid (a:=s.heap.objs.size) (o:=.dT []) (t':=s.toks) (fun _ _ q=>Heap.get?_push_of_some _ q) (Nat.le_refl _) (dt_empty s.heap I.big),rfl,h _ (I.hok.fresh (Nat.le_refl _))⟩
end
def tPairs :List (TE × TE)→St→Hp→(List (V × V)→Hp→Prop)→Prop
 | [],_,H,Q=>Q [] H
 | (tk,tv) :: r,σ,H,Q=>tk σ H fun x H1=>tv σ H1 fun y H2=>tPairs r σ H2 fun ps H3=>Q ((x,y) :: ps) H3
abbrev VV :List (V × V)→List (Value × Value)→Prop:=Paired fun p q=>RelV p.1 q.1∧RelV p.2 q.2
def PPs (X:Cx) (pos:Pos) (keys:List (Option Expr)) (values:List Expr) (trs:List (TE × TE)) : Prop :=
 ∀ (pins:List (Addr × Obj)) (s:Shared) (σ:St) (H:Hp) (Q:List (V × V)→Hp→Prop),Inv X pins σ H s→tPairs trs σ H Q →
  wpAny (model X.prog X.w) X.A (evalPairs (pairTrees keys values X.env pos)) (fun vs s'=>∃ ps H',Inv X pins σ H' s'∧VV ps vs∧Q ps H') X.xe s
theorem pps_nil {X:Cx} {pos:Pos}:PPs X pos [] [] []:=fun pins s σ H Q I h=>pairTrees_nil_walk ⟨[],H,I,.nil,h⟩
theorem pps_cons {X:Cx} {pos:Pos} {k v:Expr} {ks:List (Option Expr)} {vs:List Expr} {tk tv:TE} {trs:List (TE × TE)} (hk:PE X k tk) (hv:PE X v tv) (hr:PPs X pos ks vs trs) :
  PPs X pos (some k :: ks) (v :: vs) ((tk,tv) :: trs):=fun pins s σ H Q I h =>
 pairTrees_cons_walk (thn (hk pins s σ H _ I h) fun u s1 ⟨x,H1,I1,rx,q1⟩=>thn (hv pins s1 σ H1 _ I1 q1) fun w2 s2 ⟨y,H2,I2,ry,q2⟩ =>
  thn (hr pins s2 σ H2 _ I2 q2) fun ws s3 ⟨ps,H3,I3,rel,q3⟩=>⟨(x,y) :: ps,H3,I3,.cons ⟨rx,ry⟩ rel,q3⟩)
def mergeK (kvs more:List (Key × V)) : List (Key × V):=more.foldl (fun acc kv=>putK acc kv.1 kv.2) kvs
theorem KV.merge :∀ {more:List (Key × V)} {rs:List (Key × Value)} {kvs:List (Key × V)} {vs:List (Key × Value)},KV more rs→KV kvs vs→KV (mergeK kvs more) (merged vs rs):=by
 intro more rs kvs vs r
 unfold KV at r
 induction r generalizing kvs vs with
 | nil=>intro q;exact q
 | @cons p q ps qs h t ih =>
  intro r0
  have e:KV (putK kvs p.1 p.2) (stored vs q.1 q.2):=by
   have:=r0.put p.1 h.2
   rw [←h.1];exact this
  exact ih e
theorem length_mergeK :∀ (more kvs:List (Key × V)),(mergeK kvs more).length≤kvs.length+more.length
 | [],kvs=>by show kvs.length≤kvs.length+0;omega
 | p :: r,kvs=>by
  have h1:=length_mergeK r (putK kvs p.1 p.2)
  have h2:=length_putK kvs p.1 p.2
  show (mergeK (putK kvs p.1 p.2) r).length≤_
  rw [List.length_cons];omega
theorem carries_of {P:Program} {w:World}:∀ {kvs:List (Key × V)} {ws:List (Value × Value)},VV (kvs.map fun kv=>(kV kv.1,kv.2)) ws→∃ rs,Carries (mixKind P w) ws rs∧KV kvs rs
 | [],_,r=>by rw [List.map_nil] at r;cases r;exact ⟨[],True.intro,.nil⟩
 | p :: kvs,_,r=>by
  rw [List.map_cons] at r
  cases r with
  | @cons a b as bs h t =>
   obtain ⟨rs,c,q⟩:=carries_of (P:=P) (w:=w) t
   obtain ⟨b1,b2⟩:=b
   exact ⟨(p.1,b2) :: rs,⟨kV_is h.1,rfl,c⟩,.cons ⟨rfl,h.2⟩ q⟩
def tDisp (trs:List (TE × TE)) : TE:=fun σ H Q=>∀ p,H p=none→tPairs trs σ (upd H p (.dK [])) fun ps H2=>H2 p=some (.dK [])∧∃ kvs:List (Key × V),ps=kvs.map (fun kv=>(kV kv.1,kv.2))∧kvs.length≤15∧Q (.ref p) (upd H2 p (.dK (mergeK [] kvs)))
theorem pe_disp {X:Cx} {pos:Pos} {keys:List (Option Expr)} {values:List Expr} {trs:List (TE × TE)} (h:PPs X pos keys values trs) (hall:keys.all (·.isSome)=true) (hl:keys.length=values.length) (h0:keys≠[])
  (h15:keys.length≤15) : PE X (.Dict keys values pos) (tDisp trs):=by
 intro pins s σ H Q I q
 have hn:=I.hok.fresh (Nat.le_refl s.heap.objs.size)
 have I1:=I.laid (a:=s.heap.objs.size) (o:=.dK []) (h':=s.heap.push { cls:=.type "dict",data:=.dict #[] }) (t':=s.toks) (fun _ _ q=>Heap.get?_push_of_some _ q) (Nat.le_refl _) (dk_empty s.heap I.big)
 refine wpAny_Dict_walk (knd:=mixKind X.prog X.w) hall hl h0 h15 (thn (h pins _ σ _ _ I1 (q _ hn)) fun ws s2 ⟨ps,H2,I2,rel,e,kvs,ep,lk,q2⟩=>?_)
 subst ep
 obtain ⟨rs,c,rk⟩:=carries_of (P:=X.prog) (w:=X.w) rel
 obtain ⟨z,hd,vs0,r0,dd⟩:=dk_of I2.hok e
 cases r0
 refine ⟨rs,c,dd,fun h' dd' hs=>⟨.ref s.heap.objs.size,_,?_,rfl,q2⟩⟩
 have hz:(mergeK [] kvs).length≤sizeLine:=by
  have h1:=length_mergeK kvs []
  rw [List.length_nil] at h1
  rw [sizeLine_eq];omega
 have he:∃ q,h'.get? s.heap.objs.size=some q:=let ⟨q,_,_,hq,_⟩:=dd';⟨q,hq⟩
 exact d_write I2 (by rw [e];exact True.intro) hs he (dk_new hz hd (rk.merge .nil) dd')
structure M1 (X:Cx) (o:Expr) (m:Str) (apos:Pos) (e:Expr) (cpos:Pos) : Prop where
 base:attributeBase o m X.env (eval o X.env)=eval o X.env
 few:((backTo cpos (starEach [e] X.env)).all (fun x=>!x.1) && (backToKw cpos (keywordEach [] X.env)).all (fun x=>x.1.isSome)
  && decide (([e] : List Expr).length+([] : List Keyword).length+(if ([] : List Keyword).isEmpty then 0 else 1) < 30))=true
 line:(apos.endLine == cpos.line)=true
 trees:backTo cpos (starEach [e] X.env)=[(false,eval e X.env)]
structure M2 (X:Cx) (o:Expr) (m:Str) (apos:Pos) (e f:Expr) (cpos:Pos) : Prop where
 base:attributeBase o m X.env (eval o X.env)=eval o X.env
 few:((backTo cpos (starEach [e,f] X.env)).all (fun x=>!x.1) && (backToKw cpos (keywordEach [] X.env)).all (fun x=>x.1.isSome)
  && decide (([e,f] : List Expr).length+([] : List Keyword).length+(if ([] : List Keyword).isEmpty then 0 else 1) < 30))=true
 line:(apos.endLine == cpos.line)=true
 trees:backTo cpos (starEach [e,f] X.env)=[(false,eval e X.env),(false,eval f X.env)]
def IsD (H:Hp) (a:Addr) : Prop:=(∃ kvs,Rd H a (.dK kvs))∨∃ kvs,Rd H a (.dT kvs)
theorem isD_at {X:Cx} {pins:List (Addr × Obj)} {σ:St} {H:Hp} {s:Shared} {a:Addr} (I:Inv X pins σ H s) (d:IsD H a) :
  s.TypeIs (.ref a) "dict"∧(∀ b,Value.ref a=.ref b→∃ ob,s.heap.get? b=some ob∧ob.dict=none)∧(a == sysModules)=false:=by
 rcases d with ⟨kvs,e⟩ | ⟨kvs,e⟩
 ·obtain ⟨_,hd,vs,_,dd⟩:=dk_rd I.hok e
  refine ⟨dd.typeIs,fun b q=>?_,hd⟩
  cases q
  obtain ⟨ob,_,_,h1,h2,_⟩:=dd
  exact ⟨ob,h1,h2.2.1⟩
 ·obtain ⟨_,hd,xs,_,dd⟩:=dt_rd I.hok e
  refine ⟨dd.typeIs,fun b q=>?_,hd⟩
  cases q
  obtain ⟨ob,_,_,h1,h2,_⟩:=dd
  exact ⟨ob,h1,h2.2.1⟩
section
variable {X:Cx} {pins:List (Addr × Obj)} {σ:St} {H:Hp} {s:Shared} {a:Addr} {y d:V} {u r:Value} {o:Option V} {A:Around} {E:Value→Shared→Prop}
end
def tDPop1 (td ty:TE) : TE:=fun σ H Q=>td σ H fun x H1=>∃ a,x=.ref a∧IsD H1 a∧ty σ H1 fun y H2=>∃ kvs k v,H2 a=some (.dK kvs)∧y=kV k∧valV kvs k=some v∧Q v (upd H2 a (.dK (dropK kvs k)))
section
variable {X:Cx} {o e f:Expr} {apos cpos:Pos} {td ty tx:TE}
theorem pe_dpop1 (ho:PE X o td) (he:PE X e ty) (m:M1 X o "pop" apos e cpos) : PE X (.Call (.Attribute o "pop" apos) [e] [] cpos) (tDPop1 td ty):=by
 intro pins s σ H Q I h
 refine wpAny_Call_method m.base m.few m.line PySem.F.plainAttrs_dict PySem.F.slot_dict_pop PySem.F.type_dict_pop (thn (ho pins s σ H _ I h) fun u s1 ⟨x,H1,I1,rx,z⟩=>?_)
 obtain ⟨a,rfl,d,q1⟩:=z
 obtain rfl:u=Value.ref a:=rx
 obtain ⟨t1,t2,_⟩:=isD_at I1 d
 refine ⟨t1,t2,?_⟩
 rw [m.trees]
 refine Calls.callWith_builtin rfl (Calls.evalArgs_plain (Calls.spliced_cons (thn (he pins s1 σ H1 _ I1 q1) fun iv s2 ⟨y,H2,I2,ry,z⟩=>Calls.spliced_nil ?_)))
 obtain ⟨kvs,k,v,ea,rfl,l,q2⟩:=z
 exact d_pop I2 ea ry l (.inl rfl) fun w' s3 I3 rw'=>⟨v,_,I3,rw',q2⟩
end
section
variable {X:Cx} {pins:List (Addr × Obj)} {σ:St} {H:Hp} {s:Shared} {a:Addr} {kvs:List (Key × V)} {A:Around} {E:Value→Shared→Prop}
end
section
variable {X:Cx} {pins:List (Addr × Obj)} {σ:St} {H:Hp} {s:Shared} {a:Addr} {y:V} {u:Value} {A:Around} {E:Value→Shared→Prop}
end
end L2
namespace L2
open PySem PySem.Spec PyProof.Rows
section
variable {prog:Program} {w:World} {A:Around} {E:Value→Shared→Prop}
end
section
variable {X:Cx}
end
end L2
namespace L2
open PySem PySem.Spec PyProof.Rows
theorem boot_reversed5 :bootBuiltins "reversed" = some (.type "reversed"):=by decide +kernel
section
variable {X:Cx} {pins:List (Addr × Obj)} {σ:St} {H:Hp} {s:Shared} {h':Heap}
theorem Inv.turnedL {t':Nat} {ch:List Addr} (I:Inv X pins σ H s) (k:∀ b o,b∉ch→s.heap.get? b=some o→h'.get? b=some o) (hf:∀ b∈ch,FpOk X pins H b) : Inv X pins σ H { s with heap:=h',toks:=t' }:=by
 have nit:∀ b u,H b=some u→b∉ch:=fun b u e z=>by
  have q:=(hf b z).1
  rw [q] at e;cases e
 refine I.step (g':=s.gens) (d':=s.drawn) (ch:=ch) (fun b hb=>⟨(hf b hb).2.2.2.1,(hf b hb).2.1,(hf b hb).2.2.2.2.1,(hf b hb).2.2.2.2.2⟩) (fun b o _ _ hc e _=>k b o hc e) (fun b o _ _ hc e _=>⟨o.slots,k b o hc e⟩)
  (fun _ _ _ _ n=>n) (fun b o hc e=>⟨o,k b o hc e⟩) (fun _ _ e=>e) (fun _ _ _ e=>e) (fun b ps e=>⟨#[],by rw [e];simp⟩) (fun m hm=>?_) (fun b u e=>?_) I.bare
 ·obtain ⟨o,es,ep,ho,r⟩:=hm
  exact ⟨o,es,ep,k _ o (fun z=>(hf _ z).2.1 rfl) ho,r⟩
 ·refine (I.hok b u e).stay (fun c v hc q=>k c v ?_ q) (fun _ q=>q) fun _ _ q=>q
  rcases hc with z | z
  ·rw [z];exact nit b u e
  ·exact nit c _ z
theorem Inv.turnedNew {t':Nat} {ch:List Addr} {T:Addr} {ob:HO} (I:Inv X pins σ H s) (k:∀ b o,b∉ch→s.heap.get? b=some o→h'.get? b=some o) (hf:∀ b∈ch,FpOk X pins H b) (hT:s.heap.objs.size≤T)
  (new:ObjOk X.prog X.w (upd H T ob) h' T ob) : Inv X pins σ (upd H T ob) { s with heap:=h',toks:=t' }:=by
 have hn:H T=none:=I.hok.fresh hT
 have nit:∀ b u,H b=some u→b∉ch:=fun b u e z=>by
  have q:=(hf b z).1
  rw [q] at e;cases e
 refine I.step (g':=s.gens) (d':=s.drawn) (ch:=ch) (fun b hb=>⟨(hf b hb).2.2.2.1,(hf b hb).2.1,(hf b hb).2.2.2.2.1,(hf b hb).2.2.2.2.2⟩) (fun b o _ _ hc e _=>k b o hc e) (fun b o _ _ hc e _=>⟨o.slots,k b o hc e⟩)
  (fun b o _ e n=>?_) (fun b o hc e=>⟨o,k b o hc e⟩) (fun b xs e=>?_) (fun b o u e=>?_) (fun b ps e=>⟨#[],?_⟩) (fun m hm=>?_) (fun b u e=>?_) I.bare
 ·rw [upd_ne (Nat.ne_of_lt (Nat.lt_of_lt_of_le (Heap.lt_size e) hT))];exact n
 ·rw [upd_ne (ne_of_none e hn)];exact e
 ·rw [upd_ne (ne_of_none e hn)];exact e
 ·rw [upd_ne (ne_of_none e hn),e];simp
 ·obtain ⟨o,es,ep,ho,r⟩:=hm
  exact ⟨o,es,ep,k _ o (fun z=>(hf _ z).2.1 rfl) ho,r⟩
 ·by_cases hb:b=T
  ·subst hb
   rw [upd_same] at e
   cases e
   exact new
  ·rw [upd_ne hb] at e
   refine (I.hok b u e).stay (fun c v hc q=>k c v ?_ q) (fun c q=>by rw [upd_ne (ne_of_none q hn)];exact q) fun c xs q=>by rw [upd_ne (ne_of_none q hn)];exact q
   rcases hc with z | z
   ·rw [z];exact nit b u e
   ·exact nit c _ z
theorem Inv.lock {d:Addr} {u:HO} (I:Inv X pins σ H s) (h:H d=some u) (mu:Mut (some u)) : ∃ od,Inv X pins σ (upd H d (.frz od u)) s:=by
 have x:=I.hok d u h
 have ex:∃ od,s.heap.get? d=some od:=by
  cases u with
  | lst xs=>obtain ⟨_,_,_,_,e⟩:=x;exact ⟨_,e⟩
  | dK kvs=>obtain ⟨_,_,_,_,o,_,_,e,_⟩:=x;exact ⟨o,e⟩
  | dT kvs=>obtain ⟨_,_,_,_,o,_,_,e,_⟩:=x;exact ⟨o,e⟩
  | set S n=>obtain ⟨o,_,_,_,e,_⟩:=x;exact ⟨o,e⟩
  | ins C dx fs=>obtain ⟨_,_,_,e,_⟩:=x;exact ⟨_,e⟩
  | ext φ=>obtain ⟨_,⟨_,e⟩,_⟩:=x;exact ⟨_,e⟩
  | _=>exact False.elim mu
 obtain ⟨od,e⟩:=ex
 have new:ObjOk X.prog X.w (upd H d (.frz od u)) s.heap d (.frz od u):=by
  refine ⟨e,x.stay (fun b v _ q=>q) (fun b q=>?_) fun b xs q=>?_⟩
  ·rw [upd_ne (fun z=>by rw [z,h] at q;cases q;exact mu)];exact q
  ·rw [upd_ne (fun z=>by rw [z,h] at q;cases q;exact mu)];exact q
 exact ⟨od,I.write (x:=d) (e:=d) (t':=s.toks) (h':=s.heap) (by rw [h];exact mu) (.inl rfl) (fun b v _ q=>q) ⟨od,e⟩ new⟩
theorem Inv.nofrz {d:Addr} {u:HO} (I:Inv X pins σ H s) (h:H d=some u) (mu:Mut (some u)) : ∀ o' u',X.H_0 d≠some (.frz o' u'):=fun o' u' e=>by
 have q:=I.base.frzs d o' u' e
 rw [h] at q
 cases q
 exact mu
theorem Inv.unlock {d:Addr} {od:Obj} {u:HO} (I:Inv X pins σ H s) (h:H d=some (.frz od u)) (hn:∀ o' u',X.H_0 d≠some (.frz o' u')) : Inv X pins σ (upd H d u) s:=by
 have neH:∀ b o,H b=some o→(∀ o' u',o≠.frz o' u')→b≠d:=fun b o e hne z=>by
  rw [z,h] at e
  cases e
  exact hne _ _ rfl
 have neN:∀ b,H b=none→b≠d:=fun b e z=>by rw [z,h] at e;cases e
 refine ⟨I.ok,I.os,I.bare,⟨I.base.keep,I.base.slot,fun b o e n hx=>?_,I.base.there,fun b xs e=>?_,fun b o x e=>?_,fun b ps e=>?_⟩,I.loc,I.cell,?_,fun x c e=>?_,fun p hp=>?_,fun b o e=>?_,I.len⟩
 ·rw [upd_ne (neN b (I.base.free b o e n hx))];exact I.base.free b o e n hx
 ·have q:=I.base.tups b xs e
  rw [upd_ne (neH b _ q (fun _ _ z=>nomatch z))];exact q
 ·have q:=I.base.frzs b o x e
  rw [upd_ne (fun z=>by rw [z] at e;exact hn _ _ e)];exact q
 ·obtain ⟨m,q⟩:=I.base.tbls b ps e
  exact ⟨m,by rw [upd_ne (neH b _ q (fun _ _ z=>nomatch z))];exact q⟩
 ·rw [upd_ne (neN _ I.free)];exact I.free
 ·rw [upd_ne (neN c (I.freeC x c e))];exact I.freeC x c e
 ·obtain ⟨e,n,r⟩:=I.pin p hp
  exact ⟨e,by rw [upd_ne (neN _ n)];exact n,r⟩
 ·by_cases hb:b=d
  ·rw [hb,upd_same] at e
   cases e
   rw [hb]
   obtain ⟨_,x⟩:=I.hok d _ h
   exact x.stay (fun c v _ q=>q) (fun c q=>by rw [upd_ne (neH c _ q (fun _ _ z=>nomatch z))];exact q) fun c xs q=>by rw [upd_ne (neH c _ q (fun _ _ z=>nomatch z))];exact q
  ·rw [upd_ne hb] at e
   exact (I.hok b o e).stay (fun c v _ q=>q) (fun c q=>by rw [upd_ne (neH c _ q (fun _ _ z=>nomatch z))];exact q) fun c xs q=>by rw [upd_ne (neH c _ q (fun _ _ z=>nomatch z))];exact q
end
def tLock (t:TS) : TS:=fun D σ H=>∃ d u,H d=some u∧Mut (some u)∧∀ od,t ⟨fun σ' H'=>H' d=some (.frz od u)∧D.nx σ' (upd H' d u),fun v H'=>H' d=some (.frz od u)∧D.rt v (upd H' d u),fun σ' H'=>H' d=some (.frz od u)∧D.bk σ' (upd H' d u),fun σ' H'=>H' d=some (.frz od u)∧D.ct σ' (upd H' d u)⟩ σ (upd H d (.frz od u))
def tLockE (t:TE) : TE:=fun σ H Q=>∃ d u,H d=some u∧Mut (some u)∧∀ od,t σ (upd H d (.frz od u)) fun v H'=>H' d=some (.frz od u)∧Q v (upd H' d u)
section
variable {X:Cx}
theorem ps_lock {st:Stmt} {t:TS} (h:PS X st t) : PS X st (tLock t):=by
 intro pins s σ H D I hw
 obtain ⟨d,u,hd,mu,hw⟩:=hw
 obtain ⟨od,I1⟩:=I.lock hd mu
 refine thn (h pins s σ _ _ I1 (hw od)) fun f s1 q=>?_
 cases f with
 | next=>obtain ⟨σ',H',I2,e,q⟩:=q;exact ⟨σ',_,I2.unlock e (I.nofrz hd mu),q⟩
 | brk=>obtain ⟨σ',H',I2,e,q⟩:=q;exact ⟨σ',_,I2.unlock e (I.nofrz hd mu),q⟩
 | cont=>obtain ⟨σ',H',I2,e,q⟩:=q;exact ⟨σ',_,I2.unlock e (I.nofrz hd mu),q⟩
 | ret v=>obtain ⟨x,σ',H',I2,r,e,q⟩:=q;exact ⟨x,σ',_,I2.unlock e (I.nofrz hd mu),r,q⟩
theorem pe_lock {e:Expr} {t:TE} (h:PE X e t) : PE X e (tLockE t):=by
 intro pins s σ H Q I hw
 obtain ⟨d,u,hd,mu,hw⟩:=hw
 obtain ⟨od,I1⟩:=I.lock hd mu
 refine thn (h pins s σ _ _ I1 (hw od)) fun v s1 ⟨x,H1,I2,r,e2,q⟩=>?_
 exact ⟨x,_,I2.unlock e2 (I.nofrz hd mu),r,q⟩
theorem pi_one {tg:Expr} {pins:List (Addr × Obj)} {σ:St} {H:Hp} {s:Shared} {R:It→Hp→Prop} {J:It} {tn:Nat→Heap→Prop} {tk:Nat} (I:Inv X pins σ H s) (o:Obj)
  (T:Turn X.prog X.w X.K tg J [s.heap.objs.size] s.heap.objs.size tn) (st:tn 0 (s.heap.push o)) (q:R J H) : PIE X pins σ tg R (.ref s.heap.objs.size) { s with heap:=s.heap.push o,toks:=tk }:=by
 refine ⟨s.heap.objs.size,[s.heap.objs.size],tn,J,H,rfl,I.kept fun b ob e=>Heap.get?_push_of_some _ e,T,st,fun b hb=>?_,q⟩
 have e:b=s.heap.objs.size:=by simpa using hb
 subst e
 exact I.fpOk (Nat.le_refl _) (I.hok.fresh (Nat.le_refl _))
end
def Itc (lo c:Int) (n:Nat) : It:=⟨fun i _=>i < n,fun i H x H'=>H'=H∧x=.int (lo+(i:Nat)*c),fun i _=>n≤i⟩
theorem turn_rangeC {P:Program} {w:World} {K:PySem.W.Frag} {tg:Expr} (it:Addr) (lo c:Int) (n:Nat) : Turn P w K tg (Itc lo c n) [it] it (fun i h=>IsRangeIter h it (lo+(i:Nat)*c) ((n:Int) - (i:Nat)) c) where
 mem:=by simp
 obj:=fun i h st b hb=>by
  have e:b=it:=by simpa using hb
  subst e
  exact ⟨_,st,fun v z=>nomatch z⟩
 keep:=fun i h h' st k=>k it (by simp) _ st
 item:=by
  intro X hP hw hK hc i pins s σ H E I hf st hg
  subst hP hw hK
  obtain ⟨f0,f1,f2,f3,f4,f5⟩:=hf it (by simp)
  have W:=Walks.range (prog:=X.prog) (w:=X.w) (I.ok.hd hc) it lo c n
  refine W.item i s _ _ hg st fun v h' tk hv st' kk=>?_
  obtain ⟨t,rfl⟩:=hv
  have I1:Inv X pins σ H { s with heap:=h',toks:=tk }:=I.turned (fun b o hb e=>kk b o (by simpa using hb) e) f0 f1 f3 f4 f5
  exact ⟨_,rfl,go_of (s:={ s with heap:=h',toks:=tk }) (n:="range_iterator") st' rfl rfl (by decide) ⟨.int (lo+(i:Nat)*c),H,I1,⟨t,rfl⟩,⟨rfl,rfl⟩,st',fun b hb=>(hf b hb).1⟩⟩
 done:=by
  intro X hP hw hK hc i pins s σ H E I hf st hg
  subst hP hw hK
  obtain ⟨f0,f1,f2,f3,f4,f5⟩:=hf it (by simp)
  exact wpAny_pyNext_range_end (I.ok.hd hc) st (by have:n≤i:=hg;omega) fun h' eb=>⟨rfl,I.turned (t':=s.toks) (fun b o hb e=>eb b o hb e) f0 f1 f3 f4 f5⟩
 self:=fun A i s Q E st h=>wpAny_pyIter_rangeiter st h
def RgC (i j c:Int) (n:Nat) : Prop:=c≠0∧c.natAbs < 1073741824∧Builtin.Range.small i j c=true∧Builtin.Range.rangeSize i j c=n
theorem RgC.neg {i j:Int} (ha : -(2 ^ 62)≤i) (ha':i < 2 ^ 62) (hb : -(2 ^ 62)≤j) (hb':j < 2 ^ 62) : RgC i j (-1) (i - j).toNat :=
 ⟨by decide,by decide,PySem.W.small_down ha ha' hb hb',PySem.W.rangeSize_downNat i j⟩
def iRng3 (ta:TA) : TI:=fun σ H R=>ta σ H fun vs H1=>∃ (i j c:Int) (n:Nat),vs=[.int i,.int j,.int c]∧RgC i j c n∧R (Itc i c n) H1
section
variable {X:Cx} {tg:Expr}
theorem pi_range3 {a b c:Expr} {ta:TA} {p pos:Pos} (hg:Gl X "range") (hm:X.mg "range" = none) (ha:PA X [a,b,c] ta)
  (hs:starEach [a,b,c] X.env=(false,eval a X.env) :: starEach [b,c] X.env:=by rfl) (hpl:(backTo pos (starEach [b,c] X.env)).any (·.1)=false:=by rfl) :
  PI X tg (.Call (.Name "range" p) [a,b,c] [] pos) (iRng3 ta):=by
 intro pins s σ H R I h
 refine Call_ (ld_blt I hg hm boot_range (PyProof.Rows.callWith_type1 (thn (ha pos pins s σ H _ I h) fun us s1 ⟨vs,H1,I1,r1,q1⟩=>?_) hs hpl))
 obtain ⟨i,j,k,n,e,⟨c0,c1,c2,c3⟩,q⟩:=q1
 subst e
 cases r1 with
 | cons r rr =>
  cases rr with
  | cons r' rr =>
   cases rr with
   | cons r'' rr =>
    cases rr
    obtain ⟨t,rfl⟩:=r
    obtain ⟨t',rfl⟩:=r'
    obtain ⟨t'',rfl⟩:=r''
    refine call_range_3 c0 ?_ (.inl (PyProof.noPylong_small c1))
    refine wpAny_pyIter_range (IsRange.new ..) c2 ?_
    have I2:Inv X pins σ H1 { s1 with heap:=s1.heap.push { cls:=.type "range",data:=.fields #[.int i t,.int j t',.int k t''] } }:=I1.kept (t':=s1.toks) fun b o e=>Heap.get?_push_of_some _ e
    refine pi_one (tk:=s1.toks) I2 _ (turn_rangeC _ i k n) ?_ q
    have e1:i+((0:Nat) : Int)*k=i:=by simp
    have e2:(n:Int) - ((0:Nat) : Int)=Builtin.Range.rangeSize i j k:=by rw [c3];simp
    show IsRangeIter _ _ (i+((0:Nat) : Int)*k) ((n:Int) - ((0:Nat) : Int)) k
    rw [e1,e2]
    exact Heap.get?_push_size _ rfl
end
section
variable {X:Cx} {tg:Expr}
end
section
variable {prog:Program} {w:World} {A:Around} {E:Value→Shared→Prop} {s:Shared}
theorem iter_keys {d:Addr} {o:Obj} {es:Array DictEntry} {ep:Nat} {Q:Value→Shared→Prop} (hd:(d == sysModules)=false) (ho:s.heap.get? d=some o) (hc:o.ExactDict) (hdat:o.data=.dict es ep)
  (hQ:Q (.ref s.heap.objs.size) { s with heap:=s.heap.push { cls:=.type "dict_keyiterator",data:=.fields #[.ref d,.int 0 0,.int es.size 0,.int ep 0] } }) :
  wpAny (model prog w) A (pyIter (.ref d)) Q E s:=by
 have hT:s.TypeIs (.ref d) "dict":=⟨o,ho,hc.1⟩
 refine wpAny_pyIter_slot hT F.slot_dict_iter (wpAny_call_entry F.slot_dict_iter hT F.entry_dict_iter ?_ (F.args_dict_iter_1 _))
 unfold Builtin.«dict.__iter__»
 refine wpAny_bind ?_
 unfold Builtin.Dict.dictSlotNone
 refine wpAny_bind (wpAny_notOrdered_dict hT ?_)
 show wpAny _ _ (pure (Value.ref d)) _ _ s
 refine wpAny_pure ?_
 show wpAny _ _ (Builtin.Dict.showsAll d >>= _) _ _ s
 unfold Builtin.Dict.showsAll
 rw [if_neg (by rw [hd];exact Bool.false_ne_true)]
 refine wpAny_bind (wpAny_pure ?_)
 refine wpAny_bind (wpAny_dictEntries ho hdat ?_)
 refine wpAny_bind (wpAny_dictEpoch ho hdat ?_)
 refine wpAny_bind (wpAny_newObj_type (wpAny_pure ⟨_,rfl,"dict_keyiterator",_,⟨_,Heap.get?_push_size _ rfl,rfl⟩,F.slot_dict_keyiterator_next.lookup,?_⟩))
 simpa [rawInt] using hQ
theorem next_key_item {it d:Addr} {i n ep:Nat} {od:Obj} {es:Array DictEntry} {en:DictEntry} {Q:Option Value→Shared→Prop} (hit:s.heap.IsKeyIter it d i n ep) (hod:s.heap.get? d=some od) (hdd:od.data=.dict es ep)
  (hsz:es.size=n) (hx:es[i]? = some en) (hQ:∀ h',h'.IsKeyIter it d (i+1) n ep→Heap.SameBut it s.heap h'→Q (some en.key) { s with heap:=h' }) : wpAny (model prog w) A (pyNext (.ref it)) Q E s:=by
 obtain ⟨o,ho,hc,hd⟩:=id hit
 unfold pyNext
 refine wpAny_bind (wpAny_attempt (wpAny_callSpecial?_slot (name:=Str.ofString "__next__") hit.typeIs F.slot_dict_keyiterator_next
  (wpAny_call_entry F.slot_dict_keyiterator_next hit.typeIs F.entry_dict_keyiterator_next ?_ (F.args_dict_keyiterator_next_1 _))))
 refine wpAny_bind (wpAny_pure ?_)
 refine wpAny_bind ?_
 refine wpAny_bind ?_
 first | refine wpAny_bind (wpAny_typeNameOfWhole_keyiter hit.typeIs (wpAny_pure ?_)) | refine wpAny_bind (wpAny_typeNameOf_keyiter hit.typeIs (wpAny_pure ?_))
 refine wpAny_bind (wpAny_fieldsOf ho hd ?_)
 have hown:Builtin.Dict_items.ownsTuple "dict_keyiterator" = false:=by decide
 simp only [hown,Bool.false_eq_true,if_false]
 show wpAny _ _ (if (Value.ref d == Value.none)=true then _ else _) _ _ s
 rw [if_neg (show ¬ ((Value.ref d == Value.none)=true) from Bool.false_ne_true)]
 refine wpAny_bind (wpAny_pure ?_)
 refine wpAny_bind (wpAny_dictEntries hod hdd ?_)
 rw [if_neg (by rw [hsz];simp)]
 refine wpAny_bind (wpAny_pure ?_)
 refine wpAny_bind (wpAny_dictEpoch hod hdd ?_)
 rw [if_neg (by simp)]
 refine wpAny_pure ?_
 obtain ⟨hlt',hen⟩:=Array.getElem?_eq_some_iff.mp hx
 simp only [show ¬ ((i:Int) < 0) from by omega,if_false,Int.toNat_natCast,Array.getElem?_eq_getElem hlt']
 refine wpAny_bind ?_
 first | refine wpAny_bind (wpAny_typeNameOfWhole_keyiter hit.typeIs (wpAny_pure ?_)) | refine wpAny_bind (wpAny_typeNameOf_keyiter hit.typeIs (wpAny_pure ?_))
 refine wpAny_bind (wpAny_isOneOf_keyiter hit.typeIs ?_)
 show wpAny _ _ (setField (.ref it) 1 (rawInt ((i:Int)+1)) >>= _) _ _ s
 refine wpAny_bind (wpAny_setField ho hd (by simp) ?_)
 have hit':(s.heap.update it (Obj.mapFields (·.setIfInBounds 1 (rawInt ((i:Int)+1))))).IsKeyIter it d (i+1) n ep :=
  ⟨_,Heap.get?_update_self _ ho (Obj.isFreed_of_fields (Obj.data_mapFields hd _)),(Obj.cls_mapFields ..).trans hc,by rw [Obj.data_mapFields hd];simp [rawInt]⟩
 refine wpAny_bind (wpAny_holding ?_)
 refine wpAny_bind (wpAny_isOneOf_keyiter (s:={ s with heap:=s.heap.update it (Obj.mapFields (·.setIfInBounds 1 (rawInt ((i:Int)+1)))) }) hit'.typeIs ?_)
 show wpAny _ _ (pure es[i].key) _ _ _
 rw [hen]
 exact wpAny_pure (wpAny_pure ⟨_,rfl,wpAny_pure (hQ _ hit' (Heap.SameBut.update ..))⟩)
theorem next_key_end {it d:Addr} {i n ep:Nat} {od:Obj} {es:Array DictEntry} {Q:Option Value→Shared→Prop} (hh:A.handled=none) (hit:s.heap.IsKeyIter it d i n ep) (hod:s.heap.get? d=some od) (hdd:od.data=.dict es ep)
  (hsz:es.size=n) (hge:n≤i) (hQ:∀ h',Heap.ExtBut it s.heap h'→Q none { s with heap:=h' }) : wpAny (model prog w) A (pyNext (.ref it)) Q E s:=by
 obtain ⟨o,ho,hc,hd⟩:=id hit
 unfold pyNext
 refine wpAny_bind (wpAny_attempt (wpAny_callSpecial?_slot (name:=Str.ofString "__next__") hit.typeIs F.slot_dict_keyiterator_next
  (wpAny_call_entry F.slot_dict_keyiterator_next hit.typeIs F.entry_dict_keyiterator_next ?_ (F.args_dict_keyiterator_next_1 _))))
 refine wpAny_bind (wpAny_pure ?_)
 refine wpAny_bind ?_
 refine wpAny_bind ?_
 first | refine wpAny_bind (wpAny_typeNameOfWhole_keyiter hit.typeIs (wpAny_pure ?_)) | refine wpAny_bind (wpAny_typeNameOf_keyiter hit.typeIs (wpAny_pure ?_))
 refine wpAny_bind (wpAny_fieldsOf ho hd ?_)
 have hown:Builtin.Dict_items.ownsTuple "dict_keyiterator" = false:=by decide
 simp only [hown,Bool.false_eq_true,if_false]
 show wpAny _ _ (if (Value.ref d == Value.none)=true then _ else _) _ _ s
 rw [if_neg (show ¬ ((Value.ref d == Value.none)=true) from Bool.false_ne_true)]
 refine wpAny_bind (wpAny_pure ?_)
 refine wpAny_bind (wpAny_dictEntries hod hdd ?_)
 rw [if_neg (by rw [hsz];simp)]
 refine wpAny_bind (wpAny_pure ?_)
 refine wpAny_bind (wpAny_dictEpoch hod hdd ?_)
 rw [if_neg (by simp)]
 refine wpAny_pure ?_
 have hge':es.size≤i:=by rw [hsz];exact hge
 simp only [show ¬ ((i:Int) < 0) from by omega,if_false,Int.toNat_natCast,Array.getElem?_eq_none hge']
 refine wpAny_bind ?_
 first | refine wpAny_bind (wpAny_typeNameOfWhole_keyiter hit.typeIs (wpAny_pure ?_)) | refine wpAny_bind (wpAny_typeNameOf_keyiter hit.typeIs (wpAny_pure ?_))
 show wpAny _ _ (setField (.ref it) 0 .none >>= _) _ _ s
 refine wpAny_bind (wpAny_setField ho hd (by simp) ?_)
 show wpAny _ _ (newExc (.type "StopIteration") [] >>= _) _ _ _
 refine wpAny_bind ?_
 simp only [newExc,newTuple]
 refine wpAny_bind (wpAny_newObj_type ?_ (by size_fits))
 refine wpAny_bind (m:=firstArgMember _ _) (wpAny_of_eq (a:=Value.none) (by first | rfl | (simp only [firstArgMember];rfl)) ?_)
 refine wpAny_newObj_type ?_ (by size_fits)
 simp only [raiseNew]
 refine wpAny_bind (wpAny_handled ?_)
 rw [show A.in1.handled=none from hh]
 refine wpAny_bind (wpAny_pure (wpAny_throw ?_))
 refine wpAny_bind (wpAny_isInstance (T:="StopIteration") (b:=true) ⟨_,Heap.get?_push_size _ rfl,rfl⟩ isSubtype_stop ?_)
 exact wpAny_pure (hQ _ (((Heap.SameBut.update ..).extBut.push _).push _))
end
theorem kv_get {κ:Type} {kvs:List (κ × V)} {vs:List (κ × Value)} (h:KV kvs vs) : ∀ {i:Nat} {k:κ} {v:V},kvs[i]? = some (k,v)→∃ u,vs[i]? = some (k,u)∧RelV v u:=by
 unfold KV at h
 induction h with
 | nil=>intro i k v e;simp at e
 | @cons a b l₁ l₂ r t ih =>
  intro i k v e
  cases i with
  | zero =>
   simp only [List.getElem?_cons_zero,Option.some.injEq] at e
   subst e
   refine ⟨b.2,?_,r.2⟩
   simp only [List.getElem?_cons_zero]
   exact congrArg some (Prod.ext r.1.symm rfl)
  | succ j =>
   simp only [List.getElem?_cons_succ] at e ⊢
   exact ih e
theorem paired_get {α β:Type} {G:α→β→Prop} {l₁:List α} {l₂:List β} (h:Paired G l₁ l₂) : ∀ {i:Nat} {a:α},l₁[i]? = some a→∃ b,l₂[i]? = some b∧G a b:=by
 induction h with
 | nil=>intro i a e;simp at e
 | @cons a b l₁ l₂ r t ih =>
  intro i a' e
  cases i with
  | zero =>
   simp only [List.getElem?_cons_zero,Option.some.injEq] at e
   subst e
   exact ⟨b,rfl,r⟩
  | succ j =>
   simp only [List.getElem?_cons_succ] at e ⊢
   exact ih e
theorem relV_key {k:Key} {u:Value} (h:keyIs k u=true) : RelV (kV k) u:=by
 rcases keyIs_shape h with ⟨i,t,rfl,rfl⟩ | ⟨x,t,rfl,rfl⟩
 ·exact ⟨t,rfl⟩
 ·exact ⟨t,rfl⟩
section
variable {X:Cx} {pins:List (Addr × Obj)} {σ:St} {H:Hp} {s:Shared} {d:Addr} {o:Obj}
theorem Inv.frzK {kvs:List (Key × V)} (I:Inv X pins σ H s) (h:H d=some (.frz o (.dK kvs))) :
  (d == sysModules)=false∧s.heap.get? d=some o∧o.ExactDict∧∃ (es:Array DictEntry) (ep:Nat) (vs:List (Key × Value)),o.data=.dict es ep∧es.size=kvs.length∧KV kvs vs∧s.heap.DictAt (mixKind X.prog X.w) d vs ep:=by
 obtain ⟨hd,z,hs,vs,kv,o',es,ep,ho,hx,hdt,r⟩:=I.hok d _ h
 rw [hd] at ho
 cases ho
 refine ⟨hs,hd,hx,es,ep,vs,hdt,?_,kv,o,es,hd,hx,hdt,r⟩
 have l1:=r.2.1.length
 have l2:kvs.length=vs.length:=Paired.length kv
 rw [Array.length_toList] at l1
 omega
theorem Inv.frzT {kvs:List (List Key × V)} (I:Inv X pins σ H s) (h:H d=some (.frz o (.dT kvs))) :
  (d == sysModules)=false∧s.heap.get? d=some o∧o.ExactDict∧∃ (es:Array DictEntry) (ep:Nat),o.data=.dict es ep∧es.size=kvs.length ∧
   ∀ (i:Nat) (k:List Key) (v:V),kvs[i]? = some (k,v)→∃ (en:DictEntry) (q:Addr),es[i]? = some en∧en.key=.ref q∧H q=some (.tup (k.map kV)):=by
 obtain ⟨hd,z,hs,xs,pr,o',es,ep,ho,hx,hdt,he,_⟩:=I.hok d _ h
 rw [hd] at ho
 cases ho
 refine ⟨hs,hd,hx,es,ep,hdt,?_,fun i k v e=>?_⟩
 ·have l1:es.size=xs.length:=size_of_entries he
  have l2:kvs.length=xs.length:=Paired.length pr
  omega
 ·obtain ⟨b,hb,e1,e2,_⟩:=paired_get pr e
  have q:=entry_at he i
  rw [hb] at q
  exact ⟨_,b.2.1,q,rfl,e2⟩
end
def Itk (d:Addr) (o:Obj) (kvs:List (Key × V)) : It :=
 ⟨fun i H=>H d=some (.frz o (.dK kvs))∧i < kvs.length,fun i H x H'=>H'=H∧∃ k v,kvs[i]? = some (k,v)∧x=kV k,fun i H=>H d=some (.frz o (.dK kvs))∧kvs.length≤i⟩
def Itkt (d:Addr) (o:Obj) (kvs:List (List Key × V)) : It :=
 ⟨fun i H=>H d=some (.frz o (.dT kvs))∧i < kvs.length,fun i H x H'=>H'=H∧∃ (k:List Key) (v:V) (q:Addr),kvs[i]? = some (k,v)∧x=.ref q∧H q=some (.tup (k.map kV)),fun i H=>H d=some (.frz o (.dT kvs))∧kvs.length≤i⟩
theorem dict_ep {o:Obj} {es es':Array DictEntry} {ep ep':Nat} (h:o.data=.dict es ep) (h':o.data=.dict es' ep') : es'=es∧ep'=ep:=by
 rw [h] at h'
 cases h'
 exact ⟨rfl,rfl⟩
section
variable {P:Program} {w:World} {K:PySem.W.Frag} {tg:Expr} {d:Addr} {o:Obj} {es:Array DictEntry} {ep:Nat}
theorem turn_keys {kvs:List (Key × V)} (it:Addr) (hod:o.data=.dict es ep) : Turn P w K tg (Itk d o kvs) [it] it (fun i h=>h.IsKeyIter it d i kvs.length ep) where
 mem:=by simp
 obj:=fun i h st b hb=>by
  have e:b=it:=by simpa using hb
  subst e
  obtain ⟨oi,e,c,dd⟩:=st
  exact ⟨oi,e,fun v z=>by rw [dd] at z;cases z⟩
 keep:=fun i h h' st k=>st.at fun oi e=>k it (by simp) oi e
 item:=by
  intro X hP hw hK hc i pins s σ H E I hf st hg
  subst hP hw hK
  obtain ⟨hd,hi⟩:=hg
  obtain ⟨f0,f1,f2,f3,f4,f5⟩:=hf it (by simp)
  obtain ⟨hs,hgd,hx,es',ep',vs,hdt,hsz,kv,hm⟩:=I.frzK hd
  obtain ⟨rfl,rfl⟩:=dict_ep hod hdt
  obtain ⟨⟨k,v⟩,hkv⟩ : ∃ p,kvs[i]? = some p:=⟨kvs[i],List.getElem?_eq_getElem hi⟩
  obtain ⟨u,hu,ru⟩:=kv_get kv hkv
  have hl:kvs.length=vs.length:=Paired.length kv
  rw [hl] at st
  refine wpAny_pyNext_dict_item st hm hu fun key h' hkey st' sb=>?_
  have I1:Inv X pins σ H { s with heap:=h' }:=I.turned (t':=s.toks) (fun b ob hb e=>(sb.2 b hb).trans e) f0 f1 f3 f4 f5
  obtain ⟨oi,e,c,dd⟩:=id st'
  refine ⟨key,rfl,go_of (s:={ s with heap:=h' }) e c dd (by decide) ⟨kV k,H,I1,relV_key (show keyIs k key=true from hkey),⟨rfl,k,v,hkv,rfl⟩,?_,fun b hb=>(hf b hb).1⟩⟩
  show h'.IsKeyIter it d (i+1) kvs.length _
  rw [hl]
  exact st'
 done:=by
  intro X hP hw hK hc i pins s σ H E I hf st hg
  subst hP hw hK
  obtain ⟨hd,hi⟩:=hg
  obtain ⟨f0,f1,f2,f3,f4,f5⟩:=hf it (by simp)
  obtain ⟨hs,hgd,hx,es',ep',vs,hdt,hsz,kv,hm⟩:=I.frzK hd
  obtain ⟨rfl,rfl⟩:=dict_ep hod hdt
  exact next_key_end (I.ok.hd hc) st hgd hdt hsz hi fun h' eb=>⟨rfl,I.turned (t':=s.toks) (fun b ob hb e=>eb b ob hb e) f0 f1 f3 f4 f5⟩
 self:=fun A i s Q E st h=>wpAny_pyIter_keyiter st h
theorem turn_keysT {kvs:List (List Key × V)} (it:Addr) (hod:o.data=.dict es ep) : Turn P w K tg (Itkt d o kvs) [it] it (fun i h=>h.IsKeyIter it d i kvs.length ep) where
 mem:=by simp
 obj:=fun i h st b hb=>by
  have e:b=it:=by simpa using hb
  subst e
  obtain ⟨oi,e,c,dd⟩:=st
  exact ⟨oi,e,fun v z=>by rw [dd] at z;cases z⟩
 keep:=fun i h h' st k=>st.at fun oi e=>k it (by simp) oi e
 item:=by
  intro X hP hw hK hc i pins s σ H E I hf st hg
  subst hP hw hK
  obtain ⟨hd,hi⟩:=hg
  obtain ⟨f0,f1,f2,f3,f4,f5⟩:=hf it (by simp)
  obtain ⟨hs,hgd,hx,es',ep',hdt,hsz,ent⟩:=I.frzT hd
  obtain ⟨rfl,rfl⟩:=dict_ep hod hdt
  obtain ⟨⟨k,v⟩,hkv⟩ : ∃ p,kvs[i]? = some p:=⟨kvs[i],List.getElem?_eq_getElem hi⟩
  obtain ⟨en,q,hen,hkey,hq⟩:=ent i k v hkv
  refine next_key_item st hgd hdt hsz hen fun h' st' sb=>?_
  have I1:Inv X pins σ H { s with heap:=h' }:=I.turned (t':=s.toks) (fun b ob hb e=>(sb.2 b hb).trans e) f0 f1 f3 f4 f5
  obtain ⟨oi,e,c,dd⟩:=id st'
  exact ⟨en.key,rfl,go_of (s:={ s with heap:=h' }) e c dd (by decide) ⟨.ref q,H,I1,hkey,⟨rfl,k,v,q,hkv,rfl,hq⟩,st',fun b hb=>(hf b hb).1⟩⟩
 done:=by
  intro X hP hw hK hc i pins s σ H E I hf st hg
  subst hP hw hK
  obtain ⟨hd,hi⟩:=hg
  obtain ⟨f0,f1,f2,f3,f4,f5⟩:=hf it (by simp)
  obtain ⟨hs,hgd,hx,es',ep',hdt,hsz,ent⟩:=I.frzT hd
  obtain ⟨rfl,rfl⟩:=dict_ep hod hdt
  exact next_key_end (I.ok.hd hc) st hgd hdt hsz hi fun h' eb=>⟨rfl,I.turned (t':=s.toks) (fun b ob hb e=>eb b ob hb e) f0 f1 f3 f4 f5⟩
 self:=fun A i s Q E st h=>by
  refine wpAny_pyIter_slot st.typeIs F.slot_dict_keyiterator_iter (wpAny_call_entry F.slot_dict_keyiterator_iter st.typeIs F.entry_dict_keyiterator_iter ?_ (F.args_dict_keyiterator_iter_1 _))
  show wpAny _ _ (ret (.ref it)) _ _ s
  exact wpAny_pure ⟨_,rfl,"dict_keyiterator",_,st.typeIs,F.slot_dict_keyiterator_next.lookup,h⟩
end
def iKeys (td:TE) : TI:=fun σ H R=>td σ H fun x H1=>∃ d o,x=.ref d∧((∃ kvs,H1 d=some (.frz o (.dK kvs))∧R (Itk d o kvs) H1)∨∃ kvs,H1 d=some (.frz o (.dT kvs))∧R (Itkt d o kvs) H1)
section
variable {X:Cx} {tg e:Expr} {td:TE} {apos cpos:Pos}
theorem pi_keys (he:PE X e td) : PI X tg e (iKeys td):=by
 intro pins s σ H R I h
 refine thn (he pins s σ H _ I h) fun u s1 ⟨x,H1,I1,rx,d,o,ex,q⟩=>?_
 subst ex
 obtain rfl:u=Value.ref d:=rx
 rcases q with ⟨kvs,hd,q⟩ | ⟨kvs,hd,q⟩
 ·obtain ⟨hs,hgd,hx,es,ep,vs,hdt,hsz,kv,hm⟩:=I1.frzK hd
  refine iter_keys hs hgd hx hdt (pi_one (tk:=s1.toks) I1 _ (turn_keys _ hdt) ⟨_,Heap.get?_push_size _ rfl,rfl,?_⟩ q)
  rw [hsz] <;> rfl
 ·obtain ⟨hs,hgd,hx,es,ep,hdt,hsz,ent⟩:=I1.frzT hd
  refine iter_keys hs hgd hx hdt (pi_one (tk:=s1.toks) I1 _ (turn_keysT _ hdt) ⟨_,Heap.get?_push_size _ rfl,rfl,?_⟩ q)
  rw [hsz] <;> rfl
end
def Ite (K:PySem.W.Frag) (a:Addr) : It :=
 ⟨fun i H=>∃ (xs:List V) (x:V),SqL K H a xs∧xs[i]? = some x,fun i H v H'=>∃ T x,v=.ref T∧H T=none∧H'=upd H T (.tup [.int (i:Nat),x])∧∀ xs,SqL K H a xs→xs[i]? = some x,fun i H=>∃ xs:List V,SqL K H a xs∧xs.length≤i⟩
theorem turn_enum {P:Program} {w:World} {K:PySem.W.Frag} {elts:List Expr} {kk:Nat} {tpos:Pos} (a e it:Addr) :
  Turn P w K (.Tuple elts kk tpos) (Ite K a) [e,it] e (fun i h=>(∃ old,IsEnum h e it ((i:Nat) : Int) old)∧h.IsListIter it a i∧e≠it) where
 mem:=by simp
 obj:=fun i h st b hb=>by
  obtain ⟨⟨old,he⟩,⟨o,ho,hc,hd⟩,_⟩:=st
  have e':b=e∨b=it:=by simpa using hb
  rcases e' with z | z
  ·rw [z];exact ⟨_,he,fun v q=>nomatch q⟩
  ·rw [z];exact ⟨o,ho,fun v q=>by rw [hd] at q;cases q⟩
 keep:=fun i h h' st k=>let ⟨⟨old,he⟩,hi,hne⟩:=st;⟨⟨old,k e (by simp) _ he⟩,hi.at fun o q=>k it (by simp) o q,hne⟩
 item:=by
  intro X hP hw hK hc i pins s σ H E I hf st hg
  subst hP hw hK
  obtain ⟨⟨old,he⟩,hit,hne⟩:=st
  obtain ⟨xs,x,hq,hx⟩:=hg
  obtain ⟨its,rv,p,hz⟩:=I.list hq
  obtain ⟨u,hu,ru⟩:=rv.get hx
  have hel:e < s.heap.objs.size:=Heap.lt_size he
  have hil:it < s.heap.objs.size:=by obtain ⟨_,q,_⟩:=hit;exact Heap.lt_size q
  refine wpAny_pyNext_enum_item he hit p.isList (x:=u) (by simpa using hu) hne fun h' ho hit' hT hsz hk=>?_
  refine ⟨_,rfl,wpAny_letOwnedTupleGo_enum (s:={ s with heap:=h',toks:=s.toks+1 }) ho fun h'' he' sb=>?_⟩
  have hT2:h''.get? s.heap.objs.size=some { cls:=.type "tuple",data:=.seq #[.int i s.toks,u] }:=(sb.2 _ (Nat.ne_of_gt hel)).trans hT
  have new:ObjOk X.prog X.w (upd H s.heap.objs.size (.tup [.int (i:Nat),x])) h'' s.heap.objs.size (.tup [.int (i:Nat),x]) :=
   ⟨by show 2≤sizeLine;decide,[.int i s.toks,u],.cons ⟨_,rfl⟩ (.cons ru .nil),⟨_,hT2,rfl,_,rfl⟩⟩
  have I1:Inv X pins σ (upd H s.heap.objs.size (.tup [.int (i:Nat),x])) { s with heap:=h'',toks:=s.toks+1 } :=
   I.turnedNew (ch:=[e,it]) (fun b ob hb q=>(sb.2 b (fun z=>hb (by simp [z]))).trans (hk b ob (fun z=>hb (by simp [z])) (fun z=>hb (by simp [z])) q)) hf (Nat.le_refl _) new
  refine ⟨.ref s.heap.objs.size,_,I1,rfl,⟨_,x,rfl,I.hok.fresh (Nat.le_refl _),rfl,fun ys hy=>by rw [I.list_inj hy hq];exact hx⟩,⟨⟨u,?_⟩,hit'.at fun o q=>(sb.2 it (Ne.symm hne)).trans q,hne⟩,fun b hb=>?_⟩
  ·have e1:((i+1:Nat) : Int)=(i:Int)+1:=by omega
   rw [e1];exact he'
  ·have hb':b < s.heap.objs.size:=by
    have e':b=e∨b=it:=by simpa using hb
    rcases e' with z | z
    ·rw [z];exact hel
    ·rw [z];exact hil
   rw [upd_ne (Nat.ne_of_lt hb')]
   exact (hf b hb).1
 done:=by
  intro X hP hw hK hc i pins s σ H E I hf st hg
  subst hP hw hK
  obtain ⟨⟨old,he⟩,hit,hne⟩:=st
  obtain ⟨xs,hq,hx⟩:=hg
  obtain ⟨its,rv,p,hz⟩:=I.list hq
  obtain ⟨f0,f1,f2,f3,f4,f5⟩:=hf it (by simp)
  have hl:=rv.length
  exact wpAny_pyNext_enum_end (I.ok.hd hc) he hit p.isList (by simp;omega) fun h' eb=>⟨rfl,I.turned (t':=s.toks) (fun b o hb q=>eb b o hb q) f0 f1 f3 f4 f5⟩
 self:=fun A i s Q E st h=>let ⟨⟨_,he⟩,_⟩:=st;wpAny_pyIter_enum he h
def iEnum (K:PySem.W.Frag) (ta:TA) : TI:=fun σ H R=>ta σ H fun vs H1=>∃ a xs,vs=[.ref a]∧SqL K H1 a xs∧R (Ite K a) H1
theorem pi_enum {X:Cx} {e:Expr} {ta:TA} {p pos tpos:Pos} {elts:List Expr} {kk:Nat} (hg:Gl X "enumerate") (hm:X.mg "enumerate" = none) (ha:PA X [e] ta) (hs:starEach [e] X.env=[(false,eval e X.env)]:=by rfl) :
  PI X (.Tuple elts kk tpos) (.Call (.Name "enumerate" p) [e] [] pos) (iEnum X.K ta):=by
 intro pins s σ H R I h
 refine Call_ (ld_blt I hg hm boot_enumerate (PyProof.Rows.callWith_type1 (thn (ha pos pins s σ H _ I h) fun us s1 ⟨vs,H1,I1,r1,q1⟩=>?_) hs rfl))
 obtain ⟨a,xs,ex,hq,q⟩:=q1
 subst ex
 cases r1 with
 | cons r rr =>
  cases rr
  cases r
  obtain ⟨its,rv,p',hz⟩:=I1.list hq
  refine call_enumerate_list p'.isList fun h' he hit hsz hk=>wpAny_pyIter_enum he ?_
  have I2:Inv X pins σ H1 { s1 with heap:=h' }:=I1.kept (t':=s1.toks) hk
  refine ⟨s1.heap.objs.size+1,[s1.heap.objs.size+1,s1.heap.objs.size],_,_,H1,rfl,I2,turn_enum a (s1.heap.objs.size+1) s1.heap.objs.size,⟨⟨.none,he⟩,hit,Nat.succ_ne_self _⟩,fun b hb=>?_,q⟩
  have e':b=s1.heap.objs.size+1∨b=s1.heap.objs.size:=by simpa using hb
  have hle:s1.heap.objs.size≤b:=by
   rcases e' with z | z
   ·rw [z];exact Nat.le_add_right _ _
   ·rw [z];exact Nat.le_refl _
  exact I1.fpOk hle (I1.hok.fresh hle)
theorem boot_zip5 :bootBuiltins "zip" = some (.type "zip"):=by decide +kernel
def Itz (K:PySem.W.Frag) (a b:Addr) : It :=
 ⟨fun i H=>∃ (xs ys:List V) (x y:V),SqL K H a xs∧SqL K H b ys∧xs[i]? = some x∧ys[i]? = some y,
  fun i H v H'=>∃ T x y,v=.ref T∧H T=none∧H'=upd H T (.tup [x,y])∧(∀ xs,SqL K H a xs→xs[i]? = some x)∧∀ ys,SqL K H b ys→ys[i]? = some y,
  fun i H=>∃ xs ys:List V,SqL K H a xs∧SqL K H b ys∧(xs.length≤i∨ys.length≤i)⟩
theorem turn_zip {P:Program} {w:World} {K:PySem.W.Frag} {elts:List Expr} {kk:Nat} {tpos:Pos} {a b z TI TO i1 i2:Addr} (D:ZipApart z TI TO i1 i2 a b) :
  Turn P w K (.Tuple elts kk tpos) (Itz K a b) [z,TI,TO,i1,i2] z (fun i h=>IsZip h z TI TO .none∧IsPair h TI (.ref i1) (.ref i2)∧(∃ x y,IsPair h TO x y)∧h.IsListIter i1 a i∧h.IsListIter i2 b i) where
 mem:=by simp
 obj:=fun i h st c hc=>by
  obtain ⟨hz,hTI,⟨x,y,hTO⟩,⟨o1,e1,_,d1⟩,⟨o2,e2,_,d2⟩⟩:=st
  have e':c=z∨c=TI∨c=TO∨c=i1∨c=i2:=by simpa using hc
  rcases e' with q | q | q | q | q
  ·rw [q];exact ⟨_,hz,fun v q=>nomatch q⟩
  ·rw [q];exact ⟨_,hTI,fun v q=>nomatch q⟩
  ·rw [q];exact ⟨_,hTO,fun v q=>nomatch q⟩
  ·rw [q];exact ⟨o1,e1,fun v q=>by rw [d1] at q;cases q⟩
  ·rw [q];exact ⟨o2,e2,fun v q=>by rw [d2] at q;cases q⟩
 keep:=fun i h h' st k=>by
  obtain ⟨hz,hTI,⟨x,y,hTO⟩,h1,h2⟩:=st
  exact ⟨k z (by simp) _ hz,k TI (by simp) _ hTI,⟨x,y,k TO (by simp) _ hTO⟩,h1.at fun o q=>k i1 (by simp) o q,h2.at fun o q=>k i2 (by simp) o q⟩
 item:=by
  intro X hP hw hK hc i pins s σ H E I hf st hg
  subst hP hw hK
  obtain ⟨hz,hTI,⟨x0,y0,hTO⟩,h1,h2⟩:=st
  obtain ⟨xs,ys,x,y,hqx,hqy,hx,hy⟩:=hg
  obtain ⟨its,rv,p,_⟩:=I.list hqx
  obtain ⟨its2,rv2,p2,_⟩:=I.list hqy
  obtain ⟨u,hu,ru⟩:=rv.get hx
  obtain ⟨u2,hu2,ru2⟩:=rv2.get hy
  have hzl:z < s.heap.objs.size:=Heap.lt_size hz
  refine wpAny_pyNext_zip_item D hz hTI hTO h1 h2 p.isList p2.isList (x:=u) (y:=u2) (by simpa using hu) (by simpa using hu2) fun h' z' TO' h1' h2' hT hsz hk=>?_
  refine ⟨_,rfl,wpAny_letOwnedTupleGo_zip (s:={ s with heap:=h' }) z' fun h'' z'' sb=>?_⟩
  have hT2:h''.get? s.heap.objs.size=some { cls:=.type "tuple",data:=.seq #[u,u2] }:=(sb.2 _ (Nat.ne_of_gt hzl)).trans hT
  have new:ObjOk X.prog X.w (upd H s.heap.objs.size (.tup [x,y])) h'' s.heap.objs.size (.tup [x,y]) :=
   ⟨by show 2≤sizeLine;decide,[u,u2],.cons ru (.cons ru2 .nil),⟨_,hT2,rfl,_,rfl⟩⟩
  have I1:Inv X pins σ (upd H s.heap.objs.size (.tup [x,y])) { s with heap:=h'' } :=
   I.turnedNew (t':=s.toks) (ch:=[z,TI,TO,i1,i2]) (fun c o hb q=>(sb.2 c (fun q'=>hb (by simp [q']))).trans (hk c o (fun q'=>hb (by simp [q'])) (fun q'=>hb (by simp [q'])) (fun q'=>hb (by simp [q'])) (fun q'=>hb (by simp [q'])) q)) hf (Nat.le_refl _) new
  refine ⟨.ref s.heap.objs.size,_,I1,rfl,⟨_,x,y,rfl,I.hok.fresh (Nat.le_refl _),rfl,fun l hl=>by rw [I.list_inj hl hqx];exact hx,fun l hl=>by rw [I.list_inj hl hqy];exact hy⟩,⟨z'',?_,⟨u,u2,?_⟩,?_,?_⟩,fun c hcm=>?_⟩
  ·exact (sb.2 _ D.TIz).trans (hk _ _ D.TIz D.TITO D.TIi1 D.TIi2 hTI)
  ·exact (sb.2 _ D.TOz).trans TO'
  ·exact h1'.at fun o q=>(sb.2 _ D.i1z).trans q
  ·exact h2'.at fun o q=>(sb.2 _ D.i2z).trans q
  ·have hlt:c < s.heap.objs.size:=by
    have e':c=z∨c=TI∨c=TO∨c=i1∨c=i2:=by simpa using hcm
    rcases e' with q | q | q | q | q
    ·rw [q];exact hzl
    ·rw [q];exact Heap.lt_size hTI
    ·rw [q];exact Heap.lt_size hTO
    ·rw [q];obtain ⟨_,e1,_⟩:=h1;exact Heap.lt_size e1
    ·rw [q];obtain ⟨_,e2,_⟩:=h2;exact Heap.lt_size e2
   rw [upd_ne (Nat.ne_of_lt hlt)]
   exact (hf c hcm).1
 done:=by
  intro X hP hw hK hc i pins s σ H E I hf st hg
  subst hP hw hK
  obtain ⟨hz,hTI,⟨x0,y0,hTO⟩,h1,h2⟩:=st
  obtain ⟨xs,ys,hqx,hqy,hend⟩:=hg
  obtain ⟨its,rv,p,_⟩:=I.list hqx
  obtain ⟨its2,rv2,p2,_⟩:=I.list hqy
  have l1:=rv.length
  have l2:=rv2.length
  have he:its.toArray[i]? = none∨its2.toArray[i]? = none:=by
   rcases hend with q | q
   ·exact .inl (by simp;omega)
   ·exact .inr (by simp;omega)
  exact wpAny_pyNext_zip_end (I.ok.hd hc) D hz hTI hTO h1 h2 p.isList p2.isList he fun h' hk=>⟨rfl,I.turnedL (t':=s.toks) (ch:=[z,TI,TO,i1,i2]) (fun c o hb q =>
   hk c o (fun q'=>hb (by simp [q'])) (fun q'=>hb (by simp [q'])) (fun q'=>hb (by simp [q'])) (fun q'=>hb (by simp [q'])) q) hf⟩
 self:=fun A i s Q E st h=>wpAny_pyIter_zip st.1 h
def iZip (K:PySem.W.Frag) (ta:TA) : TI:=fun σ H R=>ta σ H fun vs H1=>∃ a b xs ys,vs=[.ref a,.ref b]∧SqL K H1 a xs∧SqL K H1 b ys∧R (Itz K a b) H1
theorem pi_zip {X:Cx} {e e2:Expr} {ta:TA} {p pos tpos:Pos} {elts:List Expr} {kk:Nat} (hg:Gl X "zip") (hm:X.mg "zip" = none) (ha:PA X [e,e2] ta)
  (hs:starEach [e,e2] X.env=(false,eval e X.env) :: starEach [e2] X.env:=by rfl) (hpl:(backTo pos (starEach [e2] X.env)).any (·.1)=false:=by rfl) :
  PI X (.Tuple elts kk tpos) (.Call (.Name "zip" p) [e,e2] [] pos) (iZip X.K ta):=by
 intro pins s σ H R I h
 refine Call_ (ld_blt I hg hm boot_zip5 (PyProof.Rows.callWith_type1 (thn (ha pos pins s σ H _ I h) fun us s1 ⟨vs,H1,I1,r1,q1⟩=>?_) hs hpl))
 obtain ⟨a,b,xs,ys,ex,hqx,hqy,q⟩:=q1
 subst ex
 cases r1 with
 | cons r rr =>
  cases rr with
  | cons r' rr =>
   cases rr
   cases r
   cases r'
   obtain ⟨its,rv,p1,_⟩:=I1.list hqx
   obtain ⟨its2,rv2,p2,_⟩:=I1.list hqy
   have la:a < s1.heap.objs.size:=p1.lt
   have lb:b < s1.heap.objs.size:=p2.lt
   refine call_zip_2 p1.isList p2.isList fun h' hz hTI hTO h1 h2 hsz hk=>wpAny_pyIter_zip hz ?_
   have I2:Inv X pins σ H1 { s1 with heap:=h' }:=I1.kept (t':=s1.toks) hk
   refine ⟨s1.heap.objs.size+4,[s1.heap.objs.size+4,s1.heap.objs.size+2,s1.heap.objs.size+3,s1.heap.objs.size,s1.heap.objs.size+1],_,_,H1,rfl,I2,turn_zip (PySem.W.ktu_apart s1.heap.objs.size a b la lb),⟨hz,hTI,⟨_,_,hTO⟩,h1,h2⟩,fun c hcm=>?_,q⟩
   have e':c=s1.heap.objs.size+4∨c=s1.heap.objs.size+2∨c=s1.heap.objs.size+3∨c=s1.heap.objs.size∨c=s1.heap.objs.size+1:=by simpa using hcm
   have hle:s1.heap.objs.size≤c:=by
    rcases e' with z | z | z | z | z
    ·rw [z];exact Nat.le_add_right _ _
    ·rw [z];exact Nat.le_add_right _ _
    ·rw [z];exact Nat.le_add_right _ _
    ·rw [z];exact Nat.le_refl _
    ·rw [z];exact Nat.le_add_right _ _
   exact I1.fpOk hle (I1.hok.fresh hle)
end L2
section
namespace Bits
open PySem PyProof.Rows
end Bits
end
section
namespace TL
open PySem PySem.Builtin PySem.Builtin.Str PySem.StrLaws
abbrev tl (x:Str) : List Nat:=x.cps.toList
theorem len_tl (x:Str) : x.length=(tl x).length:=by simp [tl,Str.length]
def pre (S l:List Nat) : Bool:=l.take S.length == S
def spl (S:List Nat) : Nat→List Nat→List Nat→List (List Nat)
 | _,acc,[]=>[acc]
 | 0,acc,c :: r=>if pre S (c :: r)=true then acc :: spl S (S.length - 1) [] r else spl S 0 (acc ++ [c]) r
 | k+1,acc,_ :: r=>spl S k acc r
def par (S:List Nat) : List Nat→List Nat→Option (List Nat × List Nat)
 | _,[]=>none
 | acc,c :: r=>if pre S (c :: r)=true then some (acc,(c :: r).drop S.length) else par S (acc ++ [c]) r
theorem len1 {y:Str} (hy:tl y≠[]) : 1≤y.length:=by
 have e2:0 < (tl y).length:=List.length_pos_iff.mpr hy
 rw [len_tl y]
 exact e2
end TL
end
namespace L2
open PySem PySem.Spec PyProof.Rows
section
variable {X:Cx} {pins:List (Addr × Obj)} {σ:St} {H:Hp} {s:Shared} {Q:VK}
end
section
variable {X:Cx}
end
section
variable {X:Cx} {o e:Expr} {to te:TE}
end
end L2
namespace L2
open PySem PySem.Spec PyProof.Rows
section
variable {X:Cx}
end
end L2
namespace Att
open PySem PySem.W PySem.Calls PyProof.Rows
section
variable {prog:Program} {w:World} {A:Around} {E:Value→Shared→Prop} {s:Shared} {K:Frag}
def ledger (h:Heap) (L d:Addr) : List (Addr × Obj):=(List.range h.objs.size).filterMap fun a=>if a=L∨a=d then none else (h.get? a).map fun o=>(a,o)
end
end Att
namespace L2
open PySem PySem.Spec PyProof.Rows
theorem vals_ints :∀ {vs:List Value} {ns:List Int},IntsAre vs ns→Vals (ns.map V.int) vs
 | _,_,.nil=>.nil
 | _,_,.cons n t h=>.cons ⟨t,rfl⟩ (vals_ints h)
def Only (H:Hp) : Prop:=∀ b,H b=none∨∃ o xs,H b=some (.frz o (.lst xs))
end L2
namespace L2
open PySem PySem.Spec PyProof.Rows
abbrev KOf {K:PySem.W.Frag} {h:Heap} (_:K.In h) : PySem.W.Frag:=K
end L2
namespace L2
open PySem PySem.Spec PyProof.Rows
def inClass (s:Stmt) (j:Nat) : Stmt:=match s with
 | .ClassDef _ _ _ body _ _ _ _ _ _ _=>body.getD j (.Pass ⟨0,0,0,0⟩)
 | _=>.Pass ⟨0,0,0,0⟩
def defArgs (s:Stmt) : Arguments:=match s with
 | .FunctionDef _ a _ _ _ _ _ _ _ _=>a
 | _=>{ posonlyargs:=[],args:=[],vararg:=none,kwonlyargs:=[],kw_defaults:=[],kwarg:=none,defaults:=[] }
def defBody (s:Stmt) : List Stmt:=match s with
 | .FunctionDef _ _ b _ _ _ _ _ _ _=>b
 | _=>[]
def defScope (s:Stmt) : Scope:=match s with
 | .FunctionDef _ _ _ _ _ _ sc _ _ _=>sc
 | _=>{ kind:=.function,names:=[],isGenerator:=false,isCoroutine:=false }
abbrev CX0 :CXT:=fun _ _ _ _ _ _=>False
abbrev E0 :XK:=fun _ _ _=>False
theorem pass0 {X:Cx}:Passes CX0 X E0:=fun _ _ _ _ _ _ _ h=>h.elim
structure Fun (K:PySem.W.Frag) (x qual:Str) (st:Stmt) (f:Addr) (fd:FuncData) : Prop where
 ex:∃ (oc:Value) (od:Option Addr) (kV doc pm:Value) (an:Option Addr) (cdv ct:Value) (osl:Array (Option Value)),
  fd=PySem.W.fnOf x qual (defArgs st) (defBody st) (defScope st) .none kV doc pm an cdv ct∧K.lookup f=some ⟨oc,od,.func fd,osl⟩∧PySem.W.codeIn K cdv qual=true
 kp:PySem.W.keepIn K (.ref f)=true
section
variable {P:Program} {w:World} {K:PySem.W.Frag} {mg:Str→Option Value} {base:Heap}
theorem Fun.ok {x qual:Str} {st:Stmt} {f:Addr} {fd:FuncData} {N ps:List Str} {k:Nat} {sp:Sp} (F:Fun K x qual st f fd) (S:FnScope N ps (defScope st)) (len:∀ vs H Q E,sp vs H Q E→vs.length=ps.length)
  (hbody:∀ (cdv:Value) (A:Around) (outer:List Env) (s:Shared) (H:Hp) (vs:List V) (Q:VK) (E:XK),Room k (A.deeper (envOfC qual (defScope st) s.heap.objs.size f cdv))→sp vs H Q E →
   ∃ t,PSs (cxOf CX0 P w K mg base N qual (defScope st) f cdv A outer s H E).nox (defBody st) t∧t { nx:=fun _ H'=>Q .non H',rt:=Q } (start N vs) H) : FnOk P w K mg base CX0 (k+1) f fd ps sp:=by
 obtain ⟨oc,od,kV,doc,pm,an,cdv,ct,osl,rfl,lk,hcd⟩:=F.ex
 refine fn_of lk hcd S len fun A outer s H vs Q E hr hsp=>?_
 obtain ⟨t,h,q⟩:=hbody cdv A outer s H vs Q E hr hsp
 exact ⟨t,h.nox,q⟩
theorem Fun.binds {x qual:Str} {st:Stmt} {f:Addr} {fd:FuncData} {ps:List Str} (F:Fun K x qual st f fd)
  (h:∀ (kV doc pm:Value) (an:Option Addr) (cdv ct:Value) (us:List Value),us.length=ps.length→bindArgs (PySem.W.fnOf x qual (defArgs st) (defBody st) (defScope st) .none kV doc pm an cdv ct) ⟨us,[]⟩=pure (ps.zip us)) : Binds K fd ps []:=by
 obtain ⟨oc,od,kV,doc,pm,an,cdv,ct,osl,rfl,lk,hcd⟩:=F.ex
 exact .all (h kV doc pm an cdv ct)
theorem fun_mk {x qual:Str} {st:Stmt} {f:Addr} {oc:Value} {od an:Option Addr} {osl:Array (Option Value)} {kV doc pm cdv ct:Value} (l:K.lookup f=some ⟨oc,od,.func (PySem.W.fnOf x qual (defArgs st) (defBody st) (defScope st) .none kV doc pm an cdv ct),osl⟩)
  (c:PySem.W.codeIn K cdv qual=true) (k:PySem.W.keepIn K (.ref f)=true) : Fun K x qual st f (PySem.W.fnOf x qual (defArgs st) (defBody st) (defScope st) .none kV doc pm an cdv ct):=⟨⟨oc,od,kV,doc,pm,an,cdv,ct,osl,rfl,l,c⟩,k⟩
end
theorem hu_of {A:Around} {k:Nat} (hr:Room k A) : A.units+1 < cLine:=Nat.lt_of_le_of_lt (Nat.add_le_add_left (by decide:1≤64) _) hr.units
theorem small1000 {n:Nat} (h:n≤1000) : n < sizeLine:=Nat.lt_of_le_of_lt h (by decide)
section
variable {X:Cx}
theorem pv (i:Nat) {x:Str} {pos:Pos} (hN:X.N[i]? = some x:=by rfl) (hv:Vis X.env.scope x:=by first | exact Or.inl rfl | exact Or.inr (Or.inl rfl) | exact Or.inr (Or.inr rfl)) (hd:(x == ("__debug__" : Str))=false:=by decide)
  (hcd:(x == ("__classdict__" : Str))=false:=by decide) : PE X (.Name x pos) (tVar i):=pe_var hN hv hd hcd
end
theorem iteT {A B:Prop} (h:A) : if true=true then A else B:=by
 rw [if_pos rfl]
 exact h
def Same (H H':Hp) : Prop:=∀ b o,H b=some o→H' b=some o
theorem Same.free {H H':Hp} (e:Same H H') {l:Addr} (h:H' l=Option.none) : H l=Option.none:=by
 cases q:H l with
 | none=>rfl
 | some o =>
  rw [e l o q] at h
  cases h
section
variable {κ:Type} [DecidableEq κ]
theorem valV_not {kvs:List (κ × V)} {k:κ} (h:valV kvs k=none) : ¬ k∈kvs.map (·.1):=by
 intro m
 obtain ⟨p,hp,e⟩:=List.mem_map.mp m
 have q:(kvs.any fun kv=>decide (kv.1=k))=true:=List.any_eq_true.mpr ⟨p,hp,decide_eq_true e⟩
 rw [valV_any,h] at q
 exact absurd q (by simp)
theorem nd_snoc :∀ {l:List κ} {k:κ},l.Nodup→¬ k∈l→(l ++ [k]).Nodup
 | [],k,_,_=>by simp
 | a :: r,k,h,hk=>by
  obtain ⟨h1,h2⟩:=List.nodup_cons.mp h
  show (a :: (r ++ [k])).Nodup
  refine List.nodup_cons.mpr ⟨fun m=>?_,nd_snoc h2 fun m=>hk (List.mem_cons.mpr (Or.inr m))⟩
  rcases List.mem_append.mp m with q | q
  ·exact h1 q
  ·exact hk (List.mem_cons.mpr (Or.inl (List.mem_singleton.mp q).symm))
theorem nd_putK {kvs:List (κ × V)} {k:κ} (v:V) (hn:(kvs.map (·.1)).Nodup) (h:valV kvs k=none) : ((putK kvs k v).map (·.1)).Nodup:=by
 rw [putK_new v h,List.map_append]
 exact nd_snoc hn (valV_not h)
end
theorem at_of {xs:List V} {z:Int} {j:Nat} {v:V} (e:z=(j:Int)) (h:xs[j]? = some v) : atI xs z=some v:=by
 rw [e]
 exact atI_nat h
theorem nd_ix {α:Type} {l:List α} (hN:l.Nodup) {i j:Nat} {x:α} (a:l[i]? = some x) (b:l[j]? = some x) : i=j:=by
 obtain ⟨h1,e1⟩:=List.getElem?_eq_some_iff.mp a
 obtain ⟨h2,e2⟩:=List.getElem?_eq_some_iff.mp b
 exact (List.getElem_inj hN).mp (e1.trans e2.symm)
theorem Same.made {H H1:Hp} {x dx C:Addr} (nx:H x=Option.none) (nd:H dx=Option.none) (k:∀ b o,(upd (upd H dx (.own x)) x (.ins C dx [])) b=some o→b≠x→H1 b=some o) : Same H H1:=fun b o e =>
 k b o (by rw [upd_ne (ne_of_none e nx),upd_ne (ne_of_none e nd)];exact e) (ne_of_none e nx)
end L2
end
section
set_option maxHeartbeats 2000000
namespace L2
open PySem PySem.Spec PyProof.Rows
open PySem.W (WData Codec OpenSpec Well WellAll ReadsW ReadsAllW)
mutual
inductive Dw (K:PySem.W.Frag) (H:Hp) : V→WData→Prop
 | non:Dw K H .non .none
 | bl (b:Bool) : Dw K H (.bl b) (.bool b)
 | int (i:Int) : Dw K H (.int i) (.int i)
 | str (x:Str) : Dw K H (.str x) (.str x)
 | byt (b:Array UInt8) : Dw K H (.byt b) (.bytes b.toList)
 | lst {a:Addr} {xs:List V} {ds:List WData}:SqL K H a xs→DwAll K H xs ds→Dw K H (.ref a) (.list ds)
 | tup {a:Addr} {xs:List V} {ds:List WData}:SqT K H a xs→DwAll K H xs ds→Dw K H (.ref a) (.tuple ds)
inductive DwAll (K:PySem.W.Frag) (H:Hp) : List V→List WData→Prop
 | nil:DwAll K H [] []
 | cons {v:V} {vs:List V} {d:WData} {ds:List WData}:Dw K H v d→DwAll K H vs ds→DwAll K H (v :: vs) (d :: ds)
end
theorem dw_ints {K:PySem.W.Frag} {H:Hp}:∀ ns:List Int,DwAll K H (ns.map V.int) (ns.map WData.int)
 | []=>.nil
 | n :: r=>.cons (.int n) (dw_ints r)
theorem ints_dw {K:PySem.W.Frag} {H:Hp}:∀ (ns:List Int) (xs:List V),DwAll K H xs (ns.map WData.int)→xs=ns.map V.int
 | [],xs,h=>by
  cases h
  rfl
 | n :: r,xs,h=>by
  cases h with
  | cons h1 h2 =>
   cases h1
   rw [ints_dw r _ h2] <;> rfl
section
variable {P:Program} {w:World} {K:PySem.W.Frag} {H:Hp} {h:Heap} {R:PySem.W.WRecords} {cl:Str→Option Addr}
theorem sqL_at {a:Addr} {xs:List V} (hok:HOk P w H h) (KX:K.In h) (q:SqL K H a xs) : ∃ (its:List Value) (o:Obj) (n:Nat),Vals xs its∧h.get? a=some o∧o.cls=.type "list"∧o.data=.seq its.toArray n:=by
 rcases q with q | ⟨o,its,n,e,hc,_,hd,_,hv⟩
 ·obtain ⟨_,its,n,hv,e⟩:=(show ObjOk P w H h a (.lst xs) from q.ok hok)
  exact ⟨its,_,n,hv,e,rfl,rfl⟩
 ·exact ⟨its.toList,o,n,hv,KX _ _ e,hc,by simp [hd]⟩
theorem sqT_at {a:Addr} {xs:List V} (hok:HOk P w H h) (KX:K.In h) (q:SqT K H a xs) : ∃ (its:List Value) (o:Obj) (n:Nat),Vals xs its∧h.get? a=some o∧o.cls=.type "tuple"∧o.data=.seq its.toArray n:=by
 rcases q with q | ⟨o,its,n,e,hc,hd,_,hv⟩
 ·obtain ⟨_,its,hv,o,e,hc,n,hd⟩:=(show ObjOk P w H h a (.tup xs) from q.ok hok)
  exact ⟨its,o,n,hv,e,hc,hd⟩
 ·exact ⟨its.toList,o,n,hv,KX _ _ e,hc,by simp [hd]⟩
mutual
theorem Dw.reads (hok:HOk P w H h) (KX:K.In h) : ∀ (d:WData) (v:V) (u:Value),Dw K H v d→RelV v u→∃ as,ReadsW R cl h u d as
 | .none,_,_,x,r=>by
  cases x
  cases r
  exact ⟨_,ReadsW.none⟩
 | .bool b,_,_,x,r=>by
  cases x
  cases r
  exact ⟨_,ReadsW.bool b⟩
 | .int i,_,_,x,r=>by
  cases x
  obtain ⟨t,rfl⟩:=r
  exact ⟨_,ReadsW.int i t⟩
 | .str s,_,_,x,r=>by
  cases x
  obtain ⟨t,rfl⟩:=r
  exact ⟨_,ReadsW.str s t⟩
 | .bytes b,_,_,x,r=>by
  cases x
  obtain ⟨t,rfl⟩:=r
  exact ⟨_,ReadsW.bytes _ t⟩
 | .list ds,_,_,x,r=>by
  cases x with
  | lst hs ha =>
   cases r
   obtain ⟨its,o,n,rv,ho,hc,hd⟩:=sqL_at hok KX hs
   obtain ⟨as,hr⟩:=Dw.readsAll hok KX ds _ its ha rv
   exact ⟨_,ReadsW.list ho hc hd hr⟩
 | .tuple ds,_,_,x,r=>by
  cases x with
  | tup hs ha =>
   cases r
   obtain ⟨its,o,n,rv,ho,hc,hd⟩:=sqT_at hok KX hs
   obtain ⟨as,hr⟩:=Dw.readsAll hok KX ds _ its ha rv
   exact ⟨_,ReadsW.tuple ho hc hd hr⟩
 | .float _,_,_,x,_=>by cases x
 | .dict _,_,_,x,_=>by cases x
 | .bytearray _,_,_,x,_=>by cases x
 | .set _,_,_,x,_=>by cases x
 | .frozenset _,_,_,x,_=>by cases x
 | .obj _ _,_,_,x,_=>by cases x
theorem Dw.readsAll (hok:HOk P w H h) (KX:K.In h) : ∀ (ds:List WData) (vs:List V) (us:List Value),DwAll K H vs ds→Vals vs us→∃ as,ReadsAllW R cl h us ds as
 | [],_,_,x,r=>by
  cases x
  cases r
  exact ⟨_,ReadsAllW.nil⟩
 | d :: ds,_,_,x,r=>by
  cases x with
  | cons h1 h2 =>
   cases r with
   | cons r1 r2 =>
    obtain ⟨as,q1⟩:=Dw.reads hok KX d _ _ h1 r1
    obtain ⟨bs,q2⟩:=Dw.readsAll hok KX ds _ _ h2 r2
    exact ⟨_,ReadsAllW.cons q1 q2⟩
end
end
mutual
def plW :WData→Bool
 | .none=>true
 | .bool _=>true
 | .int _=>true
 | .str _=>true
 | .bytes _=>true
 | .list xs=>plWs xs
 | .tuple xs=>plWs xs
 | _=>false
def plWs :List WData→Bool
 | []=>true
 | x :: r=>plW x && plWs r
end
theorem plWs_map {α:Type} {f:α→WData} (h:∀ a,plW (f a)=true) : ∀ l:List α,plWs (l.map f)=true
 | []=>rfl
 | x :: r=>by
  show (plW (f x) && plWs (r.map f))=true
  rw [h x,plWs_map h r] <;> rfl
theorem pl_enc :∀ (c:Codec) (a:c.denote),plW (c.enc a)=true
 | .unit,_=>rfl
 | .bool,_=>rfl
 | .int _ _,_=>rfl
 | .nat _ _,_=>rfl
 | .u8,_=>rfl
 | .bytes _ _,_=>rfl
 | .text _ _ _ _,_=>rfl
 | .list _ _ c,a=>plWs_map (fun x=>pl_enc c x) a
 | .pair c d,a=>by
  show (plW (c.enc a.1) && (plW (d.enc a.2) && true))=true
  rw [pl_enc c a.1,pl_enc d a.2] <;> rfl
 | .triple c d e,a=>by
  show (plW (c.enc a.1) && (plW (d.enc a.2.1) && (plW (e.enc a.2.2) && true)))=true
  rw [pl_enc c a.1,pl_enc d a.2.1,pl_enc e a.2.2] <;> rfl
 | .option c,none=>rfl
 | .option c,some x=>pl_enc c x
theorem pl_encAll :∀ (cs:List Codec) (a:Codec.denoteAll cs),plWs (Codec.encAll cs a)=true
 | [],_=>rfl
 | c :: cs,a=>by
  show (plW (c.enc a.1) && plWs (Codec.encAll cs a.2))=true
  rw [pl_enc c a.1,pl_encAll cs a.2] <;> rfl
theorem weight_mem :∀ {xs:List WData} {d:WData},d∈xs→d.weight≤WData.weightAll xs
 | [],d,h=>absurd h (by simp)
 | x :: r,d,h=>by
  show d.weight≤x.weight+1+WData.weightAll r
  rcases List.mem_cons.mp h with e | m
  ·rw [e]
   omega
  ·have z:=weight_mem m
   omega
def toV :Value→V
 | .none=>.non
 | .bool b=>.bl b
 | .int i _=>.int i
 | .str x _=>.str x
 | .bytes b _=>.byt b
 | .ref a=>.ref a
 | _=>.non
def OkU (A:List Addr) : Value→Prop
 | .none=>True
 | .bool _=>True
 | .int _ _=>True
 | .str _ _=>True
 | .bytes _ _=>True
 | .ref a=>a∈A
 | _=>False
theorem OkU.mono {A B:List Addr} (h:∀ a∈A,a∈B) : ∀ {u:Value},OkU A u→OkU B u:=fun {u} x=>by
 cases u with
 | ref a=>exact h a x
 | none=>trivial
 | bool b=>trivial
 | int i t=>trivial
 | str s t=>trivial
 | bytes b t=>trivial
 | _=>exact False.elim x
theorem relV_toV {A:List Addr} {u:Value} (x:OkU A u) : RelV (toV u) u:=by
 cases u with
 | ref a=>rfl
 | none=>rfl
 | bool b=>rfl
 | int i t=>exact ⟨t,rfl⟩
 | str s t=>exact ⟨t,rfl⟩
 | bytes b t=>exact ⟨t,rfl⟩
 | _=>exact False.elim x
theorem vals_toV {A:List Addr}:∀ {vs:List Value},(∀ u∈vs,OkU A u)→Vals (vs.map toV) vs
 | [],_=>.nil
 | u :: r,h=>.cons (relV_toV (h u (List.mem_cons_self ..))) (vals_toV fun x hx=>h x (List.mem_cons_of_mem _ hx))
def ArgOb (h:Heap) (A:List Addr) (a:Addr) : Prop:=∃ vs:List Value,vs.length≤sizeLine∧(∀ u∈vs,OkU A u) ∧
 (h.get? a=some { cls:=.type "list",data:=.seq vs.toArray }∨h.get? a=some { cls:=.type "tuple",data:=.seq vs.toArray })
theorem ArgOb.mono {h:Heap} {A B:List Addr} {a:Addr} (k:∀ a∈A,a∈B) (x:ArgOb h A a) : ArgOb h B a:=by
 obtain ⟨vs,h1,h2,h3⟩:=x
 exact ⟨vs,h1,fun u hu=>(h2 u hu).mono k,h3⟩
theorem wellAll_len {P:Params} {h:Heap}:∀ {vs:List Value} {ds:List WData},WellAll P h vs ds→vs.length=ds.length
 | _,_,.nil=>rfl
 | _,_,.cons _ b=>by
  show _+1=_+1
  rw [wellAll_len b]
theorem well_list {P:Params} {h:Heap} {v:Value} {ds:List WData} (x:Well P h v (.list ds)) : ∃ (a:Addr) (vs:List Value),v=.ref a∧h.get? a=some { cls:=.type "list",data:=.seq vs.toArray }∧WellAll P h vs ds:=by
 cases x with
 | list ho hall=>exact ⟨_,_,rfl,ho,hall⟩
theorem well_tuple {P:Params} {h:Heap} {v:Value} {ds:List WData} (x:Well P h v (.tuple ds)) : ∃ (a:Addr) (vs:List Value),v=.ref a∧h.get? a=some { cls:=.type "tuple",data:=.seq vs.toArray }∧WellAll P h vs ds:=by
 cases x with
 | tuple ho hall=>exact ⟨_,_,rfl,ho,hall⟩
theorem well_cons {P:Params} {h:Heap} {us:List Value} {d:WData} {ds:List WData} (x:WellAll P h us (d :: ds)) : ∃ (v:Value) (vs:List Value),us=v :: vs∧Well P h v d∧WellAll P h vs ds:=by
 cases x with
 | cons a b=>exact ⟨_,_,rfl,a,b⟩
theorem line_of {n:Nat} (h:n≤1048576) : n≤sizeLine:=Nat.le_trans h (by decide)
section
variable {P:Params} {h:Heap}
mutual
theorem area_one :∀ (d:WData) (v:Value),Well P h v d→plW d=true→d.weight≤1048576→∃ A:List Addr,OkU A v∧∀ a∈A,ArgOb h A a
 | .none,_,x,_,_=>by
  cases x
  exact ⟨[],trivial,fun a m=>absurd m (by simp)⟩
 | .bool b,_,x,_,_=>by
  cases x
  exact ⟨[],trivial,fun a m=>absurd m (by simp)⟩
 | .int i,_,x,_,_=>by
  cases x
  exact ⟨[],trivial,fun a m=>absurd m (by simp)⟩
 | .str s,_,x,_,_=>by
  cases x
  exact ⟨[],trivial,fun a m=>absurd m (by simp)⟩
 | .bytes b,_,x,_,_=>by
  cases x
  exact ⟨[],trivial,fun a m=>absurd m (by simp)⟩
 | .list ds,_,x,p,z=>by
  obtain ⟨a,vs,rfl,ho,hall⟩:=well_list x
  have z2:WData.weightAll ds≤1048576:=z
  obtain ⟨A,h1,h2⟩:=area_all ds _ hall p fun d hd=>Nat.le_trans (weight_mem hd) z2
  have k:∀ b∈A,b∈a :: A:=fun b hb=>List.mem_cons_of_mem _ hb
  refine ⟨a :: A,List.mem_cons_self ..,fun b hb=>?_⟩
  rcases List.mem_cons.mp hb with e | m
  ·rw [e]
   exact ⟨vs,line_of (by rw [wellAll_len hall];exact Nat.le_trans (PySem.W.length_le_weightAllW ds) z2),fun u hu=>(h1 u hu).mono k,.inl ho⟩
  ·exact (h2 b m).mono k
 | .tuple ds,_,x,p,z=>by
  obtain ⟨a,vs,rfl,ho,hall⟩:=well_tuple x
  have z2:WData.weightAll ds≤1048576:=z
  obtain ⟨A,h1,h2⟩:=area_all ds _ hall p fun d hd=>Nat.le_trans (weight_mem hd) z2
  have k:∀ b∈A,b∈a :: A:=fun b hb=>List.mem_cons_of_mem _ hb
  refine ⟨a :: A,List.mem_cons_self ..,fun b hb=>?_⟩
  rcases List.mem_cons.mp hb with e | m
  ·rw [e]
   exact ⟨vs,line_of (by rw [wellAll_len hall];exact Nat.le_trans (PySem.W.length_le_weightAllW ds) z2),fun u hu=>(h1 u hu).mono k,.inr ho⟩
  ·exact (h2 b m).mono k
 | .float _,_,_,p,_=>Bool.noConfusion (show false=true from p)
 | .dict _,_,_,p,_=>Bool.noConfusion (show false=true from p)
 | .bytearray _,_,_,p,_=>Bool.noConfusion (show false=true from p)
 | .set _,_,_,p,_=>Bool.noConfusion (show false=true from p)
 | .frozenset _,_,_,p,_=>Bool.noConfusion (show false=true from p)
 | .obj _ _,_,_,p,_=>Bool.noConfusion (show false=true from p)
theorem area_all :∀ (ds:List WData) (vs:List Value),WellAll P h vs ds→plWs ds=true→(∀ d∈ds,d.weight≤1048576)→∃ A:List Addr,(∀ u∈vs,OkU A u)∧∀ a∈A,ArgOb h A a
 | [],_,x,_,_=>by
  cases x
  exact ⟨[],fun u m=>absurd m (by simp),fun a m=>absurd m (by simp)⟩
 | d :: ds,_,x,p,z=>by
  obtain ⟨v,vs,rfl,x1,x2⟩:=well_cons x
  have q:plW d=true∧plWs ds=true:=Bool.and_eq_true_iff.mp p
  obtain ⟨A,a1,a2⟩:=area_one d v x1 q.1 (z d (List.mem_cons_self ..))
  obtain ⟨B,b1,b2⟩:=area_all ds vs x2 q.2 fun e he=>z e (List.mem_cons_of_mem _ he)
  have kA:∀ b∈A,b∈A ++ B:=fun b hb=>List.mem_append.mpr (.inl hb)
  have kB:∀ b∈B,b∈A ++ B:=fun b hb=>List.mem_append.mpr (.inr hb)
  refine ⟨A ++ B,fun u hu=>?_,fun b hb=>?_⟩
  ·rcases List.mem_cons.mp hu with e | m
   ·rw [e]
    exact a1.mono kA
   ·exact (b1 u m).mono kB
  ·rcases List.mem_append.mp hb with m | m
   ·exact (a2 b m).mono kA
   ·exact (b2 b m).mono kB
end
end
def hoOf (o:Obj) : Option HO:=match o.data with
 | .seq vs _=>if (o.cls == Value.type "list")=true then some (.frz o (.lst (vs.toList.map toV))) else some (.frz o (.tup (vs.toList.map toV)))
 | _=>none
def argH (K:PySem.W.Frag) (h:Heap) (A:List Addr) : Hp:=fun b=>if b∈A then (if (K.lookup b).isNone=true then (h.get? b).bind hoOf else none) else none
def OnlyF (H:Hp) : Prop:=∀ b,H b=none∨∃ o u,H b=some (.frz o u)
theorem hoOf_lst (vs:List Value) : hoOf { cls:=.type "list",data:=.seq vs.toArray }=some (.frz { cls:=.type "list",data:=.seq vs.toArray } (.lst (vs.map toV))):=by
 show (if (Value.type "list" == Value.type "list")=true then some (HO.frz { cls:=.type "list",data:=.seq vs.toArray } (.lst (vs.toArray.toList.map toV))) else some (HO.frz { cls:=.type "list",data:=.seq vs.toArray } (.tup (vs.toArray.toList.map toV))))=_
 rw [if_pos (beq_self_eq_true _)]
theorem hoOf_tup (vs:List Value) : hoOf { cls:=.type "tuple",data:=.seq vs.toArray }=some (.frz { cls:=.type "tuple",data:=.seq vs.toArray } (.tup (vs.map toV))):=by
 show (if (Value.type "tuple" == Value.type "list")=true then some (HO.frz { cls:=.type "tuple",data:=.seq vs.toArray } (.lst (vs.toArray.toList.map toV))) else some (HO.frz { cls:=.type "tuple",data:=.seq vs.toArray } (.tup (vs.toArray.toList.map toV))))=_
 rw [if_neg (by decide)]
section
variable {P:Program} {w:World} {K:PySem.W.Frag} {h:Heap} {A:List Addr}
theorem argH_at {b:Addr} {o:Obj} (hb:b∈A) (hk:K.lookup b=none) (e:h.get? b=some o) : argH K h A b=hoOf o:=by
 unfold argH
 rw [if_pos hb,hk,if_pos (show (none:Option Obj).isNone=true from rfl),e] <;> rfl
theorem of_argH {b:Addr} {u:HO} (q:argH K h A b=some u) : b∈A∧K.lookup b=none:=by
 unfold argH at q
 by_cases hb:b∈A
 ·rw [if_pos hb] at q
  cases hk:K.lookup b with
  | none=>exact ⟨hb,rfl⟩
  | some o =>
   rw [hk,if_neg (by simp)] at q
   cases q
 ·rw [if_neg hb] at q
  cases q
theorem argH_is (ar:∀ a∈A,ArgOb h A a) {b:Addr} {u:HO} (q:argH K h A b=some u) : K.lookup b=none∧∃ vs:List Value,vs.length≤sizeLine∧(∀ u∈vs,OkU A u) ∧
  ((h.get? b=some { cls:=.type "list",data:=.seq vs.toArray }∧u=.frz { cls:=.type "list",data:=.seq vs.toArray } (.lst (vs.map toV))) ∨
   (h.get? b=some { cls:=.type "tuple",data:=.seq vs.toArray }∧u=.frz { cls:=.type "tuple",data:=.seq vs.toArray } (.tup (vs.map toV)))):=by
 obtain ⟨hb,hk⟩:=of_argH q
 obtain ⟨vs,h1,h2,h3⟩:=ar b hb
 refine ⟨hk,vs,h1,h2,?_⟩
 rcases h3 with e | e
 ·rw [argH_at hb hk e,hoOf_lst] at q
  exact .inl ⟨e,(Option.some.inj q).symm⟩
 ·rw [argH_at hb hk e,hoOf_tup] at q
  exact .inr ⟨e,(Option.some.inj q).symm⟩
theorem argH_only (ar:∀ a∈A,ArgOb h A a) : OnlyF (argH K h A):=fun b=>by
 cases q:argH K h A b with
 | none=>exact .inl rfl
 | some u =>
  obtain ⟨_,vs,_,_,⟨_,e⟩ | ⟨_,e⟩⟩:=argH_is ar q
  ·exact .inr ⟨_,_,by rw [e]⟩
  ·exact .inr ⟨_,_,by rw [e]⟩
theorem argH_ok (ar:∀ a∈A,ArgOb h A a) : HOk P w (argH K h A) h:=fun b u q=>by
 obtain ⟨_,vs,h1,h2,⟨e,rfl⟩ | ⟨e,rfl⟩⟩:=argH_is ar q
 ·exact ⟨e,by rw [List.length_map];exact h1,vs,_,vals_toV h2,e⟩
 ·exact ⟨e,by rw [List.length_map];exact h1,vs,vals_toV h2,_,e,rfl,_,rfl⟩
theorem seq_inj {c c':Value} {vs us:List Value} (e:(some { cls:=c,data:=.seq vs.toArray }:Option Obj)=some { cls:=c',data:=.seq us.toArray }) : c=c'∧vs=us:=by
 have e1:=Option.some.inj e
 have e2:c=c':=congrArg Obj.cls e1
 have e3:Data.seq vs.toArray=Data.seq us.toArray:=congrArg Obj.data e1
 injection e3 with e4
 refine ⟨e2,?_⟩
 have e5:=congrArg Array.toList e4
 simpa using e5
theorem argL (KX:K.In h) (ar:∀ a∈A,ArgOb h A a) {a:Addr} {vs:List Value} (ha:a∈A) (e:h.get? a=some { cls:=.type "list",data:=.seq vs.toArray }) : (∀ u∈vs,OkU A u)∧SqL K (argH K h A) a (vs.map toV):=by
 obtain ⟨us,h1,h2,h3⟩:=ar a ha
 have hu:us=vs:=by
  rcases h3 with q | q
  ·rw [e] at q
   exact (seq_inj q).2.symm
  ·rw [e] at q
   exact absurd (Value.type.inj (seq_inj q).1) (by decide)
 subst hu
 refine ⟨h2,?_⟩
 cases hk:K.lookup a with
 | none=>exact .inl (.inr ⟨_,by rw [argH_at ha hk e,hoOf_lst]⟩)
 | some o =>
  have e2:=KX a o hk
  rw [e] at e2
  obtain rfl:=Option.some.inj e2
  exact .inr ⟨_,us.toArray,_,hk,rfl,rfl,rfl,by rw [List.size_toArray];exact h1,by simpa using vals_toV h2⟩
theorem argT (KX:K.In h) (ar:∀ a∈A,ArgOb h A a) {a:Addr} {vs:List Value} (ha:a∈A) (e:h.get? a=some { cls:=.type "tuple",data:=.seq vs.toArray }) : (∀ u∈vs,OkU A u)∧SqT K (argH K h A) a (vs.map toV):=by
 obtain ⟨us,h1,h2,h3⟩:=ar a ha
 have hu:us=vs:=by
  rcases h3 with q | q
  ·rw [e] at q
   exact absurd (Value.type.inj (seq_inj q).1) (by decide)
  ·rw [e] at q
   exact (seq_inj q).2.symm
 subst hu
 refine ⟨h2,?_⟩
 cases hk:K.lookup a with
 | none=>exact .inl (.inr ⟨_,by rw [argH_at ha hk e,hoOf_tup]⟩)
 | some o =>
  have e2:=KX a o hk
  rw [e] at e2
  obtain rfl:=Option.some.inj e2
  exact .inr ⟨_,us.toArray,_,hk,rfl,rfl,by rw [List.size_toArray];exact h1,by simpa using vals_toV h2⟩
mutual
theorem dw_one {Pm:Params} (KX:K.In h) (ar:∀ a∈A,ArgOb h A a) : ∀ (d:WData) (v:Value),Well Pm h v d→plW d=true→OkU A v→Dw K (argH K h A) (toV v) d
 | .none,_,x,_,_=>by
  cases x
  exact .non
 | .bool b,_,x,_,_=>by
  cases x
  exact .bl b
 | .int i,_,x,_,_=>by
  cases x
  exact .int i
 | .str s,_,x,_,_=>by
  cases x
  exact .str s
 | .bytes b,_,x,_,_=>by
  cases x
  have z:=Dw.byt (K:=K) (H:=argH K h A) b.toArray
  exact z
 | .list ds,_,x,p,hu=>by
  obtain ⟨a,vs,rfl,ho,hall⟩:=well_list x
  obtain ⟨h2,hs⟩:=argL KX ar hu ho
  exact .lst hs (dw_all KX ar ds _ hall p h2)
 | .tuple ds,_,x,p,hu=>by
  obtain ⟨a,vs,rfl,ho,hall⟩:=well_tuple x
  obtain ⟨h2,hs⟩:=argT KX ar hu ho
  exact .tup hs (dw_all KX ar ds _ hall p h2)
 | .float _,_,_,p,_=>Bool.noConfusion (show false=true from p)
 | .dict _,_,_,p,_=>Bool.noConfusion (show false=true from p)
 | .bytearray _,_,_,p,_=>Bool.noConfusion (show false=true from p)
 | .set _,_,_,p,_=>Bool.noConfusion (show false=true from p)
 | .frozenset _,_,_,p,_=>Bool.noConfusion (show false=true from p)
 | .obj _ _,_,_,p,_=>Bool.noConfusion (show false=true from p)
theorem dw_all {Pm:Params} (KX:K.In h) (ar:∀ a∈A,ArgOb h A a) : ∀ (ds:List WData) (vs:List Value),WellAll Pm h vs ds→plWs ds=true→(∀ u∈vs,OkU A u)→DwAll K (argH K h A) (vs.map toV) ds
 | [],_,x,_,_=>by
  cases x
  exact .nil
 | d :: ds,_,x,p,hu=>by
  obtain ⟨v,vs,rfl,x1,x2⟩:=well_cons x
  have q:plW d=true∧plWs ds=true:=Bool.and_eq_true_iff.mp p
  exact .cons (dw_one KX ar d v x1 q.1 (hu _ (List.mem_cons_self ..))) (dw_all KX ar ds vs x2 q.2 fun u m=>hu u (List.mem_cons_of_mem _ m))
end
end
theorem spec_call {P:Program} {w:World} {K:PySem.W.Frag} {mg mb:Str→Option Value} {CX:CXT} {k:Nat} {fa:Addr} {fd:FuncData} {ps:List Str} {sp:Sp} {s₁:Shared} {vals:List Value} {ds:List WData} {R:PySem.W.WRecords} {cl:Str→Option Addr} {d0:WData}
  (KX:K.In s₁.heap) (hns:s₁.heap.Ns mainGlobals mg) (hb:s₁.heap.Ns builtinsNs mb) (hbb:∀ x:Str,x ≠ "__name__"→mb x=bootBuiltins x) (hlim:s₁.heap.NoLimit) (hg:s₁.gens = #[])
  (hwl:WellAll w.params s₁.heap vals ds) (hpl:plWs ds=true) (hwt:∀ d∈ds,d.weight≤1048576) (hr:Room k callerA)
  (F:∀ base:Heap,K.In base→base.Ns mainGlobals mg→FnOk P w K mg base CX k fa fd ps sp) (hbind:∀ (s:Shared) (us:List Value),us.length=ps.length→BindsTo s fd ⟨us,[]⟩ (ps.zip us)) (hlen:ds.length=ps.length)
  (hsp:∀ (H:Hp) (xs:List V),OnlyF H→DwAll K H xs ds→sp xs H (fun v H'=>Dw K H' v d0) fun _ _ _=>False)
  (hCX:∀ H e s',CX [] H s₁ (fun _ _ _=>False) e s'→False) :
  codeAny (model P w) callerA (.call (.ref fa) ⟨vals,[]⟩) (fun r s'=>∃ u as,r=.ok (.ret u)∧ReadsW R cl s'.heap u d0 as∧OldK s₁.heap s'.heap∧s'.os=s₁.os∧AllBare s'.gens) s₁:=by
 obtain ⟨A,ho,ar⟩:=area_all ds vals hwl hpl hwt
 have hO:OnlyF (argH K s₁.heap A):=argH_only ar
 have hok:HOk P w (argH K s₁.heap A) s₁.heap:=argH_ok ar
 have hS:=dw_all KX ar ds vals hwl hpl ho
 have hV:=vals_toV ho
 have hK:∀ b u,argH K s₁.heap A b=some u→K.lookup b=none:=fun b u q=>(argH_is ar q).1
 have noA:∀ {b:Addr} {o:Obj} {es:Array DictEntry} {ep:Nat},s₁.heap.get? b=some o→o.data=.dict es ep→argH K s₁.heap A b=none:=fun {b o es ep} e d=>by
  cases q:argH K s₁.heap A b with
  | none=>rfl
  | some u =>
   obtain ⟨_,vs,_,_,⟨e2,_⟩ | ⟨e2,_⟩⟩:=argH_is ar q
   ·rw [e2] at e
    cases e
    have d':Data.seq vs.toArray _=Data.dict es ep:=d
    cases d'
   ·rw [e2] at e
    cases e
    have d':Data.seq vs.toArray _=Data.dict es ep:=d
    cases d'
 generalize argH K s₁.heap A=H at hO hok hS hK noA
 have base_of:∀ {b:Addr} {o:Obj},s₁.heap.get? b=some o→H b=none→(hidT s₁.heap H).get? b=some o:=fun e n=>hidT_get e n
 have nsK:∀ {b:Addr} {m:Str→Option Value},s₁.heap.Ns b m→(hidT s₁.heap H).Ns b m:=fun {b m} ⟨o,es,ep,e,d,r⟩=>⟨o,es,ep,base_of e (noA e d),d,r⟩
 have nK:∀ b o,K.lookup b=some o→H b=none:=fun b o e=>by
  cases q:H b with
  | none=>rfl
  | some u =>
   rw [hK b u q] at e
   cases e
 have hKb:K.In (hidT s₁.heap H):=fun b o e=>base_of (KX b o e) (nK b o e)
 have hM:Mod K mg (hidT s₁.heap H):=⟨hKb,nsK hns,⟨mb,nsK hb,hbb⟩,let ⟨mc,h1,h2⟩:=hlim;⟨mc,nsK h1,h2⟩⟩
 have e0:Env0 P w K mg (hidT s₁.heap H) callerA [] s₁ H:=⟨rfl,hM,fun b o e=>of_hidT e,Nat.le_of_eq (hidT_size _ _),trivial,fun b hb=>absurd (show b∈([] : List Addr) from hb) (by simp),hok,.of_eq hg⟩
 have hl:vals.length=ps.length:=by rw [wellAll_len hwl];exact hlen
 refine codeAny_mono ((F _ hKb (nsK hns)).run callerA [] s₁ H ⟨vals,[]⟩ vals (vals.map toV) _ _ hr e0 (hbind s₁ vals hl) hV (hsp H _ hO hS)) fun r s' x=>?_
 cases r with
 | error e=>exact (hCX H e s' x).elim
 | ok fl =>
  cases fl with
  | next=>exact False.elim x
  | brk=>exact False.elim x
  | cont=>exact False.elim x
  | ret u =>
   obtain ⟨v,H',os,bare,un,hok',r',q⟩:=x
   have kept:∀ b o,s₁.heap.get? b=some o→s'.heap.get? b=some o:=fun b o e=>by
    cases q2:H b with
    | none=>exact un.keep b o e q2 (by intro z;exact absurd (show b∈([] : List Addr) from z) (by simp)) (by simp)
    | some u2 =>
     rcases hO b with z | ⟨ob,u3,z⟩
     ·rw [q2] at z
      cases z
     ·have z2:=un.frzs b ob _ z
      obtain ⟨e1,_⟩:=hok b _ z
      obtain ⟨e2,_⟩:=hok' b _ z2
      rw [e] at e1
      cases e1
      exact e2
   have KX':K.In s'.heap:=fun b o e=>kept b o (KX b o e)
   obtain ⟨as,hrd⟩:=Dw.reads (R:=R) (cl:=cl) hok' KX' d0 v u q r'
   exact ⟨u,as,rfl,hrd,OldK.of_keep kept,os,bare⟩
theorem layable_weight {ds:List WData} (h:WData.layableAll ds=true) : ∀ d∈ds,d.weight≤1048576:=fun d hd =>
 (PySem.W.layableW_iff.mp (List.all_eq_true.mp h d hd)).2.2
theorem encAll_len :∀ (cs:List Codec) (a:Codec.denoteAll cs),(Codec.encAll cs a).length=cs.length
 | [],_=>rfl
 | c :: cs,a=>by
  show (Codec.encAll cs a.2).length+1=cs.length+1
  rw [encAll_len cs a.2]
theorem walk_spec {r:OpenSpec} {k:Nat} {q:Program} {loose:List Str} {XP:(Str→Option Value)→Heap→Prop} {YP:World→Heap→Prop} {d:DefRec} {K:Params→PySem.W.Frag} {CX:World→CXT} {ps:List Str} {sp:World→Sp}
  (hwell:r.wellSaid=true) (hdf:d.params.defaults=[]) (hlen:r.args.length=ps.length) (hr:Room k callerA)
  (hY:∀ (w:World) (h:Heap),YP w h→(K w.params).In h)
  (F:∀ (w:World) (mg:Str→Option Value) (fa:Addr) (h:Heap),YP w h→(K w.params).In h→h.Ns mainGlobals mg→mg d.name=some (.ref fa) →
   ∃ fd:FuncData,(∀ (s:Shared) (us:List Value),us.length=ps.length→BindsTo s fd ⟨us,[]⟩ (ps.zip us)) ∧
    ∀ base:Heap,(K w.params).In base→base.Ns mainGlobals mg→FnOk r.prog w (K w.params) mg base (CX w) k fa fd ps (sp w))
  (hsp:∀ (w:World) (H:Hp) (xs:List V) (a:Codec.denoteAll r.args),OnlyF H→Codec.withinAll r.args a=true→Codec.app r.args r.asked a=true→DwAll (K w.params) H xs (Codec.encAll r.args a) →
   sp w xs H (fun v H'=>Dw (K w.params) H' v (r.ret.enc (Codec.app r.args r.f a))) fun _ _ _=>False)
  (hCX:∀ (w:World) (H:Hp) (s:Shared) (e:Value) (s':Shared),CX w [] H s (fun _ _ _=>False) e s'→False) :
  PySem.W.WalkOS q loose XP YP r d [] (fun f vs=>PySem.call f vs):=by
 intro w s_0 s₁ mg mb G Y fa o pm cd doc dV kV ho hd hcd hD hmg hg args vals as hpre hlay hrd hwl hlo
 obtain ⟨a,e1,e2⟩:=PySem.W.os_pre_some hpre
 obtain ⟨e3,hwi⟩:=Codec.encAll_of_decAll r.args args a e1
 subst e3
 have KX:=hY w _ Y
 obtain ⟨fd,hb,hF⟩:=F w mg fa _ Y KX G.T.g hmg
 refine PySem.W.enter_call (codeAny_mono (spec_call (R:=[]) (cl:=classAt s_0.heap) (d0:=r.ret.enc (Codec.app r.args r.f a)) KX G.T.g G.T.b G.T.builtins G.T.nolimit hg hwl (pl_encAll _ _) (layable_weight hlay) hr hF hb (by rw [encAll_len];exact hlen)
  (fun H xs hO hS=>hsp w H xs a hO hwi e2 hS) fun H e s'=>hCX w H s₁ e s') fun r' s' hq=>?_)
 obtain ⟨u,as',rfl,h1,h2,h3,h4⟩:=hq
 exact ⟨.inl ⟨u,_,as',rfl,fun _=>rfl,h1,(OpenSpec.post_iff hwell hwi _ _).mpr rfl,fun z=>Bool.noConfusion (show false=true from z)⟩,h2,h3,h4⟩
theorem walk_specK {r:OpenSpec} {k:Nat} {q:Program} {loose:List Str} {XP:(Str→Option Value)→Heap→Prop} {YP:World→Heap→Prop} {d:DefRec} {K:Params→PySem.W.Frag} {CX:CXT} {ps:List Str} {sp:PySem.W.Frag→Sp}
  (hwell:r.wellSaid=true) (hdf:d.params.defaults=[]) (hlen:r.args.length=ps.length) (hr:Room k callerA)
  (hY:∀ (w:World) (h:Heap),YP w h→(K w.params).In h)
  (F:∀ (w:World) (mg:Str→Option Value) (fa:Addr) (h:Heap),YP w h→(K w.params).In h→h.Ns mainGlobals mg→mg d.name=some (.ref fa) →
   ∃ fd:FuncData,(∀ (s:Shared) (us:List Value),us.length=ps.length→BindsTo s fd ⟨us,[]⟩ (ps.zip us)) ∧
    ∀ base:Heap,(K w.params).In base→base.Ns mainGlobals mg→FnOk r.prog w (K w.params) mg base CX k fa fd ps (sp (K w.params)))
  (hsp:∀ (K:PySem.W.Frag) (H:Hp) (xs:List V) (a:Codec.denoteAll r.args),OnlyF H→Codec.withinAll r.args a=true→Codec.app r.args r.asked a=true→DwAll K H xs (Codec.encAll r.args a) →
   sp K xs H (fun v H'=>Dw K H' v (r.ret.enc (Codec.app r.args r.f a))) fun _ _ _=>False)
  (hCX:∀ (H:Hp) (s:Shared) (e:Value) (s':Shared),CX [] H s (fun _ _ _=>False) e s'→False) :
  PySem.W.WalkOS q loose XP YP r d [] (fun f vs=>PySem.call f vs) :=
 walk_spec (K:=K) (CX:=fun _=>CX) (sp:=fun w=>sp (K w.params)) hwell hdf hlen hr hY F (fun w H xs a h1 h2 h3 h4=>hsp (K w.params) H xs a h1 h2 h3 h4) fun _ H s e s'=>hCX H s e s'
end L2
end
end
section
namespace PgRev
open PySem PyProof.Rows
theorem owner_rev :Manifest.owners.lookup (String.ofList ['d','e','s','r','e','v','e','r'].reverse)=some Manifest.sig_reversed:=by kernel_rfl
theorem slot_next :Slot "reversed" "__next__" "reversed.__next__" :=
 .of (owner:="reversed") (n:="__next__") (by rw [typeLookup_type,builtinLookup_eq_fast];kernel_rfl) (by decide +kernel) (by decide +kernel) (by decide +kernel)
  (by first | exact .inl (by decide +kernel) | exact .inr (by decide +kernel)) (by rw [isSubtype_type];kernel_rfl)
theorem entry_next :entryFor table "reversed.__next__" = some Builtin.«reversed.__next__»:=entryFor_of_tree (by kernel_rfl)
theorem args_next_1 (a:Value) : argsOk "reversed.__next__" ⟨[a],[]⟩:=by
 unfold argsOk;rw [signature?_of (id:="reversed.__next__") (n:=['_','_','t','x','e','n','_','_']) (o:=['d','e','s','r','e','v','e','r']) (by kernel_rfl) owner_rev];kernel_rfl
theorem slot_iter :Slot "reversed" "__iter__" "reversed.__iter__" :=
 .of (owner:="reversed") (n:="__iter__") (by rw [typeLookup_type,builtinLookup_eq_fast];kernel_rfl) (by decide +kernel) (by decide +kernel) (by decide +kernel)
  (by first | exact .inl (by decide +kernel) | exact .inr (by decide +kernel)) (by rw [isSubtype_type];kernel_rfl)
theorem args_iter_1 (a:Value) : argsOk "reversed.__iter__" ⟨[a],[]⟩:=by
 unfold argsOk;rw [signature?_of (id:="reversed.__iter__") (n:=['_','_','r','e','t','i','_','_']) (o:=['d','e','s','r','e','v','e','r']) (by kernel_rfl) owner_rev];kernel_rfl
theorem entry_iter :entryFor table "reversed.__iter__" = some Builtin.«dict_keyiterator.__iter__» :=
 entryFor_alias (id':="dict_keyiterator.__iter__") (by kernel_rfl) (by first | rfl | decide +kernel | (unfold String.splitOn;simp +decide [String.splitOnAux])) (by decide +kernel) (by kernel_rfl)
theorem slot_init :Slot "reversed" "__init__" "object.__init__" :=
 .of (owner:="object") (n:="__init__") (by rw [typeLookup_type,builtinLookup_eq_fast];kernel_rfl) (by decide +kernel) (by decide +kernel) (by decide +kernel)
  (by first | exact .inl (by decide +kernel) | exact .inr (by decide +kernel)) (by rw [isSubtype_type];kernel_rfl)
theorem called :TypeCalled "reversed" "reversed.__new__" "object.__init__" :=
 ⟨by decide +kernel,by decide +kernel,⟨_,_,F.mro_reversed⟩,madeBy_type F.mro_reversed F.lookup_reversed_new (by decide +kernel),by decide +kernel,by rw [isSubtype_type];kernel_rfl,slot_init⟩
theorem no_reversed :typeLookup (.type "tuple") "__reversed__" = pure none:=by rw [typeLookup_type,builtinLookup_eq_fast];kernel_rfl
theorem sub_tuple_dict :isSubtype (.type "tuple") (.type "dict")=pure false:=by rw [isSubtype_type];kernel_rfl
noncomputable def tobj (t:Addr) (i:Int) : Obj:={ cls:=.type "reversed",data:=.fields #[.ref t,rawInt i] }
def IsTR (h:Heap) (a t:Addr) (i:Int) : Prop:=∃ o,h.get? a=some o∧o.cls=.type "reversed"∧o.data=.fields #[.ref t,rawInt i]
section
variable {prog:Program} {w:World} {A:Around} {E:Value→Shared→Prop} {s:Shared}
theorem IsTR.typeIs {a t:Addr} {i:Int} (x:IsTR s.heap a t i) : s.TypeIs (.ref a) "reversed":=let ⟨o,ho,hc,_⟩:=x;⟨o,ho,hc⟩
theorem IsTR.at {h h':Heap} {a t:Addr} {i:Int} (x:IsTR h a t i) (e:∀ o,h.get? a=some o→h'.get? a=some o) : IsTR h' a t i:=let ⟨o,ho,r⟩:=x;⟨o,e _ ho,r⟩
theorem pyIter_tr {it t:Addr} {i:Int} {Q:Value→Shared→Prop} (hit:IsTR s.heap it t i) (h:Q (.ref it) s) : wpAny (model prog w) A (pyIter (.ref it)) Q E s:=by
 refine wpAny_pyIter_slot hit.typeIs slot_iter (wpAny_call_entry slot_iter hit.typeIs entry_iter ?_ (args_iter_1 _))
 show wpAny _ _ (ret (.ref it)) _ _ s
 exact wpAny_pure ⟨_,rfl,"reversed",_,hit.typeIs,slot_next.lookup,h⟩
theorem new_tuple (t:Addr) (items:Array Value) (n:Nat) (dct:Option Addr) (sl:Array (Option Value)) (hz:items.size < 2 ^ 62) :
  MeetsIn prog w (Builtin.«reversed.__new__» ⟨[.type "reversed",.ref t],[]⟩) (fun A R s=>s.heap.get? t=some { cls:=.type "tuple",dict:=dct,data:=.seq items n,slots:=sl } ∧
   ∀ k,R (.ok (.ret (.ref s.heap.objs.size))) { s with heap:=s.heap.push (tobj t ((items.size:Int) - 1)),toks:=k }) :=
 .of_wp fun A R s h=>by
  obtain ⟨ht,h⟩:=h
  have hT:IsTup s.heap t items:=⟨_,ht,rfl,n,rfl⟩
  unfold Builtin.«reversed.__new__»
  refine wpAny_bind (wpAny_of_eq (newClass_reversed _) ?_)
  try dsimp only
  refine wpAny_bind (wpAny_of_eq (a:=()) (by first | rfl | kernel_rfl) ?_)
  refine wpAny_bind (wpAny_of_eq (a:=()) (by first | rfl | kernel_rfl) ?_)
  try dsimp only
  refine wpAny_bind (wpAny_specialOf hT.typeIs no_reversed ?_)
  try dsimp only
  refine wpAny_bind (wpAny_bind (wpAny_isInstance hT.typeIs sub_tuple_dict ?_))
  try dsimp only
  rw [if_neg Bool.false_ne_true]
  refine wpAny_bind (wpAny_specialOf hT.typeIs PySem.F.slot_tuple_getitem.lookup ?_)
  try dsimp only
  rw [if_pos (by decide +kernel)]
  refine wpAny_pure ?_
  rw [if_neg (by decide)]
  refine wpAny_bind (len_tuple hT (by omega) ?_)
  refine wpAny_bind (wpAny_of_eq (a:=some (items.size:Int)) rfl ?_)
  try dsimp only
  refine wpAny_bind ?_
  unfold Builtin.SmallTypes.newRecord
  try dsimp only
  refine wpAny_newObj_type ?_
  exact wpAny_pure ⟨_,rfl,h _⟩
theorem call_tuple {t:Addr} {items:Array Value} {Q:Value→Shared→Prop} (ht:IsTup s.heap t items) (hz:items.size < 2 ^ 62)
  (h:∀ k,Q (.ref s.heap.objs.size) { s with heap:=s.heap.push (tobj t ((items.size:Int) - 1)),toks:=k }) : wpAny (model prog w) A (call (.type "reversed") [.ref t]) Q E s:=by
 obtain ⟨⟨c,dct,dt,sl⟩,ho,hc,n,hd⟩:=ht
 replace hc:c=.type "tuple":=hc
 replace hd:dt=.seq items n:=hd
 subst hc hd
 refine callType_newIn called (by decide) (F.typeCall_reversed_1 _) (F.newCall_reversed_1 _) (fun obj=>F.args_object_init_2 obj _) F.entry_reversed_new
  (new_tuple t items n dct sl hz) ⟨ho,fun k=>?_⟩
 exact ⟨⟨_,Heap.get?_push_size _ rfl,rfl⟩,h k⟩
theorem next_item {it t:Addr} {i:Nat} {items:Array Value} {x:Value} {Q:Option Value→Shared→Prop} (hit:IsTR s.heap it t (i:Int)) (ht:IsTup s.heap t items) (hz:items.size < 2 ^ 62) (hx:items[i]? = some x)
  (hQ:∀ h' k,IsTR h' it t ((i:Int) - 1)→Heap.SameBut it s.heap h'→Q (some x) { s with heap:=h',toks:=k }) : wpAny (model prog w) A (pyNext (.ref it)) Q E s:=by
 obtain ⟨o,ho,hc,hd⟩:=id hit
 have hlt:i < items.size:=(Array.getElem?_eq_some_iff.mp hx).1
 unfold pyNext
 refine wpAny_bind (wpAny_attempt (wpAny_callSpecial?_slot (name:=Str.ofString "__next__") hit.typeIs slot_next
  (wpAny_call_entry slot_next hit.typeIs entry_next ?_ (args_next_1 _))))
 unfold Builtin.«reversed.__next__»
 refine wpAny_bind (wpAny_of_eq (a:=(Value.ref it,[])) rfl ?_)
 try dsimp only
 refine wpAny_bind (wpAny_field ho hd (x:=.ref t) rfl ?_)
 try dsimp only
 refine wpAny_bind (wpAny_field ho hd (x:=rawInt (i:Int)) rfl ?_)
 show wpAny _ _ (if (i:Int) < 0 then _ else _) _ _ s
 rw [if_neg (by omega)]
 refine wpAny_bind (wpAny_specialOf ht.typeIs PySem.F.slot_tuple_getitem.lookup ?_)
 try dsimp only
 rw [if_neg (by decide)]
 refine wpAny_bind (wpAny_mkInt ?_)
 refine wpAny_bind (wpAny_attempt (getItem_tuple (s:={ s with toks:=s.toks+1 }) ht (by omega) (by omega) (j:=i) ?_ hx ?_))
 ·unfold seqIndex?
  simp only [Int.toNat_natCast]
  first | (rw [if_neg (by omega),if_pos (by omega)]) | (simp;omega)
 try dsimp only
 refine wpAny_bind (wpAny_field (s:={ s with toks:=s.toks+1 }) ho hd (x:=rawInt (i:Int)) rfl ?_)
 show wpAny _ _ (setField (.ref it) 1 (rawInt ((i:Int) - 1)) >>= _) _ _ _
 refine wpAny_bind (wpAny_setField (s:={ s with toks:=s.toks+1 }) ho hd (by simp) ?_)
 first
 | refine wpAny_pure ⟨x,rfl,wpAny_pure (hQ _ _ ?_ (Heap.SameBut.update ..))⟩
 | refine wpAny_bind (wpAny_pure (wpAny_pure ⟨x,rfl,wpAny_pure (hQ _ _ ?_ (Heap.SameBut.update ..))⟩))
 exact ⟨_,Heap.get?_update_self _ ho (Obj.isFreed_of_fields (Obj.data_mapFields hd _)),(Obj.cls_mapFields ..).trans hc,by
  rw [Obj.data_mapFields hd];simp⟩
theorem next_end {it t:Addr} {Q:Option Value→Shared→Prop} (hh:A.handled=none) (hit:IsTR s.heap it t (-1))
  (hQ:∀ h',Heap.ExtBut it s.heap h'→Q none { s with heap:=h' }) : wpAny (model prog w) A (pyNext (.ref it)) Q E s:=by
 obtain ⟨o,ho,hc,hd⟩:=id hit
 unfold pyNext
 refine wpAny_bind (wpAny_attempt (wpAny_callSpecial?_slot (name:=Str.ofString "__next__") hit.typeIs slot_next
  (wpAny_call_entry slot_next hit.typeIs entry_next ?_ (args_next_1 _))))
 unfold Builtin.«reversed.__next__»
 refine wpAny_bind (wpAny_of_eq (a:=(Value.ref it,[])) rfl ?_)
 try dsimp only
 refine wpAny_bind (wpAny_field ho hd (x:=.ref t) rfl ?_)
 try dsimp only
 refine wpAny_bind (wpAny_field ho hd (x:=rawInt (-1)) rfl ?_)
 show wpAny _ _ (if (-1:Int) < 0 then _ else _) _ _ s
 rw [if_pos (by decide)]
 refine wpAny_bind (wpAny_rule ?_)
 refine wpAny_bind (wpAny_bind (wpAny_setField ho hd (by simp) ?_))
 have sb1:=Heap.SameBut.update s.heap it (Obj.mapFields (·.setIfInBounds 1 (rawInt (-1))))
 have g1:=Heap.get?_update_self (Obj.mapFields (·.setIfInBounds 1 (rawInt (-1)))) ho (Obj.isFreed_of_fields (Obj.data_mapFields hd _))
 have d1:=Obj.data_mapFields hd (·.setIfInBounds 1 (rawInt (-1)))
 refine wpAny_setField (s:={ s with heap:=_ }) g1 d1 (by simp) ?_
 have sb2:=Heap.SameBut.update (s.heap.update it (Obj.mapFields (·.setIfInBounds 1 (rawInt (-1))))) it (Obj.mapFields (·.setIfInBounds 0 Value.none))
 have eb:Heap.ExtBut it s.heap ((s.heap.update it (Obj.mapFields (·.setIfInBounds 1 (rawInt (-1))))).update it (Obj.mapFields (·.setIfInBounds 0 Value.none))) :=
  fun b ob hb e=>sb2.extBut b ob hb (sb1.extBut b ob hb e)
 refine wpAny_bind ?_
 show wpAny _ _ (newExc (.type "StopIteration") [] >>= _) _ _ _
 refine wpAny_bind ?_
 simp only [newExc,newTuple]
 refine wpAny_bind (wpAny_newObj_type ?_ (by size_fits))
 refine wpAny_bind (m:=firstArgMember _ _) (wpAny_of_eq (a:=Value.none) (by first | rfl | (simp only [firstArgMember];rfl)) ?_)
 refine wpAny_newObj_type ?_ (by size_fits)
 simp only [raiseNew]
 refine wpAny_bind (wpAny_handled ?_)
 first | rw [show A.in1.handled=none from hh] | rw [hh]
 refine wpAny_bind (wpAny_pure (wpAny_throw ?_))
 refine wpAny_bind (wpAny_isInstance (T:="StopIteration") (b:=true) ⟨_,Heap.get?_push_size _ rfl,rfl⟩ isSubtype_stop ?_)
 exact wpAny_pure (hQ _ ((eb.push _).push _))
end
end PgRev
end
section
namespace L2
open PySem PySem.Spec PyProof.Rows
section
variable {X:Cx} {o i e f:Expr} {pos apos cpos:Pos} {ty tx:TE} {a:Addr} {kvs:List (Key × V)}
theorem pe_gint {x:Str} {n:Int} {pos:Pos} (hg:Gl X x) (h:∃ t,X.mg x=some (.int n t)) (hd:(x == ("__debug__" : Str))=false:=by decide) : PE X (.Name x pos) (tC (.int n)):=by
 obtain ⟨t,h⟩:=h
 exact pe_glob hg h ⟨t,rfl⟩ hd
structure GD (K:PySem.W.Frag) (P:Program) (w:World) (a:Addr) (kvs:List (Key × V)) : Prop where
 nm:(a == sysModules)=false
 ex:∃ vs,KV kvs vs∧∀ h:Heap,K.In h→h.DictOf (mixKind P w) a vs
def tGGet (kvs:List (Key × V)) (ty:TE) : TE:=fun σ H Q=>ty σ H fun y H1=>∃ k v,y=kV k∧valV kvs k=some v∧Q v H1
def tGNotIn (kvs:List (Key × V)) (ty:TE) : TE:=fun σ H Q=>ty σ H fun y H1=>∃ k,y=kV k∧Q (.bl (!(valV kvs k).isSome)) H1
def tGGet2 (kvs:List (Key × V)) (ty tx:TE) : TE:=fun σ H Q=>ty σ H fun y H1=>tx σ H1 fun z H2=>∃ k,y=kV k∧Q ((valV kvs k).getD z) H2
theorem pe_gget (g:GD X.K X.prog X.w a kvs) (ho:PE X o (tC (.ref a))) (hi:PE X i ty) (hs:NoSl i) : PE X (.Subscript o i pos) (tGGet kvs ty):=by
 intro pins s σ H Q I h
 refine subD_of PySem.F.slot_dict_getitem.lookup hs (thn (ho pins s σ H (fun x H1=>x=.ref a∧H1=H) I ⟨rfl,rfl⟩) fun u s1 ⟨x,H1,I1,rx,ex,eH⟩=>?_)
 subst ex eH
 obtain rfl:u=Value.ref a:=rx
 refine thn (hi pins s1 σ H1 _ I1 h) fun iv s2 ⟨y,H2,I2,ry,k,v,ey,l,q2⟩=>?_
 subst ey
 obtain ⟨vs,rel,hd⟩:=g.ex
 have dd:=hd _ I2.kIn
 obtain ⟨w',hw,rw'⟩:=RelO.some_of (v:=v) (o:=valueAt vs k) (by rw [←l];exact rel.val k)
 exact ⟨dd.typeIs,wpAny_getItem_of (kV_is ry) dd.mapOf hw ⟨v,H2,I2.tok _,rw',q2⟩⟩
theorem pc_gnotin (g:GD X.K X.prog X.w a kvs) (hi:PE X i ty) (ho:PE X o (tC (.ref a))) : PC X .NotIn i o (tGNotIn kvs ty):=by
 intro pins s σ H Q I h
 refine thn (hi pins s σ H _ I h) fun iv s1 ⟨y,H1,I1,ry,k,ey,q1⟩=>thn (ho pins s1 σ H1 (fun x H2=>x=.ref a∧H2=H1) I1 ⟨rfl,rfl⟩) fun u s2 ⟨x,H2,I2,rx,ex,eH⟩=>?_
 subst ex eH ey
 obtain rfl:u=Value.ref a:=rx
 obtain ⟨vs,rel,hd⟩:=g.ex
 have dd:=hd _ I2.kIn
 refine wpAny_notIn_of (kV_is ry) g.nm dd.mapOf ?_
 rw [←(rel.val k).isSome_eq]
 exact ⟨.bl _,H2,I2.tok _,rfl,q1⟩
theorem pe_gget2 (g:GD X.K X.prog X.w a kvs) (ho:PE X o (tC (.ref a))) (he:PE X e ty) (hf:PE X f tx) (m:M2 X o "get" apos e f cpos) : PE X (.Call (.Attribute o "get" apos) [e,f] [] cpos) (tGGet2 kvs ty tx):=by
 intro pins s σ H Q I h
 refine wpAny_Call_method m.base m.few m.line PySem.F.plainAttrs_dict PySem.F.slot_dict_get PySem.F.type_dict_get (thn (ho pins s σ H (fun x H1=>x=.ref a∧H1=H) I ⟨rfl,rfl⟩) fun u s1 ⟨x,H1,I1,rx,ex,eH⟩=>?_)
 subst ex eH
 obtain rfl:u=Value.ref a:=rx
 obtain ⟨vs,rel,hd⟩:=g.ex
 have dd:=hd _ I1.kIn
 refine ⟨dd.typeIs,(fun b q=>by cases q;obtain ⟨ob,_,_,h1,h2,_⟩:=dd;exact ⟨ob,h1,h2.2.1⟩),?_⟩
 rw [m.trees]
 refine Calls.callWith_builtin rfl (Calls.evalArgs_plain (Calls.spliced_cons (thn (he pins s1 σ H1 _ I1 h) fun iv s2 ⟨y,H2,I2,ry,q2⟩ =>
  Calls.spliced_cons (thn (hf pins s2 σ H2 _ I2 q2) fun fv s3 ⟨z,H3,I3,rz,k,ey,q3⟩=>Calls.spliced_nil ?_))))
 subst ey
 have d3:=hd _ I3.kIn
 refine call_meetsIn PySem.F.slot_dict_get d3.typeIs PySem.F.entry_dict_get (PySem.F.args_dict_get_3 _ _ _) (meets_dict_get_default (mixKind X.prog X.w) a (kV_is ry) g.nm fv) ⟨_,d3.mapOf,?_⟩
 exact ⟨_,H3,I3.tok _,(rel.val k).getD rz,q3⟩
end
def ItvT (K:PySem.W.Frag) (a:Addr) (n:Nat) : It :=
 ⟨fun i H=>i < n∧∃ (xs:List V) (x:V),SqT K H a xs∧xs[n - 1 - i]? = some x,fun i H x H'=>H'=H∧∀ xs,SqT K H a xs→xs[n - 1 - i]? = some x,fun i _=>n≤i⟩
theorem turn_revT {P:Program} {w:World} {K:PySem.W.Frag} {tg:Expr} (a it:Addr) (n:Nat) : Turn P w K tg (ItvT K a n) [it] it (fun i h=>i≤n∧PgRev.IsTR h it a ((n:Int) - 1 - (i:Nat))) where
 mem:=by simp
 obj:=fun i h st b hb=>by
  have e:b=it:=by simpa using hb
  subst e
  obtain ⟨_,o,e,c,d⟩:=st
  exact ⟨o,e,fun v z=>by rw [d] at z;cases z⟩
 keep:=fun i h h' st k=>⟨st.1,st.2.at fun o e=>k it (by simp) o e⟩
 item:=by
  intro X hP hw hK hc i pins s σ H E I hf st hg
  subst hP hw hK
  obtain ⟨hin,xs,x,hq,hx⟩:=hg
  obtain ⟨its,rv,p,hz⟩:=I.tuple hq
  obtain ⟨u,hu,ru⟩:=rv.get hx
  obtain ⟨f0,f1,f2,f3,f4,f5⟩:=hf it (by simp)
  obtain ⟨_,hit⟩:=st
  have e1:(n:Int) - 1 - ((i:Nat) : Int)=((n - 1 - i:Nat) : Int):=by omega
  rw [e1] at hit
  have hs:its.toArray.size < 2 ^ 62:=by
   have:=rv.length
   simp only [List.size_toArray]
   rw [sizeLine_eq] at hz
   omega
  refine PgRev.next_item hit p hs (x:=u) (by simpa using hu) fun h' k st' sb=>?_
  have e2:((n - 1 - i:Nat) : Int) - 1=(n:Int) - 1 - ((i+1:Nat) : Int):=by omega
  rw [e2] at st'
  have I1:Inv X pins σ H { s with heap:=h',toks:=k }:=I.turned (t':=k) (fun b o hb e=>(sb.2 b hb).trans e) f0 f1 f3 f4 f5
  obtain ⟨o,e,c,d⟩:=id st'
  exact ⟨u,rfl,go_of (s:={ s with heap:=h',toks:=k }) e c d (by decide) ⟨x,H,I1,ru,⟨rfl,fun ys hy=>by rw [I.tuple_inj hy hq];exact hx⟩,⟨hin,st'⟩,fun b hb=>(hf b hb).1⟩⟩
 done:=by
  intro X hP hw hK hc i pins s σ H E I hf st hg
  subst hP hw hK
  obtain ⟨f0,f1,f2,f3,f4,f5⟩:=hf it (by simp)
  obtain ⟨hin,hit⟩:=st
  have hge:n≤i:=hg
  have e1:(n:Int) - 1 - ((i:Nat) : Int) = -1:=by omega
  rw [e1] at hit
  exact PgRev.next_end (I.ok.hd hc) hit fun h' eb=>⟨rfl,I.turned (t':=s.toks) (fun b o hb e=>eb b o hb e) f0 f1 f3 f4 f5⟩
 self:=fun A i s Q E st h=>PgRev.pyIter_tr st.2 h
def iRevT (K:PySem.W.Frag) (ta:TA) : TI:=fun σ H R=>ta σ H fun vs H1=>∃ (a:Addr) (xs:List V),vs=[.ref a]∧SqT K H1 a xs∧R (ItvT K a xs.length) H1
section
variable {X:Cx} {tg:Expr}
theorem pi_reversedT {e:Expr} {ta:TA} {p pos:Pos} (hg:Gl X "reversed") (hm:X.mg "reversed" = none) (ha:PA X [e] ta) (hs:starEach [e] X.env=[(false,eval e X.env)]:=by rfl) : PI X tg (.Call (.Name "reversed" p) [e] [] pos) (iRevT X.K ta):=by
 intro pins s σ H R I h
 refine Call_ (ld_blt I hg hm boot_reversed5 (PyProof.Rows.callWith_type1 (thn (ha pos pins s σ H _ I h) fun us s1 ⟨vs,H1,I1,r1,q1⟩=>?_) hs rfl))
 obtain ⟨a,xs,e,hq,q⟩:=q1
 subst e
 cases r1 with
 | cons r rr =>
  cases rr
  cases r
  obtain ⟨its,rv,p',hz⟩:=I1.tuple hq
  have hl:=rv.length
  have hs:its.toArray.size < 2 ^ 62:=by
   simp only [List.size_toArray]
   rw [sizeLine_eq] at hz
   omega
  have e1:((its.toArray.size:Nat) : Int) - 1=(xs.length:Int) - 1 - ((0:Nat) : Int):=by simp only [List.size_toArray];omega
  refine PgRev.call_tuple p' hs fun k=>PgRev.pyIter_tr (t:=a) (i:=((its.toArray.size:Nat) : Int) - 1) ⟨_,Heap.get?_push_size _ rfl,rfl,rfl⟩ ?_
  refine pi_one (tk:=k) I1 _ (turn_revT a _ xs.length) ⟨Nat.zero_le _,?_⟩ q
  rw [←e1]
  exact ⟨_,Heap.get?_push_size _ rfl,rfl,rfl⟩
end
inductive EntOk (w:World) : List DictEntry→List (Key × V)→Prop
 | nil:EntOk w [] []
 | cons {e:DictEntry} {k:Key} {v:V} {es:List DictEntry} {kvs:List (Key × V)}:keyIs k e.key=true→e.hash=keyH w k→RelV v e.val→EntOk w es kvs→EntOk w (e :: es) ((k,v) :: kvs)
theorem EntOk.keys {w:World} {es:List DictEntry} {kvs:List (Key × V)} (h:EntOk w es kvs) : ∀ e∈es,∃ k,keyIs k e.key=true∧e.hash=keyH w k:=by
 induction h with
 | nil=>intro e he;cases he
 | cons h1 h2 _ _ ih =>
  intro e he
  rcases List.mem_cons.mp he with rfl | he
  ·exact ⟨_,h1,h2⟩
  ·exact ih e he
theorem EntOk.pairs {P:Program} {w:World} {es:List DictEntry} {kvs:List (Key × V)} (h:EntOk w es kvs) : ∃ vs,KV kvs vs∧Pairs (mixKind P w) es vs∧vs.map (·.1)=kvs.map (·.1):=by
 induction h with
 | nil=>exact ⟨[],.nil,.nil,rfl⟩
 | @cons e k v es kvs h1 h2 h3 _ ih =>
  obtain ⟨vs,a,b,c⟩:=ih
  exact ⟨(k,e.val) :: vs,.cons ⟨rfl,h3⟩ a,.cons h1 rfl b,by simp [c]⟩
theorem gd_mk {P:Program} {w:World} {K:PySem.W.Frag} {a:Addr} {kvs:List (Key × V)} {n:Nat} {es:List DictEntry} (l:K.lookup a=some ⟨.type "dict",none,.dict es.toArray n,#[]⟩)
  (nm:(a == sysModules)=false) (h:EntOk w es kvs) (nd:(kvs.map (·.1)).Nodup) : GD K P w a kvs:=by
 obtain ⟨vs,r,p,e⟩:=h.pairs (P:=P)
 refine ⟨nm,vs,r,fun hp X=>⟨_,_,_,X a _ l,⟨rfl,rfl,rfl⟩,rfl,?_,by simpa using p,by rw [e];exact nd⟩⟩
 intro x hx
 exact h.keys x (by simpa using hx)
theorem sqT_mk {K:PySem.W.Frag} {a:Addr} {xs:List V} {its:List Value} {n:Nat} {d:Option Addr} {sl:Array (Option Value)} (l:K.lookup a=some ⟨.type "tuple",d,.seq its.toArray n,sl⟩) (hz:its.length≤sizeLine) (r:Vals xs its) (H:Hp) : SqT K H a xs :=
 .inr ⟨_,_,_,l,rfl,rfl,by simpa using hz,by simpa using r⟩
theorem cxK {CX:CXT} {P:Program} {w:World} {K:PySem.W.Frag} {mg:Str→Option Value} {base:Heap} {N:List Str} {qual:Str} {scope:Scope} {f:Addr} {cd:Value} {A:Around} {outer:List Env} {s:Shared} {H:Hp} {E:XK}:(cxOf CX P w K mg base N qual scope f cd A outer s H E).K=K:=rfl
end L2
end
section
namespace L2
open PySem PySem.Spec PyProof.Rows
section
variable {X:Cx} {o i e f:Expr} {pos apos cpos:Pos} {td ty tx:TE}
theorem pe_gref {x:Str} {a:Addr} {pos:Pos} (hg:Gl X x) (h:X.mg x=some (.ref a)) (hd:(x == ("__debug__" : Str))=false:=by decide) : PE X (.Name x pos) (tC (.ref a)):=pe_glob hg h rfl hd
def CShl (i j:Int) : Prop:=0≤j∧j≤1000000∧∃ k,k≤1000000∧i.natAbs < 2 ^ k
theorem op_shlB :OpR X (binaryOp .LShift) (rI CShl fun i j=>.int (i*2 ^ j.toNat)):=opI fun _ _ _ _ _ _ _ hc q=>by
 obtain ⟨h0,h1,k,hk,hb⟩:=hc
 have:=PySem.intBits_le_iff.mpr hb
 exact lshift_int h0 (by omega) q
theorem ip_or :PIp X .BitOr (ipI fun i j=>Builtin.bitOr i j):=by
 intro pins s σ H x y v u Q I r1 r2 h
 obtain ⟨i,rfl,h2⟩:=onI_e.mp h
 obtain ⟨j,rfl,q⟩:=onI_e.mp h2
 obtain ⟨t,rfl⟩:=r1
 obtain ⟨t',rfl⟩:=r2
 exact ior_int ⟨.int _,H,I.tok _,⟨_,rfl⟩,q⟩
theorem ip_and :PIp X .BitAnd (ipI fun i j=>Builtin.bitAnd i j):=by
 intro pins s σ H x y v u Q I r1 r2 h
 obtain ⟨i,rfl,h2⟩:=onI_e.mp h
 obtain ⟨j,rfl,q⟩:=onI_e.mp h2
 obtain ⟨t,rfl⟩:=r1
 obtain ⟨t',rfl⟩:=r2
 exact iand_int ⟨.int _,H,I.tok _,⟨_,rfl⟩,q⟩
theorem paired_ix {α β:Type} {F:α→β→Prop}:∀ {l:List α} {r:List β},l.length=r.length→(∀ (j:Nat) a b,l[j]? = some a→r[j]? = some b→F a b)→Paired F l r
 | [],[],_,_=>.nil
 | a :: l,b :: r,h,f=>.cons (f 0 a b rfl rfl) (paired_ix (by simpa using h) fun j a b h1 h2=>f (j+1) a b (by simpa using h1) (by simpa using h2))
 | [],_ :: _,h,_=>by simp at h
 | _ :: _,[],h,_=>by simp at h
theorem kV_of {P:Program} {w:World} {k:Key} {u:Value} (h:(mixKind P w).is k u=true) : RelV (kV k) u:=by
 rcases keyIs_shape h with ⟨i,t,rfl,rfl⟩ | ⟨x,t,rfl,rfl⟩ <;> exact ⟨t,rfl⟩
theorem call_listD (hcalm:X.calm=true) : CallR X (.type "list") (fun xs H Q=>∃ a kvs,xs=[V.ref a]∧H a=some (.dK kvs)∧∀ l,H l=none→Q (.ref l) (upd H l (.lst (kvs.map fun kv=>kV kv.1)))):=by
 intro pins s σ H xs us Q I r h
 obtain ⟨a,kvs,rfl,ha,q⟩:=h
 obtain ⟨u,rfl,ru⟩:=vals1 r
 cases ru
 obtain ⟨z,hd,vs,rel,dd⟩:=dk_of I.hok ha
 obtain ⟨ep,hat⟩:=dd.dictAt
 refine PySem.W.kdl_call (PySem.W.kdl_dict (knd:=mixKind X.prog X.w) (kvs:=vs) (ep:=ep) hd) (I.ok.hd hcalm) hat (by rw [←rel.length];exact z) fun h' tk acc c' hk hS hacc=>?_
 have hl:vs.length=kvs.length:=rel.length.symm
 have rv:Vals (kvs.map fun kv=>kV kv.1) acc.toList:=by
  refine paired_ix ?_ ?_
  ·have:=hacc.1
   simp;omega
  ·intro j x u hx hu
   rw [List.getElem?_map] at hx
   obtain ⟨k,w',hv,hk⟩:=hacc.2 j u (by rw [←Array.getElem?_toList];exact hu)
   cases e:kvs[j]? with
   | none=>rw [e] at hx;cases hx
   | some kv =>
    rw [e] at hx
    cases hx
    have h1:(kvs.map (·.1))[j]? = some kv.1:=by rw [List.getElem?_map,e];rfl
    rw [rel.keys,List.getElem?_map,hv] at h1
    cases h1
    exact kV_of hk
 exact ⟨.ref s.heap.objs.size,_,I.laid (a:=s.heap.objs.size) (o:=.lst (kvs.map fun kv=>kV kv.1)) (t':=tk) hk (Nat.le_refl _) ⟨by rw [List.length_map];exact z,acc.toList,c',rv,by rw [Array.toArray_toList];exact hS⟩,rfl,q _ (I.hok.fresh (Nat.le_refl _))⟩
theorem call_dictD :CallR X (.type "dict") (fun xs H Q=>∃ a kvs,xs=[V.ref a]∧H a=some (.dK kvs)∧∀ l,H l=none→Q (.ref l) (upd H l (.dK kvs))):=by
 intro pins s σ H xs us Q I r h
 obtain ⟨a,kvs,rfl,ha,q⟩:=h
 obtain ⟨u,rfl,ru⟩:=vals1 r
 cases ru
 obtain ⟨z,hd,vs,rel,dd⟩:=dk_of I.hok ha
 refine PySem.kt_call_dict (knd:=mixKind X.prog X.w) hd dd (by rw [←rel.length];exact z) fun h' dd' sb=>?_
 have hm:(s.heap.objs.size == sysModules)=false:=beq_eq_false_iff_ne.mpr (Nat.ne_of_gt I.big)
 exact ⟨.ref s.heap.objs.size,_,I.laid (a:=s.heap.objs.size) (o:=.dK kvs) (t':=s.toks) (fun b ob e=>(sb.2 b (Nat.ne_of_lt (Heap.lt_size e))).trans (Heap.get?_push_of_some _ e)) (Nat.le_refl _) ⟨z,hm,vs,rel,dd'⟩,rfl,q _ (I.hok.fresh (Nat.le_refl _))⟩
def tDSet (td ty tx:TE) : TE:=fun σ H Q=>td σ H fun x H1=>∃ a,x=.ref a∧IsD H1 a∧ty σ H1 fun y H2=>tx σ H2 fun z H3=>∃ kvs k,H3 a=some (.dK kvs)∧y=kV k∧kvs.length < sizeLine ∧
 (∀ v,valV kvs k=some v→Q v H3)∧(valV kvs k=none→Q z (upd H3 a (.dK (putK kvs k z))))
theorem pe_dsetdef (ho:PE X o td) (he:PE X e ty) (hf:PE X f tx) (m:M2 X o "setdefault" apos e f cpos) : PE X (.Call (.Attribute o "setdefault" apos) [e,f] [] cpos) (tDSet td ty tx):=by
 intro pins s σ H Q I h
 refine wpAny_Call_method m.base m.few m.line PySem.F.plainAttrs_dict PySem.F.slot_dict_setdefault PySem.F.type_dict_setdefault (thn (ho pins s σ H _ I h) fun u s1 ⟨x,H1,I1,rx,z⟩=>?_)
 obtain ⟨a,rfl,d,q1⟩:=z
 obtain rfl:u=Value.ref a:=rx
 obtain ⟨t1,t2,_⟩:=isD_at I1 d
 refine ⟨t1,t2,?_⟩
 rw [m.trees]
 refine Calls.callWith_builtin rfl (Calls.evalArgs_plain (Calls.spliced_cons (thn (he pins s1 σ H1 _ I1 q1) fun iv s2 ⟨y,H2,I2,ry,q2⟩ =>
  Calls.spliced_cons (thn (hf pins s2 σ H2 _ I2 q2) fun fv s3 ⟨z,H3,I3,rz,y⟩=>Calls.spliced_nil ?_))))
 obtain ⟨kvs,k,ea,rfl,hz,q3,q4⟩:=y
 obtain ⟨z0,hd,vs,rel,dd⟩:=dk_of I3.hok ea
 have rk:=rel.val k
 refine call_meetsIn PySem.F.slot_dict_setdefault dd.typeIs PySem.F.entry_dict_setdefault (PySem.F.args_dict_setdefault_3 _ _ _) (PySem.kt_meets_setdefault (mixKind X.prog X.w) a (kV_is ry) hd fv) ⟨vs,dd,by rw [←rel.length];exact z0,fun v hv=>?_,fun hn h' dd' hs=>?_⟩
 ·rw [hv] at rk
  cases l:valV kvs k with
  | none=>rw [l] at rk;exact rk.elim
  | some v0=>rw [l] at rk;exact ⟨v0,H3,I3.tok _,rk,q3 v0 l⟩
 ·rw [hn] at rk
  cases l:valV kvs k with
  | some v0=>rw [l] at rk;exact rk.elim
  | none =>
   have he:∃ q,h'.get? a=some q:=let ⟨q,_,_,hq,_⟩:=dd';⟨q,hq⟩
   have hl:(putK kvs k z).length≤sizeLine:=by have:=length_putK kvs k z;omega
   exact ⟨z,_,d_write I3 (by rw [ea];exact True.intro) hs he (dk_new hl hd (rel.put k rz) dd'),rz,q4 l⟩
end
def Kp (xs:List Addr) (H H':Hp) : Prop:=∀ b o,H b=some o→b∉xs→H' b=some o
theorem Kp.refl {xs:List Addr} (H:Hp) : Kp xs H H:=fun _ _ h _=>h
theorem Kp.trans {xs:List Addr} {H H1 H2:Hp} (a:Kp xs H H1) (b:Kp xs H1 H2) : Kp xs H H2:=fun c o h n=>b c o (a c o h n) n
theorem Kp.mono {xs ys:List Addr} {H H':Hp} (a:Kp xs H H') (h:∀ b,b∈xs→b∈ys) : Kp ys H H':=fun c o e n=>a c o e fun m=>n (h c m)
theorem Kp.of {xs:List Addr} {H H':Hp} (a:Kp [] H H') : Kp xs H H':=a.mono fun _ h=>nomatch h
theorem Kp.new {xs:List Addr} {H H':Hp} {a:Addr} {o:HO} (k:Kp xs H H') (h:H' a=none) : Kp xs H (upd H' a o):=fun b u e n=>by
 have:=k b u e n
 rw [upd_ne (ne_of_none this h)]
 exact this
theorem Kp.set {xs:List Addr} {H H':Hp} {a:Addr} {o:HO} (k:Kp xs H H') (h:a∈xs) : Kp xs H (upd H' a o):=fun b u e n=>by
 rw [upd_ne fun z=>n (by rw [z];exact h)]
 exact k b u e n
theorem Kp.young {xs:List Addr} {H H':Hp} {a:Addr} {o:HO} (k:Kp xs H H') (h:H a=none) : Kp xs H (upd H' a o):=fun b u e n=>by
 rw [upd_ne (ne_of_none e h)]
 exact k b u e n
theorem Kp.free {xs:List Addr} {H H':Hp} {a:Addr} (k:Kp xs H H') (h:H' a=none) (n:a∉xs) : H a=none:=by
 cases e:H a with
 | none=>rfl
 | some o=>rw [k a o e n] at h;cases h
theorem upd_old {H:Hp} {a b:Addr} {o u:HO} (h:H b=some u) (n:H a=none) : upd H a o b=some u:=by rw [upd_ne (ne_of_none h n)];exact h
theorem Kp.sqL {K:PySem.W.Frag} {H H':Hp} {a:Addr} {xs:List V} (e:Kp [] H H') (h:SqL K H a xs) : SqL K H' a xs:=by
 rcases h with (h | ⟨o,h⟩) | h
 ·exact .inl (.inl (e _ _ h (by simp)))
 ·exact .inl (.inr ⟨o,e _ _ h (by simp)⟩)
 ·exact .inr h
structure Turns (J:It) (H0:Hp) (n:Nat) (Im:Nat→V→Hp→Prop) : Prop where
 go:∀ i H,i < n→Kp [] H0 H→J.go i H
 yld:∀ i H x H',i < n→Kp [] H0 H→J.yld i H x H'→Kp [] H H'∧Im i x H'
 stop:∀ H,Kp [] H0 H→J.stop n H
theorem turns_range {lo:Int} {n:Nat} {H0:Hp}:Turns (Itr lo n) H0 n fun i x _=>x=.int (lo+i) :=
 ⟨fun _ _ h _=>h,fun _ _ _ _ _ _ h=>by obtain ⟨rfl,h⟩:=h;exact ⟨Kp.refl _,h⟩,fun _ _=>Nat.le_refl _⟩
theorem turns_list {K:PySem.W.Frag} {a:Addr} {xs:List V} {H0:Hp} (h:SqL K H0 a xs) : Turns (Itl K a) H0 xs.length fun i x _=>xs[i]? = some x :=
 ⟨fun i H hi k=>⟨xs,xs[i],k.sqL h,by simp [hi]⟩,fun i H x H' hi k y=>by obtain ⟨rfl,y⟩:=y;exact ⟨Kp.refl _,y xs (k.sqL h)⟩,fun H k=>⟨xs,k.sqL h,Nat.le_refl _⟩⟩
theorem turns_enum {K:PySem.W.Frag} {a:Addr} {xs:List V} {H0:Hp} (h:SqL K H0 a xs) : Turns (Ite K a) H0 xs.length fun i x H=>∃ T y,x=.ref T∧H T=some (.tup [.int (i:Nat),y])∧xs[i]? = some y :=
 ⟨fun i H hi k=>⟨xs,xs[i],k.sqL h,by simp [hi]⟩,fun i H x H' hi k y=>by
  obtain ⟨T,z,rfl,hT,rfl,y⟩:=y
  exact ⟨(Kp.refl _).new hT,T,z,rfl,upd_same,y xs (k.sqL h)⟩,fun H k=>⟨xs,k.sqL h,Nat.le_refl _⟩⟩
theorem turns_zip {K:PySem.W.Frag} {a b:Addr} {xs ys:List V} {H0:Hp} (h:SqL K H0 a xs) (h':SqL K H0 b ys) (e:xs.length=ys.length) : Turns (Itz K a b) H0 xs.length fun i x H=>∃ T y z,x=.ref T∧H T=some (.tup [y,z])∧xs[i]? = some y∧ys[i]? = some z :=
 ⟨fun i H hi k=>⟨xs,ys,xs[i],ys[i],k.sqL h,k.sqL h',by simp [hi],by simp [←e,hi]⟩,fun i H x H' hi k y=>by
  obtain ⟨T,y,z,rfl,hT,rfl,h1,h2⟩:=y
  exact ⟨(Kp.refl _).new hT,T,y,z,rfl,upd_same,h1 xs (k.sqL h),h2 ys (k.sqL h')⟩,fun H k=>⟨xs,ys,k.sqL h,k.sqL h',.inl (Nat.le_refl _)⟩⟩
theorem filter_succ {p:Nat→Bool} {n:Nat} {α:Type} {f:Nat→α}:((List.range (n+1)).filter p).map f=((List.range n).filter p).map f ++ if p n=true then [f n] else []:=by
 rw [List.range_succ,List.filter_append,List.map_append]
 by_cases h:p n=true <;> simp [h]
theorem lc_if {J:It} {n:Nat} {Im:Nat→V→Hp→Prop} {g:TG} {tt:TT} {te:TE} {vs:List Nat} {σ:St} {H1:Hp} {D:Addr} {Qd:Hp→Prop} (t:Turns J H1 n Im) (hD:H1 D=none) (hn:n < sizeLine) (p:Nat→Bool) (f:Nat→V)
  (hs:∀ i x H (Q:VK) (N:Hp→Prop),i < n→Im i x H→Kp [] H1 H→(p i=true→∀ H',Kp [] H H'→Q (f i) H')→(p i=false→∀ H',Kp [] H H'→N H') →
   g x (wipe σ vs) H fun σ2 H2=>wipe σ2 vs=wipe σ vs∧tt σ2 H2 fun b H3=>if b=true then te σ2 H3 Q else N H3)
  (hd:∀ H,Kp [] H1 H→H D=some (.lst (((List.range n).filter p).map f))→Qd H) :
  ∃ W:Nat→Nat→Hp→Prop,(∃ m,W 0 m (upd H1 D (.lst [])))∧∀ i m H,W i m H →
   (J.stop i H∧Qd H)∨(J.go i H∧∃ Nx:Hp→Prop,(∀ H',Nx H'→∃ m',m' < m∧W (i+1) m' H')∧∀ x H',J.yld i H x H'→g x (wipe σ vs) H' fun σ2 H2=>wipe σ2 vs=wipe σ vs∧tt σ2 H2 fun b H3 =>
    if b=true then te σ2 H3 fun y H4=>∃ acc,H4 D=some (.lst acc)∧acc.length < sizeLine∧Nx (upd H4 D (.lst (acc ++ [y]))) else Nx H3):=by
 refine ⟨fun i m H=>m=n - i∧i≤n∧Kp [] H1 H∧H D=some (.lst (((List.range i).filter p).map f)),⟨n,by simp,Nat.zero_le _,(Kp.refl _).young hD,upd_same⟩,?_⟩
 rintro i m H ⟨rfl,hi,k,hl⟩
 by_cases hlt:i < n
 ·refine .inr ⟨t.go i H hlt k,fun H=>Kp [] H1 H∧H D=some (.lst (((List.range (i+1)).filter p).map f)),fun H' q=>⟨n - (i+1),by omega,rfl,hlt,q⟩,fun x H' y=>?_⟩
  obtain ⟨k1,im⟩:=t.yld i H x H' hlt k y
  refine hs i x H' _ _ hlt im (k.trans k1) (fun hp H4 k4=>?_) (fun hp H4 k4=>?_)
  ·have hl4:=k4 D _ (k1 D _ hl (by simp)) (by simp)
   refine ⟨_,hl4,?_,((k.trans k1).trans k4).young hD,?_⟩
   ·have:=List.length_filter_le p (List.range i)
    rw [List.length_range] at this
    rw [List.length_map];omega
   ·rw [upd_same,filter_succ,if_pos hp]
  ·refine ⟨(k.trans k1).trans k4,?_⟩
   rw [filter_succ,if_neg (by rw [hp];simp),List.append_nil]
   exact k4 D _ (k1 D _ hl (by simp)) (by simp)
 ·have e:i=n:=by omega
  subst e
  exact .inl ⟨t.stop H k,hd H k hl⟩
theorem lc_all {J:It} {n:Nat} {Im:Nat→V→Hp→Prop} {g:TG} {te:TE} {vs:List Nat} {σ:St} {H1:Hp} {D:Addr} {Qd:Hp→Prop} (t:Turns J H1 n Im) (hD:H1 D=none) (hn:n < sizeLine) (f:Nat→V)
  (hs:∀ i x H (Q:VK),i < n→Im i x H→Kp [] H1 H→(∀ H',Kp [] H H'→Q (f i) H')→g x (wipe σ vs) H fun σ2 H2=>wipe σ2 vs=wipe σ vs∧te σ2 H2 Q)
  (mono:∀ x σ H (Q Q':St→Hp→Prop),(∀ s h,Q s h→Q' s h)→g x σ H Q→g x σ H Q')
  (hd:∀ H,Kp [] H1 H→H D=some (.lst ((List.range n).map f))→Qd H) :
  ∃ W:Nat→Nat→Hp→Prop,(∃ m,W 0 m (upd H1 D (.lst [])))∧∀ i m H,W i m H →
   (J.stop i H∧Qd H)∨(J.go i H∧∃ Nx:Hp→Prop,(∀ H',Nx H'→∃ m',m' < m∧W (i+1) m' H')∧∀ x H',J.yld i H x H'→g x (wipe σ vs) H' fun σ2 H2=>wipe σ2 vs=wipe σ vs∧tYes σ2 H2 fun b H3 =>
    if b=true then te σ2 H3 fun y H4=>∃ acc,H4 D=some (.lst acc)∧acc.length < sizeLine∧Nx (upd H4 D (.lst (acc ++ [y]))) else Nx H3) :=
 lc_if t hD hn (fun _=>true) f (fun i x H Q N hi im k h1 _=>mono _ _ _ _ _ (fun s h q=>⟨q.1,by unfold tYes;exact iteT q.2⟩) (hs i x H Q hi im k (h1 rfl))) fun H k h=>hd H k (by rw [List.filter_eq_self.mpr fun _ _=>rfl] at h;exact h)
theorem lc_ref {J:It} {n:Nat} {Im:Nat→V→Hp→Prop} {g:TG} {te:TE} {vs:List Nat} {σ:St} {H1:Hp} {D:Addr} {Qd:Hp→Prop} (t:Turns J H1 n Im) (hD:H1 D=none) (hn:n < sizeLine) (R:Nat→V→Hp→Prop)
  (hR:∀ i v H H',R i v H→Kp [D] H H'→R i v H')
  (hs:∀ i x H (Q:VK),i < n→Im i x H→Kp [] H1 H→(∃ acc,H D=some (.lst acc))→(∀ v H',Kp [] H H'→R i v H'→Q v H')→g x (wipe σ vs) H fun σ2 H2=>wipe σ2 vs=wipe σ vs∧te σ2 H2 Q)
  (mono:∀ x σ H (Q Q':St→Hp→Prop),(∀ s h,Q s h→Q' s h)→g x σ H Q→g x σ H Q')
  (hd:∀ H ys,Kp [] H1 H→H D=some (.lst ys)→ys.length=n→(∀ (i:Nat) y,ys[i]? = some y→R i y H)→Qd H) :
  ∃ W:Nat→Nat→Hp→Prop,(∃ m,W 0 m (upd H1 D (.lst [])))∧∀ i m H,W i m H →
   (J.stop i H∧Qd H)∨(J.go i H∧∃ Nx:Hp→Prop,(∀ H',Nx H'→∃ m',m' < m∧W (i+1) m' H')∧∀ x H',J.yld i H x H'→g x (wipe σ vs) H' fun σ2 H2=>wipe σ2 vs=wipe σ vs∧tYes σ2 H2 fun b H3 =>
    if b=true then te σ2 H3 fun y H4=>∃ acc,H4 D=some (.lst acc)∧acc.length < sizeLine∧Nx (upd H4 D (.lst (acc ++ [y]))) else Nx H3):=by
 refine ⟨fun i m H=>m=n - i∧i≤n∧Kp [] H1 H∧∃ ys,H D=some (.lst ys)∧ys.length=i∧∀ (j:Nat) y,ys[j]? = some y→R j y H,⟨n,by simp,Nat.zero_le _,(Kp.refl _).young hD,[],upd_same,rfl,fun j y h=>by simp at h⟩,?_⟩
 rintro i m H ⟨rfl,hi,k,ys,hl,hy,hr⟩
 by_cases hlt:i < n
 ·refine .inr ⟨t.go i H hlt k,fun H=>Kp [] H1 H∧∃ ys,H D=some (.lst ys)∧ys.length=i+1∧∀ (j:Nat) y,ys[j]? = some y→R j y H,fun H' q=>⟨n - (i+1),by omega,rfl,hlt,q⟩,fun x H' y=>?_⟩
  obtain ⟨k1,im⟩:=t.yld i H x H' hlt k y
  refine mono _ _ _ _ _ (fun s h q=>⟨q.1,by unfold tYes;exact iteT q.2⟩) (hs i x H' _ hlt im (k.trans k1) ⟨_,k1 D _ hl (by simp)⟩ fun v H4 k4 r4=>?_)
  have hl4:=k4 D _ (k1 D _ hl (by simp)) (by simp)
  refine ⟨_,hl4,by rw [hy];omega,((k.trans k1).trans k4).young hD,_,upd_same,by simp [hy],fun j z hz=>?_⟩
  by_cases hj:j < ys.length
  ·rw [List.getElem?_append_left hj] at hz
   exact hR _ _ _ _ (hR _ _ _ _ (hr j z hz) ((k1.trans k4).of)) ((Kp.refl _).set (by simp))
  ·have:j=ys.length:=by
    have:=(List.getElem?_eq_some_iff.mp hz).1
    simp at this;omega
   subst this
   simp at hz
   subst hz
   rw [hy]
   exact hR _ _ _ _ r4 ((Kp.refl _).set (by simp))
 ·have e:i=n:=by omega
  subst e
  exact .inl ⟨t.stop H k,hd H ys k hl hy hr⟩
theorem gName_mono {i:Nat} (x:V) (σ:St) (H:Hp) (Q Q':St→Hp→Prop) (h:∀ s h,Q s h→Q' s h) (q:gName i x σ H Q) : gName i x σ H Q':=h _ _ q
theorem gTup2_mono {K:PySem.W.Frag} {i j:Nat} (x:V) (σ:St) (H:Hp) (Q Q':St→Hp→Prop) (h:∀ s h,Q s h→Q' s h) (q:gTup K 2 (gCons (gName i) (gCons (gName j) gNil)) x σ H Q) : gTup K 2 (gCons (gName i) (gCons (gName j) gNil)) x σ H Q':=by
 obtain ⟨a,xs,e,s,l,v,r,ev,v2,r2,ev2,e3,q⟩:=q
 exact ⟨a,xs,e,s,l,v,r,ev,v2,r2,ev2,e3,h _ _ q⟩
theorem for_turns {J:It} {n:Nat} {Im:Nat→V→Hp→Prop} {g:TG} {tb:TS} {D:Ends} {σ:St} {H:Hp} (H0:Hp) (t:Turns J H0 n Im) (Pv:Nat→St→Hp→Prop) (h0:Pv 0 σ H) (hk:∀ i σ H,Pv i σ H→Kp [] H0 H)
  (hs:∀ i x σ H H',i < n→Pv i σ H→Kp [] H H'→Im i x H'→g x σ H' fun σ2 H2=>tb { D with nx:=Pv (i+1),ct:=Pv (i+1),bk:=D.nx } σ2 H2) (hd:∀ σ H,Pv n σ H→D.nx σ H) :
  ∃ W:Nat→Nat→St→Hp→Prop,(∃ m,W 0 m σ H)∧∀ i m σ H,W i m σ H →
   (J.stop i H∧D.nx σ H)∨(J.go i H∧∃ N:St→Hp→Prop,(∀ σ' H',N σ' H'→∃ m',m' < m∧W (i+1) m' σ' H')∧∀ x H',J.yld i H x H'→g x σ H' fun σ2 H2=>tb { D with nx:=N,ct:=N,bk:=D.nx } σ2 H2):=by
 refine ⟨fun i m σ H=>m=n - i∧i≤n∧Pv i σ H,⟨n,by simp,Nat.zero_le _,h0⟩,?_⟩
 rintro i m σ H ⟨rfl,hi,p⟩
 by_cases hlt:i < n
 ·refine .inr ⟨t.go i H hlt (hk i σ H p),Pv (i+1),fun σ' H' p'=>⟨n - (i+1),by omega,rfl,hlt,p'⟩,fun x H' y=>?_⟩
  obtain ⟨k1,im⟩:=t.yld i H x H' hlt (hk i σ H p) y
  exact hs i x σ H H' hlt p k1 im
 ·have e:i=n:=by omega
  subst e
  exact .inl ⟨t.stop H (hk i σ H p),hd σ H p⟩
theorem turns_keys {d:Addr} {o:Obj} {kvs:List (Key × V)} {H0:Hp} (h:H0 d=some (.frz o (.dK kvs))) : Turns (Itk d o kvs) H0 kvs.length fun i x _=>∃ k v,kvs[i]? = some (k,v)∧x=kV k :=
 ⟨fun i H hi k=>⟨k d _ h (by simp),hi⟩,fun i H x H' hi k y=>by obtain ⟨rfl,y⟩:=y;exact ⟨Kp.refl _,y⟩,fun H k=>⟨k d _ h (by simp),Nat.le_refl _⟩⟩
theorem turns_rangeC {lo c:Int} {n:Nat} {H0:Hp}:Turns (Itc lo c n) H0 n fun i x _=>x=.int (lo+(i:Nat)*c) :=
 ⟨fun _ _ h _=>h,fun _ _ _ _ _ _ h=>by obtain ⟨rfl,h⟩:=h;exact ⟨Kp.refl _,h⟩,fun _ _=>Nat.le_refl _⟩
theorem turns_revT {K:PySem.W.Frag} {a:Addr} {xs:List V} {H0:Hp} (h:∀ H:Hp,SqT K H a xs) : Turns (ItvT K a xs.length) H0 xs.length fun i x _=>xs.reverse[i]? = some x :=
 ⟨fun i H hi k=>⟨hi,xs,xs[xs.length - 1 - i],h H,by rw [List.getElem?_eq_getElem (by omega)]⟩,fun i H x H' hi k y=>by obtain ⟨rfl,y⟩:=y;exact ⟨Kp.refl _,by rw [List.getElem?_reverse hi];exact y xs (h _)⟩,fun H k=>Nat.le_refl _⟩
theorem tlc_if {wi:TI} {J:It} {n:Nat} {Im:Nat→V→Hp→Prop} {g:TG} {tt:TT} {te:TE} {vs:List Nat} {σ:St} {H H1:Hp} {Q:VK} (p:Nat→Bool) (f:Nat→V) (ev:∀ R:It→Hp→Prop,R J H1→wi σ H R) (t:Turns J H1 n Im) (hn:n < sizeLine)
  (hs:∀ i x H (Q:VK) (N:Hp→Prop),i < n→Im i x H→Kp [] H1 H→(p i=true→∀ H',Kp [] H H'→Q (f i) H')→(p i=false→∀ H',Kp [] H H'→N H') →
   g x (wipe σ vs) H fun σ2 H2=>wipe σ2 vs=wipe σ vs∧tt σ2 H2 fun b H3=>if b=true then te σ2 H3 Q else N H3)
  (hd:∀ D H',H1 D=none→Kp [] H1 H'→H' D=some (.lst (((List.range n).filter p).map f))→Q (.ref D) H') : tLc wi g tt te vs σ H Q :=
 ev _ fun D hD=>lc_if t hD hn p f hs fun H k h=>hd D H hD k h
theorem tlc_all {wi:TI} {J:It} {n:Nat} {Im:Nat→V→Hp→Prop} {g:TG} {te:TE} {vs:List Nat} {σ:St} {H H1:Hp} {Q:VK} (f:Nat→V) (ev:∀ R:It→Hp→Prop,R J H1→wi σ H R) (t:Turns J H1 n Im) (hn:n < sizeLine)
  (mono:∀ x σ H (Q Q':St→Hp→Prop),(∀ s h,Q s h→Q' s h)→g x σ H Q→g x σ H Q')
  (hs:∀ i x H (Q:VK),i < n→Im i x H→Kp [] H1 H→(∀ H',Kp [] H H'→Q (f i) H')→g x (wipe σ vs) H fun σ2 H2=>wipe σ2 vs=wipe σ vs∧te σ2 H2 Q)
  (hd:∀ D H',H1 D=none→Kp [] H1 H'→H' D=some (.lst ((List.range n).map f))→Q (.ref D) H') : tLc wi g tYes te vs σ H Q :=
 ev _ fun D hD=>lc_all t hD hn f hs mono fun H k h=>hd D H hD k h
theorem tlc_ref {wi:TI} {J:It} {n:Nat} {Im:Nat→V→Hp→Prop} {g:TG} {te:TE} {vs:List Nat} {σ:St} {H H1:Hp} {Q:VK} (R:Addr→Nat→V→Hp→Prop) (ev:∀ R:It→Hp→Prop,R J H1→wi σ H R) (t:Turns J H1 n Im) (hn:n < sizeLine)
  (mono:∀ x σ H (Q Q':St→Hp→Prop),(∀ s h,Q s h→Q' s h)→g x σ H Q→g x σ H Q')
  (hR:∀ D i v H H',R D i v H→Kp [D] H H'→R D i v H')
  (hs:∀ D i x H (Q:VK),i < n→Im i x H→H1 D=none→Kp [] H1 H→(∃ acc,H D=some (.lst acc))→(∀ v H',Kp [] H H'→R D i v H'→Q v H')→g x (wipe σ vs) H fun σ2 H2=>wipe σ2 vs=wipe σ vs∧te σ2 H2 Q)
  (hd:∀ D H' ys,H1 D=none→Kp [] H1 H'→H' D=some (.lst ys)→ys.length=n→(∀ (i:Nat) y,ys[i]? = some y→R D i y H')→Q (.ref D) H') : tLc wi g tYes te vs σ H Q :=
 ev _ fun D hD=>lc_ref t hD hn (R D) (hR D) (fun i x H Q hi im k a=>hs D i x H Q hi im hD k a) mono fun H ys k h l r=>hd D H ys hD k h l r
theorem tfor {wi:TI} {J:It} {n:Nat} {Im:Nat→V→Hp→Prop} {g:TG} {tb:TS} {D:Ends} {σ:St} {H H1:Hp} (H0:Hp) (Pv:Nat→St→Hp→Prop) (ev:∀ R:It→Hp→Prop,R J H1→wi σ H R) (t:Turns J H0 n Im) (h0:Pv 0 σ H1) (hk:∀ i σ H,Pv i σ H→Kp [] H0 H)
  (hs:∀ i x σ H H',i < n→Pv i σ H→Kp [] H H'→Im i x H'→g x σ H' fun σ2 H2=>tb { D with nx:=Pv (i+1),ct:=Pv (i+1),bk:=D.nx } σ2 H2) (hd:∀ σ H,Pv n σ H→D.nx σ H) : tFor wi g tb D σ H :=
 ev _ (for_turns H0 t Pv h0 hk hs hd)
end L2
end
section
namespace L2
open PySem PySem.Spec PyProof.Rows
open PySem.W (Frag nsIn findIn plainGet hasDictIn plainOver makesIn keepIn isFn codeIn fnOf)
noncomputable def cA (K:Frag) (nm:Str) : Addr:=match nsIn K mainGlobals nm with | some (some (.ref a))=>a | _=>0
noncomputable def mA (K:Frag) (C:Addr) (m:Str) : Addr:=match findIn K (.ref C) m with | some (some (.ref a))=>a | _=>0
noncomputable def dA (K:Frag) (f:Addr) : FuncData:=match K.lookup f with
 | some ⟨_,_,.func fd,_⟩=>fd
 | _=>fnOf "" "" (defArgs (.Pass ⟨0,0,0,0⟩)) [] (defScope (.Pass ⟨0,0,0,0⟩)) .none .none .none .none none .none .none
noncomputable def xA (K:Frag) (d:Addr) (i:Nat) : Addr:=match K.lookup d with
 | some ⟨_,_,.dict es _,_⟩=>(match es[i]? with | some e=>(match e.val with | .ref a=>a | _=>0) | _=>0)
 | _=>0
section
variable {K:Frag} {h:Heap} {mg:Str→Option Value} {nm m qn x:Str} {C f:Addr} {st:Stmt} {ps:List Str} {P:Program} {w:World}
theorem cA_of {a:Addr} (e:nsIn K mainGlobals nm=some (some (.ref a))) : cA K nm=a:=by unfold cA;rw [e]
theorem mA_of {a:Addr} (e:findIn K (.ref C) m=some (some (.ref a))) : mA K C m=a:=by unfold mA;rw [e]
theorem dA_of {fd:FuncData} {oc:Value} {od:Option Addr} {sl:Array (Option Value)} (e:K.lookup f=some ⟨oc,od,.func fd,sl⟩) : dA K f=fd:=by unfold dA;rw [e]
structure ClF (K:Frag) (mg:Str→Option Value) (nm:Str) : Prop where
 cl:Cls K (cA K nm)
 c:mg nm=some (.ref (cA K nm))
 mkr:Mk K (cA K nm) (mA K (cA K nm) "__init__")
structure MtF (K:Frag) (cn m qn:Str) (st:Stmt) (ps:List Str) : Prop where
 F:Fun K m qn st (mA K (cA K cn) m) (dA K (mA K (cA K cn) m))
 b:Binds K (dA K (mA K (cA K cn) m)) ps []
 m:Meth K (cA K cn) m (mA K (cA K cn) m)
structure FnF (K:Frag) (mg:Str→Option Value) (nm:Str) (st:Stmt) (ps:List Str) : Prop where
 F:Fun K nm nm st (cA K nm) (dA K (cA K nm))
 b:Binds K (dA K (cA K nm)) ps []
 g:mg nm=some (.ref (cA K nm))
 k:keepIn K (.ref (cA K nm))=true
theorem clf_mk (X:K.In h) (G:h.Ns mainGlobals mg) (a:nsIn K mainGlobals nm=some (some (.ref C))) (pg:plainGet K C Str.empty=true) (hd:hasDictIn K C=true) (po:plainOver K C=true)
  (sa:findIn K (.ref C) "__setattr__" = some (some (.builtin "object.__setattr__"))) (mi:makesIn K C=true) (kc:keepIn K (.ref C)=true) (ai:findIn K (.ref C) "__init__" = some (some (.ref f))) (ii:isFn K (.ref f)=true) : ClF K mg nm:=by
 have e:=cA_of a
 refine ⟨?_,?_,?_⟩
 ·rw [e];exact ⟨pg,hd,po,sa⟩
 ·rw [e];exact PySem.W.mg_of X G a
 ·rw [e,mA_of ai];exact ⟨mi,ai,ii,kc⟩
theorem noa_mk (a:nsIn K mainGlobals nm=some (some (.ref C))) (n:findIn K (.ref C) x=some none) : NoAttr K (cA K nm) x:=by
 rw [cA_of a];exact n
theorem us0 {P:List Value→Prop} (h:P []) : ∀ us:List Value,us.length=0→P us
 | [],_=>h
theorem usS {P:List Value→Prop} {n:Nat} (h:∀ a l,l.length=n→P (a :: l)) : ∀ us:List Value,us.length=n+1→P us
 | a :: l,e=>h a l (Nat.succ.inj e)
theorem mtf_mk {oc kV dc pm cd ct:Value} {od an:Option Addr} {sl:Array (Option Value)} (a:nsIn K mainGlobals nm=some (some (.ref C))) (ai:findIn K (.ref C) m=some (some (.ref f))) (ii:isFn K (.ref f)=true)
  (l:K.lookup f=some ⟨oc,od,.func (fnOf m qn (defArgs st) (defBody st) (defScope st) .none kV dc pm an cd ct),sl⟩) (co:codeIn K cd qn=true) (ke:keepIn K (.ref f)=true)
  (hb:∀ (kV doc pm:Value) (an:Option Addr) (cdv ct:Value) (us:List Value),us.length=ps.length→bindArgs (fnOf m qn (defArgs st) (defBody st) (defScope st) .none kV doc pm an cdv ct) ⟨us,[]⟩=pure (ps.zip us)) : MtF K nm m qn st ps:=by
 have F:=fun_mk (st:=st) l co ke
 have e1:=cA_of a
 have e2:mA K (cA K nm) m=f:=by rw [e1];exact mA_of ai
 have e3:=dA_of l
 refine ⟨?_,?_,?_⟩
 ·rw [e2,e3];exact F
 ·rw [e2,e3];exact F.binds hb
 ·rw [e2,e1];exact ⟨ai,ii,ke⟩
theorem fnf_mk {oc kV dc pm cd ct:Value} {od an:Option Addr} {sl:Array (Option Value)} (X:K.In h) (G:h.Ns mainGlobals mg) (a:nsIn K mainGlobals nm=some (some (.ref f)))
  (l:K.lookup f=some ⟨oc,od,.func (fnOf nm nm (defArgs st) (defBody st) (defScope st) .none kV dc pm an cd ct),sl⟩) (co:codeIn K cd nm=true) (ke:keepIn K (.ref f)=true)
  (hb:∀ (kV doc pm:Value) (an:Option Addr) (cdv ct:Value) (us:List Value),us.length=ps.length→bindArgs (fnOf nm nm (defArgs st) (defBody st) (defScope st) .none kV doc pm an cdv ct) ⟨us,[]⟩=pure (ps.zip us)) : FnF K mg nm st ps:=by
 have F:=fun_mk (st:=st) l co ke
 have e1:=cA_of a
 have e3:=dA_of l
 refine ⟨?_,?_,?_,?_⟩
 ·rw [e1,e3];exact F
 ·rw [e1,e3];exact F.binds hb
 ·rw [e1];exact PySem.W.mg_of X G a
 ·rw [e1];exact ke
theorem gint_mk {n:Int} {t:Tok} (X:K.In h) (G:h.Ns mainGlobals mg) (a:nsIn K mainGlobals nm=some (some (.int n t))) : ∃ t,mg nm=some (.int n t):=⟨_,PySem.W.mg_of X G a⟩
theorem gref_mk {a:Addr} (X:K.In h) (G:h.Ns mainGlobals mg) (e:nsIn K mainGlobals nm=some (some (.ref a))) : mg nm=some (.ref (cA K nm)):=by rw [cA_of e];exact PySem.W.mg_of X G e
theorem gtup_mk {a:Addr} {xs:List V} {its:List Value} {n:Nat} {d:Option Addr} {sl:Array (Option Value)} (e:nsIn K mainGlobals nm=some (some (.ref a))) (l:K.lookup a=some ⟨.type "tuple",d,.seq its.toArray n,sl⟩) (r:Vals xs its) (hz:xs.length≤1000) (H:Hp) : SqT K H (cA K nm) xs:=by
 rw [cA_of e];exact sqT_mk l (by rw [←r.length];exact Nat.le_of_lt (small1000 hz)) r H
theorem gdict_mk {a:Addr} {kvs:List (Key × V)} {n:Nat} {es:List DictEntry} (e:nsIn K mainGlobals nm=some (some (.ref a))) (l:K.lookup a=some ⟨.type "dict",none,.dict es.toArray n,#[]⟩)
  (nm':(a == sysModules)=false) (eo:EntOk w es kvs) (nd:(kvs.map (·.1)).Nodup) : GD K P w (cA K nm) kvs:=by
 rw [cA_of e];exact gd_mk l nm' eo nd
theorem xA_of {a b:Addr} {n i:Nat} {es:List DictEntry} {en:DictEntry} (e:nsIn K mainGlobals nm=some (some (.ref a))) (l:K.lookup a=some ⟨.type "dict",none,.dict es.toArray n,#[]⟩) (h1:es[i]? = some en) (h2:en.val=.ref b) : xA K (cA K nm) i=b:=by
 unfold xA
 rw [cA_of e,l]
 simp only [List.getElem?_toArray,h1,h2]
theorem xtup_mk {a b:Addr} {n i nn:Nat} {es:List DictEntry} {en:DictEntry} {xs:List V} {its:List Value} {d:Option Addr} {sl:Array (Option Value)} (e:nsIn K mainGlobals nm=some (some (.ref a))) (l:K.lookup a=some ⟨.type "dict",none,.dict es.toArray n,#[]⟩) (h1:es[i]? = some en) (h2:en.val=.ref b)
  (l2:K.lookup b=some ⟨.type "tuple",d,.seq its.toArray nn,sl⟩) (r:Vals xs its) (hz:xs.length≤1000) (H:Hp) : SqT K H (xA K (cA K nm) i) xs:=by
 rw [xA_of e l h1 h2];exact sqT_mk l2 (by rw [←r.length];exact Nat.le_of_lt (small1000 hz)) r H
end
end L2
end
section
namespace L2
open PySem PySem.Spec PyProof.Rows
open PySem.W (Frag nsIn)
theorem gdref_mk {P:Program} {w:World} {K:Frag} {nm:Str} {a:Addr} {kvs:List (Key × V)} {n:Nat} {es:List DictEntry} (e:nsIn K mainGlobals nm=some (some (.ref a))) (l:K.lookup a=some ⟨.type "dict",none,.dict es.toArray n,#[]⟩)
  (nm':(a == sysModules)=false) (eo:(∀ (i:Nat) (en:DictEntry) (b:Addr),es[i]? = some en→en.val=.ref b→xA K (cA K nm) i=b)→EntOk w es kvs) (nd:(kvs.map (·.1)).Nodup) : GD K P w (cA K nm) kvs :=
 gdict_mk e l nm' (eo fun _ _ _ h1 h2=>xA_of e l h1 h2) nd
end L2
end
section
set_option maxHeartbeats 4000000
namespace Pg
open PySem PySem.Spec PyProof.Rows L2
open PySem.W (Codec)
def top (i:Nat) : Stmt:=PySem.Challenge.pw_pointgame_s01_answers.main.body.getD i (.Pass ⟨0,0,0,0⟩)
local macro_rules | `(tactic| walk_at "sc")=>`(tactic| exact ⟨rfl,rfl,rfl,by decide +kernel,rfl,by decide +kernel,by decide +kernel⟩)
abbrev s_G_init :Stmt:=inClass (top 2) 0
theorem sc_G_init :FnScope ["self","left","right","x","two"] ["self","left","right"] (defScope s_G_init):=by walk_at "sc"
abbrev s_G_two_of :Stmt:=inClass (top 2) 1
theorem sc_G_two_of :FnScope ["self","a","b"] ["self","a","b"] (defScope s_G_two_of):=by walk_at "sc"
abbrev s_G_line :Stmt:=inClass (top 2) 2
theorem sc_G_line :FnScope ["self","side","x","b","a"] ["self","side","x"] (defScope s_G_line):=by walk_at "sc"
abbrev s_G_same_marks :Stmt:=inClass (top 2) 3
theorem sc_G_same_marks :FnScope ["self","two","a","b","row"] ["self","two"] (defScope s_G_same_marks):=by walk_at "sc"
abbrev s_G_are_friends :Stmt:=inClass (top 2) 4
theorem sc_G_are_friends :FnScope ["self","two","other","a","b","c","d"] ["self","two","other"] (defScope s_G_are_friends):=by walk_at "sc"
abbrev s_G_friends_of :Stmt:=inClass (top 2) 5
theorem sc_G_friends_of :FnScope ["self","two","other"] ["self","two"] (defScope s_G_friends_of):=by walk_at "sc"
abbrev s_G_fitting_alone :Stmt:=inClass (top 2) 6
theorem sc_G_fitting_alone :FnScope ["self","fitting","two"] ["self"] (defScope s_G_fitting_alone):=by walk_at "sc"
abbrev s_G_fits :Stmt:=inClass (top 2) 7
theorem sc_G_fits :FnScope ["self","lying","two"] ["self","lying","two"] (defScope s_G_fits):=by walk_at "sc"
abbrev s_G_put :Stmt:=inClass (top 2) 8
theorem sc_G_put :FnScope ["self","lying","two","both"] ["self","lying","two"] (defScope s_G_put):=by walk_at "sc"
abbrev s_G_withstands :Stmt:=inClass (top 2) 9
theorem sc_G_withstands :FnScope ["self","lying","rounds"] ["self","lying","rounds"] (defScope s_G_withstands):=by walk_at "sc"
abbrev s_G_all_answered :Stmt:=inClass (top 2) 10
theorem sc_G_all_answered :FnScope ["self","lying","rounds","line"] ["self","lying","rounds"] (defScope s_G_all_answered):=by walk_at "sc"
abbrev s_G_answer_in :Stmt:=inClass (top 2) 11
theorem sc_G_answer_in :FnScope ["self","line","lying","rounds","place","two"] ["self","line","lying","rounds"] (defScope s_G_answer_in):=by walk_at "sc"
abbrev s_G_least_not_withstood :Stmt:=inClass (top 2) 12
theorem sc_G_least_not_withstood :FnScope ["self","most","rounds"] ["self","most"] (defScope s_G_least_not_withstood):=by walk_at "sc"
abbrev s_G_reply :Stmt:=inClass (top 2) 13
theorem sc_G_reply :FnScope ["self","side","x","rounds","lie","lying","at","two"] ["self","side","x","rounds","lie"] (defScope s_G_reply):=by walk_at "sc"
abbrev s_P_init :Stmt:=inClass (top 8) 0
theorem sc_P_init :FnScope ["self","sign","depth","levels"] ["self","sign","depth","levels"] (defScope s_P_init):=by walk_at "sc"
abbrev s_N_init :Stmt:=inClass (top 9) 0
theorem sc_N_init :FnScope ["self","codes","depth","steps"] ["self","codes","depth","steps"] (defScope s_N_init):=by walk_at "sc"
abbrev s_R_init :Stmt:=inClass (top 10) 0
theorem sc_R_init :FnScope ["self","codes","code"] ["self","codes"] (defScope s_R_init):=by walk_at "sc"
abbrev s_R_at_end :Stmt:=inClass (top 10) 1
theorem sc_R_at_end :FnScope ["self"] ["self"] (defScope s_R_at_end):=by walk_at "sc"
abbrev s_R_advance :Stmt:=inClass (top 10) 2
theorem sc_R_advance :FnScope ["self","part","sign"] ["self"] (defScope s_R_advance):=by walk_at "sc"
abbrev s_R_fits :Stmt:=inClass (top 10) 3
theorem sc_R_fits :FnScope ["self","part","sign"] ["self","part","sign"] (defScope s_R_fits):=by walk_at "sc"
abbrev s_R_begin_formula :Stmt:=inClass (top 10) 4
theorem sc_R_begin_formula :FnScope ["self","sign","part"] ["self","sign"] (defScope s_R_begin_formula):=by walk_at "sc"
abbrev s_R_end_formula :Stmt:=inClass (top 10) 5
theorem sc_R_end_formula :FnScope ["self"] ["self"] (defScope s_R_end_formula):=by walk_at "sc"
abbrev s_R_bind :Stmt:=inClass (top 10) 6
theorem sc_R_bind :FnScope ["self","sign"] ["self","sign"] (defScope s_R_bind):=by walk_at "sc"
abbrev s_R_refer :Stmt:=inClass (top 10) 7
theorem sc_R_refer :FnScope ["self","sign","levels","level","name"] ["self","sign"] (defScope s_R_refer):=by walk_at "sc"
abbrev s_R_join_by :Stmt:=inClass (top 10) 8
theorem sc_R_join_by :FnScope ["self","sign"] ["self","sign"] (defScope s_R_join_by):=by walk_at "sc"
abbrev s_sentence_of :Stmt:=top 11
theorem sc_sentence_of :FnScope ["codes","reader"] ["codes"] (defScope s_sentence_of):=by walk_at "sc"
abbrev s_all_lying :Stmt:=top 13
theorem sc_all_lying :FnScope ["game","p","counts","count","lying","two"] ["game","p"] (defScope s_all_lying):=by walk_at "sc"
abbrev s_rests :Stmt:=top 14
theorem sc_rests :FnScope ["game","lying","has_spare","left","two"] ["game","lying","has_spare"] (defScope s_rests):=by walk_at "sc"
abbrev s_is_answered :Stmt:=top 15
theorem sc_is_answered :FnScope ["game","rest","alive","line","two"] ["game","rest","alive"] (defScope s_is_answered):=by walk_at "sc"
abbrev s_lost_among :Stmt:=top 16
theorem sc_lost_among :FnScope ["game","counts","p","alive","answered","rest","lost","lying"] ["game","counts","p","alive"] (defScope s_lost_among):=by walk_at "sc"
abbrev s_withstood_for_ever :Stmt:=top 17
theorem sc_withstood_for_ever :FnScope ["game","p","counts","alive","lost","lying"] ["game","p"] (defScope s_withstood_for_ever):=by walk_at "sc"
abbrev s_S_init :Stmt:=inClass (top 20) 0
theorem sc_S_init :FnScope ["self","size","point","mark"] ["self","size"] (defScope s_S_init):=by walk_at "sc"
abbrev s_S_has_point :Stmt:=inClass (top 20) 1
theorem sc_S_has_point :FnScope ["self","x"] ["self","x"] (defScope s_S_has_point):=by walk_at "sc"
abbrev s_S_put_arc :Stmt:=inClass (top 20) 2
theorem sc_S_put_arc :FnScope ["self","x","y","on"] ["self","x","y","on"] (defScope s_S_put_arc):=by walk_at "sc"
abbrev s_S_put_mark :Stmt:=inClass (top 20) 3
theorem sc_S_put_mark :FnScope ["self","m","x","on"] ["self","m","x","on"] (defScope s_S_put_mark):=by walk_at "sc"
abbrev s_U_init :Stmt:=inClass (top 22) 0
theorem sc_U_init :FnScope ["self","structure","names"] ["self","structure"] (defScope s_U_init):=by walk_at "sc"
abbrev s_U_all_ways :Stmt:=inClass (top 22) 1
theorem sc_U_all_ways :FnScope ["self","names"] ["self","names"] (defScope s_U_all_ways):=by walk_at "sc"
abbrev s_U_joined :Stmt:=inClass (top 22) 2
theorem sc_U_joined :FnScope ["self","table","depth","number","x","part"] ["self","table","depth"] (defScope s_U_joined):=by walk_at "sc"
abbrev s_U_parted :Stmt:=inClass (top 22) 3
theorem sc_U_parted :FnScope ["self","number","depth","every","x"] ["self","number","depth"] (defScope s_U_parted):=by walk_at "sc"
abbrev s_U_related :Stmt:=inClass (top 22) 4
theorem sc_U_related :FnScope ["self","sign","x","y"] ["self","sign","x","y"] (defScope s_U_related):=by walk_at "sc"
abbrev s_U_related_to :Stmt:=inClass (top 22) 5
theorem sc_U_related_to :FnScope ["self","step","inner_point","x","y"] ["self","step","inner_point"] (defScope s_U_related_to):=by walk_at "sc"
abbrev s_U_ways_with :Stmt:=inClass (top 22) 6
theorem sc_U_ways_with :FnScope ["self","members","level","names","number","x","depth"] ["self","members","level","names"] (defScope s_U_ways_with):=by walk_at "sc"
abbrev s_U_row_of :Stmt:=inClass (top 22) 7
theorem sc_U_row_of :FnScope ["self","step","inner_point","outer","inner"] ["self","step","inner_point"] (defScope s_U_row_of):=by walk_at "sc"
abbrev s_U_table_of :Stmt:=inClass (top 22) 8
theorem sc_U_table_of :FnScope ["self","step","nearest","table","x","depth"] ["self","step"] (defScope s_U_table_of):=by walk_at "sc"
abbrev s_U_opposite :Stmt:=inClass (top 22) 9
theorem sc_U_opposite :FnScope ["self","table","depth","every","part"] ["self","table","depth"] (defScope s_U_opposite):=by walk_at "sc"
abbrev s_U_over_points :Stmt:=inClass (top 22) 10
theorem sc_U_over_points :FnScope ["self","step","table","number","part"] ["self","step","table"] (defScope s_U_over_points):=by walk_at "sc"
abbrev s_U_work :Stmt:=inClass (top 22) 11
theorem sc_U_work :FnScope ["self","step","tables","table","part","other"] ["self","step","tables"] (defScope s_U_work):=by walk_at "sc"
abbrev s_is_so :Stmt:=top 23
theorem sc_is_so :FnScope ["sentence","structure","truth","tables","step"] ["sentence","structure"] (defScope s_is_so):=by walk_at "sc"
abbrev s_is_structure :Stmt:=top 36
theorem sc_is_structure :FnScope ["g"] ["g"] (defScope s_is_structure):=by walk_at "sc"
abbrev s_is_mark :Stmt:=top 37
theorem sc_is_mark :FnScope ["m"] ["m"] (defScope s_is_mark):=by walk_at "sc"
abbrev s_is_slot :Stmt:=top 38
theorem sc_is_slot :FnScope ["slot"] ["slot"] (defScope s_is_slot):=by walk_at "sc"
abbrev s_is_byte_count :Stmt:=top 39
theorem sc_is_byte_count :FnScope ["n"] ["n"] (defScope s_is_byte_count):=by walk_at "sc"
abbrev s_is_lie_count :Stmt:=top 40
theorem sc_is_lie_count :FnScope ["n"] ["n"] (defScope s_is_lie_count):=by walk_at "sc"
abbrev s_is_round_count :Stmt:=top 41
theorem sc_is_round_count :FnScope ["k","two_count"] ["k","two_count"] (defScope s_is_round_count):=by walk_at "sc"
abbrev s_B_init :Stmt:=inClass (top 42) 0
theorem sc_B_init :FnScope ["self"] ["self"] (defScope s_B_init):=by walk_at "sc"
abbrev s_B_begin :Stmt:=inClass (top 42) 1
theorem sc_B_begin :FnScope ["self","g"] ["self"] (defScope s_B_begin):=by walk_at "sc"
abbrev s_B_points :Stmt:=inClass (top 42) 2
theorem sc_B_points :FnScope ["self","g","n"] ["self","g","n"] (defScope s_B_points):=by walk_at "sc"
abbrev s_B_has_point :Stmt:=inClass (top 42) 3
theorem sc_B_has_point :FnScope ["self","g","x"] ["self","g","x"] (defScope s_B_has_point):=by walk_at "sc"
abbrev s_B_arc :Stmt:=inClass (top 42) 4
theorem sc_B_arc :FnScope ["self","g","x","y","on"] ["self","g","x","y","on"] (defScope s_B_arc):=by walk_at "sc"
abbrev s_B_mark :Stmt:=inClass (top 42) 5
theorem sc_B_mark :FnScope ["self","g","m","x","on"] ["self","g","m","x","on"] (defScope s_B_mark):=by walk_at "sc"
abbrev s_B_form :Stmt:=inClass (top 42) 6
theorem sc_B_form :FnScope ["self","slot","n","codes","sentence"] ["self","slot","n","codes"] (defScope s_B_form):=by walk_at "sc"
abbrev s_B_refusal :Stmt:=inClass (top 42) 7
theorem sc_B_refusal :FnScope ["self","slot"] ["self","slot"] (defScope s_B_refusal):=by walk_at "sc"
abbrev s_B_text :Stmt:=inClass (top 42) 8
theorem sc_B_text :FnScope ["self","slot","most","refused","codes"] ["self","slot","most"] (defScope s_B_text):=by walk_at "sc"
abbrev s_B_rank :Stmt:=inClass (top 42) 9
theorem sc_B_rank :FnScope ["self","slot","refused"] ["self","slot"] (defScope s_B_rank):=by walk_at "sc"
abbrev s_B_holds :Stmt:=inClass (top 42) 10
theorem sc_B_holds :FnScope ["self","g","slot","refused"] ["self","g","slot"] (defScope s_B_holds):=by walk_at "sc"
abbrev s_B_game :Stmt:=inClass (top 42) 11
theorem sc_B_game :FnScope ["self"] ["self"] (defScope s_B_game):=by walk_at "sc"
abbrev s_B_told :Stmt:=inClass (top 42) 12
theorem sc_B_told :FnScope ["self","rounds"] ["self"] (defScope s_B_told):=by walk_at "sc"
abbrev s_B_can_lie :Stmt:=inClass (top 42) 13
theorem sc_B_can_lie :FnScope ["self","lie","at","x"] ["self","lie"] (defScope s_B_can_lie):=by walk_at "sc"
abbrev s_B_reply :Stmt:=inClass (top 42) 14
theorem sc_B_reply :FnScope ["self","side","x","k","n","lie","point"] ["self","side","x","k","n","lie"] (defScope s_B_reply):=by walk_at "sc"
abbrev s_B_stones :Stmt:=inClass (top 42) 15
theorem sc_B_stones :FnScope ["self","p"] ["self","p"] (defScope s_B_stones):=by walk_at "sc"
abbrev s_has_row :Stmt:=top 55
theorem sc_has_row :FnScope ["call"] ["call"] (defScope s_has_row):=by walk_at "sc"
abbrev s_ask :Stmt:=top 56
theorem sc_ask :FnScope ["table","call","wholes","row"] ["table","call","wholes","row"] (defScope s_ask):=by walk_at "sc"
abbrev s_answers_of :Stmt:=top 57
theorem sc_answers_of :FnScope ["table","calls","given","at","call","behind","wholes","row","start","answer"] ["table","calls"] (defScope s_answers_of):=by walk_at "sc"
abbrev s_answers :Stmt:=top 58
theorem sc_answers :FnScope ["calls"] ["calls"] (defScope s_answers):=by walk_at "sc"
section
variable {a b c d e f g h x:V}
noncomputable def fs_G (a b c d e f g:V) : List (Str × V):=[("left",a),("right",b),("two_count",c),("lines",d),("friends",e),("fitting",f),("known",g)]
theorem fs_G_two_count :(fs_G a b c d e f g).lookup ("two_count" : Str)=some c:=rfl
theorem fs_G_lines :(fs_G a b c d e f g).lookup ("lines" : Str)=some d:=rfl
theorem fs_G_friends :(fs_G a b c d e f g).lookup ("friends" : Str)=some e:=rfl
theorem fs_G_fitting :(fs_G a b c d e f g).lookup ("fitting" : Str)=some f:=rfl
theorem fs_G_known :(fs_G a b c d e f g).lookup ("known" : Str)=some g:=rfl
noncomputable def fs_P (a b c:V) : List (Str × V):=[("sign",a),("depth",b),("levels",c)]
theorem fs_P_sign :(fs_P a b c).lookup ("sign" : Str)=some a:=rfl
theorem fs_P_depth :(fs_P a b c).lookup ("depth" : Str)=some b:=rfl
theorem fs_P_levels :(fs_P a b c).lookup ("levels" : Str)=some c:=rfl
noncomputable def fs_N (a b c:V) : List (Str × V):=[("codes",a),("depth",b),("steps",c)]
theorem fs_N_steps :(fs_N a b c).lookup ("steps" : Str)=some c:=rfl
noncomputable def fs_R (a b c d e f g h:V) : List (Str × V):=[("signs",a),("at",b),("expected",c),("scope",d),("deepest",e),("begun",f),("read_levels",g),("done",h)]
theorem fs_R_signs :(fs_R a b c d e f g h).lookup ("signs" : Str)=some a:=rfl
theorem fs_R_at :(fs_R a b c d e f g h).lookup ("at" : Str)=some b:=rfl
theorem pf_R_at :putF "at" x (fs_R a b c d e f g h)=fs_R a x c d e f g h:=rfl
theorem fs_R_expected :(fs_R a b c d e f g h).lookup ("expected" : Str)=some c:=rfl
theorem fs_R_scope :(fs_R a b c d e f g h).lookup ("scope" : Str)=some d:=rfl
theorem fs_R_deepest :(fs_R a b c d e f g h).lookup ("deepest" : Str)=some e:=rfl
theorem pf_R_deepest :putF "deepest" x (fs_R a b c d e f g h)=fs_R a b c d x f g h:=rfl
theorem fs_R_begun :(fs_R a b c d e f g h).lookup ("begun" : Str)=some f:=rfl
theorem fs_R_read_levels :(fs_R a b c d e f g h).lookup ("read_levels" : Str)=some g:=rfl
theorem fs_R_done :(fs_R a b c d e f g h).lookup ("done" : Str)=some h:=rfl
noncomputable def fs_S (a b c:V) : List (Str × V):=[("size",a),("arcs",b),("marks",c)]
theorem fs_S_size :(fs_S a b c).lookup ("size" : Str)=some a:=rfl
theorem fs_S_arcs :(fs_S a b c).lookup ("arcs" : Str)=some b:=rfl
theorem fs_S_marks :(fs_S a b c).lookup ("marks" : Str)=some c:=rfl
noncomputable def fs_U (a b c:V) : List (Str × V):=[("structure",a),("size",b),("ways",c)]
theorem fs_U_structure :(fs_U a b c).lookup ("structure" : Str)=some a:=rfl
theorem fs_U_size :(fs_U a b c).lookup ("size" : Str)=some b:=rfl
theorem fs_U_ways :(fs_U a b c).lookup ("ways" : Str)=some c:=rfl
noncomputable def fs_B (a b:V) : List (Str × V):=[("structures",a),("sentences",b)]
theorem fs_B_structures :(fs_B a b).lookup ("structures" : Str)=some a:=rfl
theorem fs_B_sentences :(fs_B a b).lookup ("sentences" : Str)=some b:=rfl
end
noncomputable def kv_SIGNS :List (Key × V):=[((Sum.inl (33)),(.str "!")),((Sum.inl (38)),(.str "&")),((Sum.inl (40)),(.str "(")),((Sum.inl (41)),(.str ")")),((Sum.inl (61)),(.str "=")),((Sum.inl (65)),(.str "A")),((Sum.inl (69)),(.str "E")),((Sum.inl (80)),(.str "P")),((Sum.inl (81)),(.str "Q")),((Sum.inl (83)),(.str "S")),((Sum.inl (117)),(.str "u")),((Sum.inl (118)),(.str "v")),((Sum.inl (119)),(.str "w")),((Sum.inl (120)),(.str "x")),((Sum.inl (121)),(.str "y")),((Sum.inl (122)),(.str "z")),((Sum.inl (124)),(.str "|"))]
noncomputable def kv_FOLLOWING (K:PySem.W.Frag) : List (Key × V):=[((Sum.inr "E"),V.ref (xA K (cA K "FOLLOWING") 0)),((Sum.inr "P"),V.ref (xA K (cA K "FOLLOWING") 1)),((Sum.inr "Q"),V.ref (xA K (cA K "FOLLOWING") 2)),((Sum.inr "="),V.ref (xA K (cA K "FOLLOWING") 3)),((Sum.inr "!"),V.ref (xA K (cA K "FOLLOWING") 4)),((Sum.inr "("),V.ref (xA K (cA K "FOLLOWING") 5)),((Sum.inr "A"),V.ref (xA K (cA K "FOLLOWING") 6)),((Sum.inr "S"),V.ref (xA K (cA K "FOLLOWING") 7))]
noncomputable def kv_WHOLE_COUNTS :List (Key × V):=[((Sum.inl (0)),(.int (0))),((Sum.inl (1)),(.int (2))),((Sum.inl (2)),(.int (4))),((Sum.inl (3)),(.int (4))),((Sum.inl (4)),(.int (2))),((Sum.inl (5)),(.int (2))),((Sum.inl (6)),(.int (1))),((Sum.inl (7)),(.int (2))),((Sum.inl (8)),(.int (0))),((Sum.inl (9)),(.int (4))),((Sum.inl (10)),(.int (1)))]
structure Txt (P:Program) (w:World) (K:PySem.W.Frag) (mg:Str→Option Value) : Prop where
 c_G:ClF K mg "Game"
 n_G_left:NoAttr K (cA K "Game") "left"
 n_G_right:NoAttr K (cA K "Game") "right"
 n_G_two_count:NoAttr K (cA K "Game") "two_count"
 n_G_lines:NoAttr K (cA K "Game") "lines"
 n_G_friends:NoAttr K (cA K "Game") "friends"
 n_G_fitting:NoAttr K (cA K "Game") "fitting"
 n_G_known:NoAttr K (cA K "Game") "known"
 c_P:ClF K mg "Step"
 n_P_sign:NoAttr K (cA K "Step") "sign"
 n_P_depth:NoAttr K (cA K "Step") "depth"
 n_P_levels:NoAttr K (cA K "Step") "levels"
 c_N:ClF K mg "Sentence"
 n_N_codes:NoAttr K (cA K "Sentence") "codes"
 n_N_depth:NoAttr K (cA K "Sentence") "depth"
 n_N_steps:NoAttr K (cA K "Sentence") "steps"
 c_R:ClF K mg "Reader"
 n_R_signs:NoAttr K (cA K "Reader") "signs"
 n_R_at:NoAttr K (cA K "Reader") "at"
 n_R_expected:NoAttr K (cA K "Reader") "expected"
 n_R_scope:NoAttr K (cA K "Reader") "scope"
 n_R_deepest:NoAttr K (cA K "Reader") "deepest"
 n_R_begun:NoAttr K (cA K "Reader") "begun"
 n_R_read_levels:NoAttr K (cA K "Reader") "read_levels"
 n_R_done:NoAttr K (cA K "Reader") "done"
 c_S:ClF K mg "Structure"
 n_S_size:NoAttr K (cA K "Structure") "size"
 n_S_arcs:NoAttr K (cA K "Structure") "arcs"
 n_S_marks:NoAttr K (cA K "Structure") "marks"
 c_U:ClF K mg "Truth"
 n_U_structure:NoAttr K (cA K "Truth") "structure"
 n_U_size:NoAttr K (cA K "Truth") "size"
 n_U_ways:NoAttr K (cA K "Truth") "ways"
 c_B:ClF K mg "Table"
 n_B_structures:NoAttr K (cA K "Table") "structures"
 n_B_sentences:NoAttr K (cA K "Table") "sentences"
 x_G_init:MtF K "Game" "__init__" "Game.__init__" s_G_init ["self","left","right"]
 x_G_two_of:MtF K "Game" "two_of" "Game.two_of" s_G_two_of ["self","a","b"]
 x_G_line:MtF K "Game" "line" "Game.line" s_G_line ["self","side","x"]
 x_G_same_marks:MtF K "Game" "same_marks" "Game.same_marks" s_G_same_marks ["self","two"]
 x_G_are_friends:MtF K "Game" "are_friends" "Game.are_friends" s_G_are_friends ["self","two","other"]
 x_G_friends_of:MtF K "Game" "friends_of" "Game.friends_of" s_G_friends_of ["self","two"]
 x_G_fitting_alone:MtF K "Game" "fitting_alone" "Game.fitting_alone" s_G_fitting_alone ["self"]
 x_G_fits:MtF K "Game" "fits" "Game.fits" s_G_fits ["self","lying","two"]
 x_G_put:MtF K "Game" "put" "Game.put" s_G_put ["self","lying","two"]
 x_G_withstands:MtF K "Game" "withstands" "Game.withstands" s_G_withstands ["self","lying","rounds"]
 x_G_all_answered:MtF K "Game" "all_answered" "Game.all_answered" s_G_all_answered ["self","lying","rounds"]
 x_G_answer_in:MtF K "Game" "answer_in" "Game.answer_in" s_G_answer_in ["self","line","lying","rounds"]
 x_G_least_not_withstood:MtF K "Game" "least_not_withstood" "Game.least_not_withstood" s_G_least_not_withstood ["self","most"]
 x_G_reply:MtF K "Game" "reply" "Game.reply" s_G_reply ["self","side","x","rounds","lie"]
 x_P_init:MtF K "Step" "__init__" "Step.__init__" s_P_init ["self","sign","depth","levels"]
 x_N_init:MtF K "Sentence" "__init__" "Sentence.__init__" s_N_init ["self","codes","depth","steps"]
 x_R_init:MtF K "Reader" "__init__" "Reader.__init__" s_R_init ["self","codes"]
 x_R_at_end:MtF K "Reader" "at_end" "Reader.at_end" s_R_at_end ["self"]
 x_R_advance:MtF K "Reader" "advance" "Reader.advance" s_R_advance ["self"]
 x_R_fits:MtF K "Reader" "fits" "Reader.fits" s_R_fits ["self","part","sign"]
 x_R_begin_formula:MtF K "Reader" "begin_formula" "Reader.begin_formula" s_R_begin_formula ["self","sign"]
 x_R_end_formula:MtF K "Reader" "end_formula" "Reader.end_formula" s_R_end_formula ["self"]
 x_R_bind:MtF K "Reader" "bind" "Reader.bind" s_R_bind ["self","sign"]
 x_R_refer:MtF K "Reader" "refer" "Reader.refer" s_R_refer ["self","sign"]
 x_R_join_by:MtF K "Reader" "join_by" "Reader.join_by" s_R_join_by ["self","sign"]
 x_sentence_of:FnF K mg "sentence_of" s_sentence_of ["codes"]
 x_all_lying:FnF K mg "all_lying" s_all_lying ["game","p"]
 x_rests:FnF K mg "rests" s_rests ["game","lying","has_spare"]
 x_is_answered:FnF K mg "is_answered" s_is_answered ["game","rest","alive"]
 x_lost_among:FnF K mg "lost_among" s_lost_among ["game","counts","p","alive"]
 x_withstood_for_ever:FnF K mg "withstood_for_ever" s_withstood_for_ever ["game","p"]
 x_S_init:MtF K "Structure" "__init__" "Structure.__init__" s_S_init ["self","size"]
 x_S_has_point:MtF K "Structure" "has_point" "Structure.has_point" s_S_has_point ["self","x"]
 x_S_put_arc:MtF K "Structure" "put_arc" "Structure.put_arc" s_S_put_arc ["self","x","y","on"]
 x_S_put_mark:MtF K "Structure" "put_mark" "Structure.put_mark" s_S_put_mark ["self","m","x","on"]
 x_U_init:MtF K "Truth" "__init__" "Truth.__init__" s_U_init ["self","structure"]
 x_U_all_ways:MtF K "Truth" "all_ways" "Truth.all_ways" s_U_all_ways ["self","names"]
 x_U_joined:MtF K "Truth" "joined" "Truth.joined" s_U_joined ["self","table","depth"]
 x_U_parted:MtF K "Truth" "parted" "Truth.parted" s_U_parted ["self","number","depth"]
 x_U_related:MtF K "Truth" "related" "Truth.related" s_U_related ["self","sign","x","y"]
 x_U_related_to:MtF K "Truth" "related_to" "Truth.related_to" s_U_related_to ["self","step","inner_point"]
 x_U_ways_with:MtF K "Truth" "ways_with" "Truth.ways_with" s_U_ways_with ["self","members","level","names"]
 x_U_row_of:MtF K "Truth" "row_of" "Truth.row_of" s_U_row_of ["self","step","inner_point"]
 x_U_table_of:MtF K "Truth" "table_of" "Truth.table_of" s_U_table_of ["self","step"]
 x_U_opposite:MtF K "Truth" "opposite" "Truth.opposite" s_U_opposite ["self","table","depth"]
 x_U_over_points:MtF K "Truth" "over_points" "Truth.over_points" s_U_over_points ["self","step","table"]
 x_U_work:MtF K "Truth" "work" "Truth.work" s_U_work ["self","step","tables"]
 x_is_so:FnF K mg "is_so" s_is_so ["sentence","structure"]
 x_is_structure:FnF K mg "is_structure" s_is_structure ["g"]
 x_is_mark:FnF K mg "is_mark" s_is_mark ["m"]
 x_is_slot:FnF K mg "is_slot" s_is_slot ["slot"]
 x_is_byte_count:FnF K mg "is_byte_count" s_is_byte_count ["n"]
 x_is_lie_count:FnF K mg "is_lie_count" s_is_lie_count ["n"]
 x_is_round_count:FnF K mg "is_round_count" s_is_round_count ["k","two_count"]
 x_B_init:MtF K "Table" "__init__" "Table.__init__" s_B_init ["self"]
 x_B_begin:MtF K "Table" "begin" "Table.begin" s_B_begin ["self"]
 x_B_points:MtF K "Table" "points" "Table.points" s_B_points ["self","g","n"]
 x_B_has_point:MtF K "Table" "has_point" "Table.has_point" s_B_has_point ["self","g","x"]
 x_B_arc:MtF K "Table" "arc" "Table.arc" s_B_arc ["self","g","x","y","on"]
 x_B_mark:MtF K "Table" "mark" "Table.mark" s_B_mark ["self","g","m","x","on"]
 x_B_form:MtF K "Table" "form" "Table.form" s_B_form ["self","slot","n","codes"]
 x_B_refusal:MtF K "Table" "refusal" "Table.refusal" s_B_refusal ["self","slot"]
 x_B_text:MtF K "Table" "text" "Table.text" s_B_text ["self","slot","most"]
 x_B_rank:MtF K "Table" "rank" "Table.rank" s_B_rank ["self","slot"]
 x_B_holds:MtF K "Table" "holds" "Table.holds" s_B_holds ["self","g","slot"]
 x_B_game:MtF K "Table" "game" "Table.game" s_B_game ["self"]
 x_B_told:MtF K "Table" "told" "Table.told" s_B_told ["self"]
 x_B_can_lie:MtF K "Table" "can_lie" "Table.can_lie" s_B_can_lie ["self","lie"]
 x_B_reply:MtF K "Table" "reply" "Table.reply" s_B_reply ["self","side","x","k","n","lie"]
 x_B_stones:MtF K "Table" "stones" "Table.stones" s_B_stones ["self","p"]
 x_has_row:FnF K mg "has_row" s_has_row ["call"]
 x_ask:FnF K mg "ask" s_ask ["table","call","wholes","row"]
 x_answers_of:FnF K mg "answers_of" s_answers_of ["table","calls"]
 x_answers:FnF K mg "answers" s_answers ["calls"]
 g_NONE_FITS:∃ t,mg "NONE_FITS" = some (.int (-1) t)
 g_MOST_DEPTH:∃ t,mg "MOST_DEPTH" = some (.int (4) t)
 g_MARK_COUNT:∃ t,mg "MARK_COUNT" = some (.int (2) t)
 g_STRUCTURE_COUNT:∃ t,mg "STRUCTURE_COUNT" = some (.int (2) t)
 g_SLOT_COUNT:∃ t,mg "SLOT_COUNT" = some (.int (8) t)
 g_MOST_POINTS:∃ t,mg "MOST_POINTS" = some (.int (12) t)
 g_MOST_BYTES:∃ t,mg "MOST_BYTES" = some (.int (256) t)
 g_MOST_LIE:∃ t,mg "MOST_LIE" = some (.int (6) t)
 g_MOST_STONES:∃ t,mg "MOST_STONES" = some (.int (3) t)
 g_MOST_ROUNDS:∃ t,mg "MOST_ROUNDS" = some (.int (4) t)
 g_MOST_BESIDE_REPLY:∃ t,mg "MOST_BESIDE_REPLY" = some (.int (3) t)
 g_DONE:∃ t,mg "DONE" = some (.int (0) t)
 g_OUTSIDE:∃ t,mg "OUTSIDE" = some (.int (-1) t)
 g_MISSING:∃ t,mg "MISSING" = some (.int (-2) t)
 g_BEGIN:∃ t,mg "BEGIN" = some (.int (0) t)
 g_POINTS:∃ t,mg "POINTS" = some (.int (1) t)
 g_ARC:∃ t,mg "ARC" = some (.int (2) t)
 g_MARK:∃ t,mg "MARK" = some (.int (3) t)
 g_FORM:∃ t,mg "FORM" = some (.int (4) t)
 g_TEXT:∃ t,mg "TEXT" = some (.int (5) t)
 g_RANK:∃ t,mg "RANK" = some (.int (6) t)
 g_HOLDS:∃ t,mg "HOLDS" = some (.int (7) t)
 g_TOLD:∃ t,mg "TOLD" = some (.int (8) t)
 g_REPLY:∃ t,mg "REPLY" = some (.int (9) t)
 nb_len:mg "len" = none
 nb_range:mg "range" = none
 nb_reversed:mg "reversed" = none
 nb_enumerate:mg "enumerate" = none
 nb_zip:mg "zip" = none
 nb_sum:mg "sum" = none
 nb_any:mg "any" = none
 nb_all:mg "all" = none
 nb_min:mg "min" = none
 nb_max:mg "max" = none
 nb_list:mg "list" = none
 nb_dict:mg "dict" = none
 g_NAMES:mg "NAMES" = some (.ref (cA K "NAMES"))
 t_NAMES:∀ H:Hp,SqT K H (cA K "NAMES") [(.str "u"),(.str "v"),(.str "w"),(.str "x"),(.str "y"),(.str "z")]
 g_SIGNS:mg "SIGNS" = some (.ref (cA K "SIGNS"))
 d_SIGNS:GD K P w (cA K "SIGNS") kv_SIGNS
 g_FOLLOWING:mg "FOLLOWING" = some (.ref (cA K "FOLLOWING"))
 d_FOLLOWING:GD K P w (cA K "FOLLOWING") (kv_FOLLOWING K)
 x_FOLLOWING_0:∀ H:Hp,SqT K H (xA K (cA K "FOLLOWING") 0) [(.str "name"),(.str "name"),(.str "end")]
 x_FOLLOWING_1:∀ H:Hp,SqT K H (xA K (cA K "FOLLOWING") 1) [(.str "name"),(.str "end")]
 x_FOLLOWING_2:∀ H:Hp,SqT K H (xA K (cA K "FOLLOWING") 2) [(.str "name"),(.str "end")]
 x_FOLLOWING_3:∀ H:Hp,SqT K H (xA K (cA K "FOLLOWING") 3) [(.str "name"),(.str "name"),(.str "end")]
 x_FOLLOWING_4:∀ H:Hp,SqT K H (xA K (cA K "FOLLOWING") 4) [(.str "formula"),(.str "end")]
 x_FOLLOWING_5:∀ H:Hp,SqT K H (xA K (cA K "FOLLOWING") 5) [(.str "formula"),(.str "join"),(.str "formula"),(.str "close"),(.str "end")]
 x_FOLLOWING_6:∀ H:Hp,SqT K H (xA K (cA K "FOLLOWING") 6) [(.str "binder"),(.str "formula"),(.str "end"),(.str "leave")]
 x_FOLLOWING_7:∀ H:Hp,SqT K H (xA K (cA K "FOLLOWING") 7) [(.str "binder"),(.str "formula"),(.str "end"),(.str "leave")]
 g_WHOLE_COUNTS:mg "WHOLE_COUNTS" = some (.ref (cA K "WHOLE_COUNTS"))
 d_WHOLE_COUNTS:GD K P w (cA K "WHOLE_COUNTS") kv_WHOLE_COUNTS
end Pg
end
set_option Elab.async false
set_option maxHeartbeats 4000000
namespace Pg
open PySem PySem.Spec PyProof.Rows L2
open PySem.W (Codec Frag)
open Rc82 (Struct)
section
variable {P:Program} {w:World} {K:Frag} {mg:Str→Option Value} {base:Heap}
section
variable {A B C D E F I J L M N O U W X Y Z:Type} {G:Prop}
theorem ex1 {p:A→Prop} (h:∃ a,p a) (k:∀ a,p a→G) : G:=h.elim k
theorem ex2 {p:A→B→Prop} (h:∃ a b,p a b) (k:∀ a b,p a b→G) : G:=h.elim fun a h=>ex1 h (k a)
theorem ex3 {p:A→B→C→Prop} (h:∃ a b c,p a b c) (k:∀ a b c,p a b c→G) : G:=h.elim fun a h=>ex2 h (k a)
theorem ex4 {p:A→B→C→D→Prop} (h:∃ a b c d,p a b c d) (k:∀ a b c d,p a b c d→G) : G:=h.elim fun a h=>ex3 h (k a)
theorem ex5 {p:A→B→C→D→E→Prop} (h:∃ a b c d e,p a b c d e) (k:∀ a b c d e,p a b c d e→G) : G:=h.elim fun a h=>ex4 h (k a)
theorem ex6 {p:A→B→C→D→E→F→Prop} (h:∃ a b c d e f,p a b c d e f) (k:∀ a b c d e f,p a b c d e f→G) : G:=h.elim fun a h=>ex5 h (k a)
theorem ex7 {p:A→B→C→D→E→F→I→Prop} (h:∃ a b c d e f i,p a b c d e f i) (k:∀ a b c d e f i,p a b c d e f i→G) : G:=h.elim fun a h=>ex6 h (k a)
theorem ex8 {p:A→B→C→D→E→F→I→J→Prop} (h:∃ a b c d e f i j,p a b c d e f i j) (k:∀ a b c d e f i j,p a b c d e f i j→G) : G:=h.elim fun a h=>ex7 h (k a)
theorem ex9 {p:A→B→C→D→E→F→I→J→L→Prop} (h:∃ a b c d e f i j l,p a b c d e f i j l) (k:∀ a b c d e f i j l,p a b c d e f i j l→G) : G:=h.elim fun a h=>ex8 h (k a)
theorem ex10 {p:A→B→C→D→E→F→I→J→L→M→Prop} (h:∃ a b c d e f i j l m,p a b c d e f i j l m) (k:∀ a b c d e f i j l m,p a b c d e f i j l m→G) : G:=h.elim fun a h=>ex9 h (k a)
theorem ex11 {p:A→B→C→D→E→F→I→J→L→M→N→Prop} (h:∃ a b c d e f i j l m n,p a b c d e f i j l m n) (k:∀ a b c d e f i j l m n,p a b c d e f i j l m n→G) : G:=h.elim fun a h=>ex10 h (k a)
theorem ex12 {p:A→B→C→D→E→F→I→J→L→M→N→O→Prop} (h:∃ a b c d e f i j l m n o,p a b c d e f i j l m n o) (k:∀ a b c d e f i j l m n o,p a b c d e f i j l m n o→G) : G:=h.elim fun a h=>ex11 h (k a)
theorem ex13 {p:A→B→C→D→E→F→I→J→L→M→N→O→U→Prop} (h:∃ a b c d e f i j l m n o u,p a b c d e f i j l m n o u) (k:∀ a b c d e f i j l m n o u,p a b c d e f i j l m n o u→G) : G:=h.elim fun a h=>ex12 h (k a)
end
section
variable {A B C D E F I J L M N O U W X Y Z G:Prop}
theorem an2 (h:A∧B) (k:A→B→G) : G:=k h.1 h.2
theorem an3 (h:A∧B∧C) (k:A→B→C→G) : G:=an2 h.2 (k h.1)
theorem an4 (h:A∧B∧C∧D) (k:A→B→C→D→G) : G:=an3 h.2 (k h.1)
theorem an5 (h:A∧B∧C∧D∧E) (k:A→B→C→D→E→G) : G:=an4 h.2 (k h.1)
theorem an6 (h:A∧B∧C∧D∧E∧F) (k:A→B→C→D→E→F→G) : G:=an5 h.2 (k h.1)
theorem an7 (h:A∧B∧C∧D∧E∧F∧I) (k:A→B→C→D→E→F→I→G) : G:=an6 h.2 (k h.1)
theorem an8 (h:A∧B∧C∧D∧E∧F∧I∧J) (k:A→B→C→D→E→F→I→J→G) : G:=an7 h.2 (k h.1)
theorem an9 (h:A∧B∧C∧D∧E∧F∧I∧J∧L) (k:A→B→C→D→E→F→I→J→L→G) : G:=an8 h.2 (k h.1)
theorem an10 (h:A∧B∧C∧D∧E∧F∧I∧J∧L∧M) (k:A→B→C→D→E→F→I→J→L→M→G) : G:=an9 h.2 (k h.1)
theorem an11 (h:A∧B∧C∧D∧E∧F∧I∧J∧L∧M∧N) (k:A→B→C→D→E→F→I→J→L→M→N→G) : G:=an10 h.2 (k h.1)
theorem an12 (h:A∧B∧C∧D∧E∧F∧I∧J∧L∧M∧N∧O) (k:A→B→C→D→E→F→I→J→L→M→N→O→G) : G:=an11 h.2 (k h.1)
theorem an13 (h:A∧B∧C∧D∧E∧F∧I∧J∧L∧M∧N∧O∧U) (k:A→B→C→D→E→F→I→J→L→M→N→O→U→G) : G:=an12 h.2 (k h.1)
end
theorem nR (T:Txt P w K mg) : NoAttr K (cA K "Reader") "signs"∧NoAttr K (cA K "Reader") "at"∧NoAttr K (cA K "Reader") "expected"∧NoAttr K (cA K "Reader") "scope"∧NoAttr K (cA K "Reader") "deepest"∧NoAttr K (cA K "Reader") "begun"∧NoAttr K (cA K "Reader") "read_levels"∧NoAttr K (cA K "Reader") "done":=⟨T.n_R_signs,T.n_R_at,T.n_R_expected,T.n_R_scope,T.n_R_deepest,T.n_R_begun,T.n_R_read_levels,T.n_R_done⟩
abbrev FM (P:Program) (w:World) (K:Frag) (mg:Str→Option Value) (base:Heap) (n:Nat) (c m:Str) (ps:List Str) (sp:Sp):=FnOk P w K mg base CX0 n (mA K (cA K c) m) (dA K (mA K (cA K c) m)) ps sp
abbrev FF (P:Program) (w:World) (K:Frag) (mg:Str→Option Value) (base:Heap) (n:Nat) (c:Str) (ps:List Str) (sp:Sp):=FnOk P w K mg base CX0 n (cA K c) (dA K (cA K c)) ps sp
theorem hpL :(∀ {α:Type} {a b:α},(some a=some b)=(a=b))∧(∀ {a b:Addr} {c d:Addr} {e f:List (Str × V)},(HO.ins a c e=HO.ins b d f)=(a=b∧c=d∧e=f))∧(∀ {α:Type} {p:α→Prop} {a:α},(∃ x,a=x∧p x)↔p a)∧(∀ {α:Type} {p:α→Prop} {b:Prop},(∃ x,b∧p x)↔b∧∃ x,p x)∧(∀ {a b c:Prop},(a∧b)∧c↔a∧b∧c)∧(∀ {a:Prop},True∧a↔a)∧∀ {a:Prop},a∧True↔a:=⟨Option.some.injEq _ _,HO.ins.injEq _ _ _ _ _ _,exists_eq_left',exists_and_left,and_assoc,iff_of_eq (true_and _),iff_of_eq (and_true _)⟩
theorem map_c {α β:Type} {f:α→β} {a:α} {l:List α} : List.map f (a :: l)=f a :: List.map f l:=rfl
theorem map_n {α β:Type} {f:α→β} : List.map f ([]:List α)=[]:=rfl
set_option backward.defeqAttrib.useBackward true
local macro_rules | `(tactic| walk_at "rd")=>`(tactic| ((try dsimp only [L2.start,map_c,map_n,List.length_cons,List.length_nil,List.cons_append,List.nil_append,List.replicate,Nat.reduceAdd,Nat.reduceSub]);(try simp only [↓tVar_0,↓tVar_s,↓gName_0,↓gName_s,↓onI_r,↓onB_r,↓onR_r,↓on0_r,↓on1_r,↓onE_i,↓onE_s,↓onE_b,↓kE_i,↓kE_s,↓kN_i,↓kN_s,↓iteT_r,↓iteF_r,tC2,kI,tVar_e,gName_e,onI_e,onB_e,onR_e,on0_e,on1_e,onE_e,map_c,map_n,tSeq,tNext,tIfS,tRet,tRetN,tDrop,tC,tOp,tUn,rI0,rI,rU,rEq,rNe,tTest,tB,tAnd,tOr,tNot,tAndV,tOrV,tIf,tFld,sFld,sFldAug,rAdd,tCall,tMeth,tMake,tCons,tNil,tLst,tTup,tAsg,gSub,rSetL,rIxL,tIsN,tCB,tGGet,tGNotIn,tGGet2,tBM,tBM0,rAppend,rPop,rExtend,rCat,rRep,rIn,tSl,rSlL,tPart,tNoPart,tAug,ipI,tDGet,tDIn,tDNotIn,sDPut,tDNewK,tDNewT,tDSet,tDPop1,tYes,wipe,cxK,List.length_cons,List.length_nil,List.cons_append,List.nil_append,List.replicate,Nat.reduceAdd,Nat.reduceSub,Option.some.injEq,V.int.injEq,V.bl.injEq,V.str.injEq,V.ref.injEq,List.cons.injEq,exists_eq_left',exists_and_left,HO.ins.injEq,and_assoc,and_true,true_and,decide_true,decide_false,Bool.not_true,Bool.not_false,if_true,if_false,Bool.false_eq_true,decide_eq_true_eq,Bool.not_eq_true',decide_eq_false_iff_not,Int.not_lt,Int.not_le,Bool.not_eq_eq_eq_not,List.getElem?_cons_zero,List.getElem?_cons_succ,List.set_cons_zero,List.set_cons_succ])))
local macro_rules | `(tactic| walk_at "ev")=>`(tactic| (simp only [iRng1,iRng2,iRng3,iList,iEnum,iZip,iRevT,iKeys];walk_at "rd"))
def sp_is_structure (_:Frag) : Sp:=fun vs H Q _=>∃ g:Int,vs=[.int g]∧Q (.bl (decide (0≤g) && decide (g < 2))) H
theorem ok_is_structure (T:Txt P w K mg) : FF P w K mg base 1 "is_structure" ["g"] (sp_is_structure K):=by
 refine T.x_is_structure.F.ok sc_is_structure (fun _ _ _ _ h=>ex1 h fun _ e=>e.1▸rfl) fun _ _ _ s H vs Q E hr zh=>ex1 zh fun g yh=>an2 yh fun vz k=>?_
 clear zh yh;subst vz
 refine ⟨_,(pss_one (ps_ret (pe_and (pe_cmpR op_ge (pv 0) pe_int (nomark _)) (pe_one (pe_cmpR op_lt (pv 0) (pe_gint rfl T.g_STRUCTURE_COUNT) (nomark _)))))),?_⟩
 walk_at "rd"
 by_cases c:0≤g
 ·simp only [c,if_true]
  simpa only [c,decide_true,Bool.true_and] using k
 ·simp only [c,if_false]
  simpa only [c,decide_false,Bool.false_and] using k
def sp_is_mark (_:Frag) : Sp:=fun vs H Q _=>∃ m:Int,vs=[.int m]∧Q (.bl (decide (0≤m) && decide (m < 2))) H
theorem ok_is_mark (T:Txt P w K mg) : FF P w K mg base 1 "is_mark" ["m"] (sp_is_mark K):=by
 refine T.x_is_mark.F.ok sc_is_mark (fun _ _ _ _ h=>ex1 h fun _ e=>e.1▸rfl) fun _ _ _ s H vs Q E hr zh=>ex1 zh fun m yh=>an2 yh fun vz k=>?_
 clear zh yh;subst vz
 refine ⟨_,(pss_one (ps_ret (pe_and (pe_cmpR op_ge (pv 0) pe_int (nomark _)) (pe_one (pe_cmpR op_lt (pv 0) (pe_gint rfl T.g_MARK_COUNT) (nomark _)))))),?_⟩
 walk_at "rd"
 by_cases c:0≤m
 ·simp only [c,if_true]
  simpa only [c,decide_true,Bool.true_and] using k
 ·simp only [c,if_false]
  simpa only [c,decide_false,Bool.false_and] using k
def sp_is_slot (_:Frag) : Sp:=fun vs H Q _=>∃ slot:Int,vs=[.int slot]∧Q (.bl (decide (0≤slot) && decide (slot < 8))) H
theorem ok_is_slot (T:Txt P w K mg) : FF P w K mg base 1 "is_slot" ["slot"] (sp_is_slot K):=by
 refine T.x_is_slot.F.ok sc_is_slot (fun _ _ _ _ h=>ex1 h fun _ e=>e.1▸rfl) fun _ _ _ s H vs Q E hr zh=>ex1 zh fun slot yh=>an2 yh fun vz k=>?_
 clear zh yh;subst vz
 refine ⟨_,(pss_one (ps_ret (pe_and (pe_cmpR op_ge (pv 0) pe_int (nomark _)) (pe_one (pe_cmpR op_lt (pv 0) (pe_gint rfl T.g_SLOT_COUNT) (nomark _)))))),?_⟩
 walk_at "rd"
 by_cases c:0≤slot
 ·simp only [c,if_true]
  simpa only [c,decide_true,Bool.true_and] using k
 ·simp only [c,if_false]
  simpa only [c,decide_false,Bool.false_and] using k
def sp_is_byte_count (_:Frag) : Sp:=fun vs H Q _=>∃ n:Int,vs=[.int n]∧Q (.bl (decide (1≤n) && decide (n≤256))) H
theorem ok_is_byte_count (T:Txt P w K mg) : FF P w K mg base 1 "is_byte_count" ["n"] (sp_is_byte_count K):=by
 refine T.x_is_byte_count.F.ok sc_is_byte_count (fun _ _ _ _ h=>ex1 h fun _ e=>e.1▸rfl) fun _ _ _ s H vs Q E hr zh=>ex1 zh fun n yh=>an2 yh fun vz k=>?_
 clear zh yh;subst vz
 refine ⟨_,(pss_one (ps_ret (pe_and (pe_cmpR op_ge (pv 0) pe_int (nomark _)) (pe_one (pe_cmpR op_le (pv 0) (pe_gint rfl T.g_MOST_BYTES) (nomark _)))))),?_⟩
 walk_at "rd"
 by_cases c:1≤n
 ·simp only [c,if_true]
  simpa only [c,decide_true,Bool.true_and] using k
 ·simp only [c,if_false]
  simpa only [c,decide_false,Bool.false_and] using k
def bls (r:List Bool) : HO:=.lst (r.map V.bl)
def hide (X:List Addr) (H:Hp) : Hp:=fun b=>if b∈X then none else H b
theorem hide_some {X:List Addr} {H:Hp} {b:Addr} {o:HO} (h:hide X H b=some o) : b∉X∧H b=some o:=by
 unfold hide at h
 split at h
 ·cases h
 ·exact ⟨by assumption,h⟩
theorem hide_at {X:List Addr} {H:Hp} {b:Addr} (h:b∉X) : hide X H b=H b:=if_neg h
theorem hide_kp {X:List Addr} {H:Hp}:Kp [] (hide X H) H:=fun b o e _=>(hide_some e).2
theorem hide_upd {X:List Addr} {H:Hp} {a:Addr} {o:HO} (h:a∉X) : hide X (upd H a o)=upd (hide X H) a o:=by
 funext b
 by_cases e:b=a
 ·subst e;rw [hide_at h,upd_same,upd_same]
 ·rw [upd_ne e]
  unfold hide
  rw [upd_ne e]
def Rows (H:Hp) (ra:List Addr) (E:List (List Bool)) : Prop:=ra.length=E.length∧∀ (i:Nat) (a:Addr) (r:List Bool),ra[i]? = some a→E[i]? = some r→H a=some (bls r)
def StrAt (K:Frag) (H:Hp) (p:Addr) (S:Struct) (fp:List Addr) : Prop:=∃ (dx la lm:Addr) (ra rm:List Addr) (E M:List (List Bool)),
 H p=some (.ins (cA K "Structure") dx (fs_S (.int S.n) (.ref la) (.ref lm)))∧H la=some (.lst (ra.map V.ref))∧H lm=some (.lst (rm.map V.ref))∧fp=ra ++ rm∧Rows H ra E∧Rows H rm M∧StrRel S E M
theorem ixN_in {n:Nat} {i:Int} (h0:0≤i) (h1:i < n) : ixN n i=some i.toNat:=by
 unfold ixN
 rw [if_pos h0,if_pos h1]
theorem at_in {α:Type} {xs:List α} {i:Int} {v:α} (h0:0≤i) (h:xs[i.toNat]? = some v) : atI xs i=some v:=by
 have:=atI_nat h
 rwa [show ((i.toNat:Nat) : Int)=i by omega] at this
theorem Rows.upd {H:Hp} {ra:List Addr} {E:List (List Bool)} {i:Nat} {a:Addr} {r':List Bool} (h:Rows H ra E) (nd:ra.Nodup) (ha:ra[i]? = some a) : Rows (L2.upd H a (bls r')) ra (E.set i r'):=by
 refine ⟨by simpa using h.1,fun j b r hb hr=>?_⟩
 by_cases e:j=i
 ·subst e
  have:b=a:=Option.some.inj (hb.symm.trans ha)
  subst this
  have hl:j < E.length:=by rw [←h.1];exact (List.getElem?_eq_some_iff.mp ha).1
  rw [List.getElem?_set_self hl] at hr
  cases hr
  exact upd_same
 ·rw [List.getElem?_set_ne (fun z=>e z.symm)] at hr
  rw [upd_ne (fun z=>e (nd_ix nd hb (by rw [z];exact ha)))]
  exact h.2 j b r hb hr
theorem Rows.skip {H:Hp} {ra:List Addr} {E:List (List Bool)} {a:Addr} {o:HO} (h:Rows H ra E) (hn:a∉ra) : Rows (L2.upd H a o) ra E :=
 ⟨h.1,fun j b r hb hr=>by rw [upd_ne (fun z=>hn (by rw [←z];exact List.mem_of_getElem? hb))];exact h.2 j b r hb hr⟩
theorem Rows.keep {H H':Hp} {ra:List Addr} {E:List (List Bool)} (h:Rows H ra E) (k:∀ b r,H b=some (bls r)→b∈ra→H' b=some (bls r)) : Rows H' ra E :=
 ⟨h.1,fun j b r hb hr=>k b _ (h.2 j b r hb hr) (List.mem_of_getElem? hb)⟩
theorem refs_bls {l:List Addr} {r:List Bool} {y:Nat} (hy:y < r.length) : HO.lst (l.map V.ref)≠bls r:=by
 intro e
 unfold bls at e
 injection e with e
 cases r with
 | nil=>simp at hy
 | cons b r=>cases l with
  | nil=>simp at e
  | cons a l=>simp at e
theorem bls_set (r:List Bool) (y:Nat) (b:Bool) : HO.lst ((r.map V.bl).set y (V.bl b))=bls (r.set y b):=by
 unfold bls
 rw [List.map_set]
theorem notz (on:Int) : (!decide (on=0))=decide (on≠0):=by
 by_cases h:on=0 <;> simp [h]
theorem StrAt.keep {H H':Hp} {p:Addr} {S:Struct} {fp:List Addr} (h:StrAt K H p S fp) (k1:∀ b C dx fs,H b=some (.ins C dx fs)→H' b=some (.ins C dx fs)) (k2:∀ b xs,H b=some (.lst xs)→H' b=some (.lst xs)) : StrAt K H' p S fp:=by
 obtain ⟨dx,la,lm,ra,rm,E,M,hp,hla,hlm,e,hE,hM,R⟩:=h
 exact ⟨dx,la,lm,ra,rm,E,M,k1 _ _ _ _ hp,k2 _ _ hla,k2 _ _ hlm,e,hE.keep fun b r h _=>k2 _ _ h,hM.keep fun b r h _=>k2 _ _ h,R⟩
theorem StrAt.kp {H H':Hp} {p:Addr} {S:Struct} {fp:List Addr} (h:StrAt K H p S fp) (k:Kp [] H H') : StrAt K H' p S fp:=h.keep (fun _ _ _ _ e=>k _ _ e (by simp)) fun _ _ e=>k _ _ e (by simp)
theorem StrAt.arcs {H:Hp} {p:Addr} {S:Struct} {fp:List Addr} (h:StrAt K H p S fp) : ∃ dx la lm,H p=some (.ins (cA K "Structure") dx (fs_S (.int S.n) (.ref la) (.ref lm))) ∧
  (∃ ra:List Addr,H la=some (.lst (ra.map V.ref))∧∀ x,x < S.n→∃ a r,(ra.map V.ref)[x]? = some (.ref a)∧H a=some (.lst r)∧∀ y,y < S.n→r[y]? = some (.bl (Rc82.arc S x y))) ∧
  ∃ r0 r1 a0 a1,H lm=some (.lst [.ref a0,.ref a1])∧H a0=some (.lst r0)∧H a1=some (.lst r1)∧∀ x,x < S.n→r0[x]? = some (.bl (S.p.testBit x))∧r1[x]? = some (.bl (S.q.testBit x)):=by
 obtain ⟨dx,la,lm,ra,rm,E,M,hp,hla,hlm,rfl,hE,hM,R⟩:=h
 refine ⟨dx,la,lm,hp,⟨ra,hla,fun x hx=>?_⟩,?_⟩
 ·obtain ⟨r,hr⟩ : ∃ r,E[x]? = some r:=⟨_,List.getElem?_eq_getElem (by rw [R.len];exact hx)⟩
  obtain ⟨a,ha⟩ : ∃ a,ra[x]? = some a:=⟨_,List.getElem?_eq_getElem (by rw [hE.1,R.len];exact hx)⟩
  refine ⟨a,_,by rw [List.getElem?_map,ha];rfl,hE.2 x a r ha hr,fun y hy=>?_⟩
  obtain ⟨b,hb⟩ : ∃ b,r[y]? = some b:=⟨_,List.getElem?_eq_getElem (by rw [(R.row x r hr).1];exact hy)⟩
  rw [List.getElem?_map,hb,(R.row x r hr).2 y b hb];rfl
 ·have hl:=hM.1
  rw [R.mlen] at hl
  match rm,hl,hlm,hM with
  | [a0,a1],_,hlm,hM =>
   obtain ⟨r0,hr0⟩ : ∃ r,M[0]? = some r:=⟨_,List.getElem?_eq_getElem (by rw [R.mlen];decide)⟩
   obtain ⟨r1,hr1⟩ : ∃ r,M[1]? = some r:=⟨_,List.getElem?_eq_getElem (by rw [R.mlen];decide)⟩
   refine ⟨_,_,a0,a1,hlm,hM.2 0 a0 r0 rfl hr0,hM.2 1 a1 r1 rfl hr1,fun x hx=>⟨?_,?_⟩⟩
   ·obtain ⟨b,hb⟩ : ∃ b,r0[x]? = some b:=⟨_,List.getElem?_eq_getElem (by rw [(R.mrow 0 r0 hr0).1];exact hx)⟩
    rw [List.getElem?_map,hb,(R.mrow 0 r0 hr0).2 x b hb];rfl
   ·obtain ⟨b,hb⟩ : ∃ b,r1[x]? = some b:=⟨_,List.getElem?_eq_getElem (by rw [(R.mrow 1 r1 hr1).1];exact hx)⟩
    rw [List.getElem?_map,hb,(R.mrow 1 r1 hr1).2 x b hb];rfl
def sp_S_has_point (K:Frag) : Sp:=fun vs H Q _=>∃ (p:Addr) (x:Int) (S:Struct) (fp:List Addr),vs=[.ref p,.int x]∧StrAt K H p S fp∧Q (.bl (decide (0≤x) && decide (x < S.n))) H
theorem ok_S_has_point (T:Txt P w K mg) : FM P w K mg base 1 "Structure" "has_point" ["self","x"] (sp_S_has_point K):=by
 refine T.x_S_has_point.F.ok sc_S_has_point (fun _ _ _ _ h=>ex4 h fun _ _ _ _ e=>e.1▸rfl) fun _ _ _ s H vs Q E hr zh=>ex4 zh fun p x S fp yh=>an3 yh fun vz z0 k=>?_
 clear zh yh;subst vz
 obtain ⟨dx,la,lm,ra,rm,E,M,hp,_⟩:=z0
 refine ⟨_,(pss_one (ps_ret (pe_and (pe_cmpR op_ge (pv 1) pe_int (nomark _)) (pe_one (pe_cmpR op_lt (pv 1) (pe_fld (pv 0) rfl) (nomark _)))))),?_⟩
 walk_at "rd"
 simp only [hp,Option.some.injEq,HO.ins.injEq,exists_eq_left',exists_and_left,and_assoc,T.c_S.cl,T.n_S_size,fs_S_size,true_and,and_true,V.int.injEq]
 by_cases c:0≤x
 ·simp only [c,if_true]
  simpa only [c,decide_true,Bool.true_and] using k
 ·simp only [c,if_false]
  simpa only [c,decide_false,Bool.false_and] using k
def sp_S_put_arc (K:Frag) : Sp:=fun vs H Q _=>∃ (p:Addr) (x y on:Int) (S:Struct) (fp X:List Addr),vs=[.ref p,.int x,.int y,.int on]∧StrAt K (hide X H) p S fp∧fp.Nodup∧0≤x∧x < S.n∧0≤y∧y < S.n ∧
 ∀ H',StrAt K (hide X H') p { S with rows:=S.rows.set x.toNat (Rc82.putBit (S.rows.getD x.toNat 0) y.toNat (decide (on≠0))) } fp→Kp fp H H'→Q .non H'
theorem ok_S_put_arc (T:Txt P w K mg) : FM P w K mg base 1 "Structure" "put_arc" ["self","x","y","on"] (sp_S_put_arc K):=by
 refine T.x_S_put_arc.F.ok sc_S_put_arc (fun _ _ _ _ h=>ex7 h fun _ _ _ _ _ _ _ e=>e.1▸rfl) fun _ _ _ s H vs Q E hr zh=>ex7 zh fun p x y on S fp X yh=>an8 yh fun vz z0 nd x0 x1 y0 y1 k=>?_
 clear zh yh;subst vz
 obtain ⟨dx,la,lm,ra,rm,E,M,hp',hla',hlm',rfl,hE',hM',R⟩:=z0
 refine ⟨_,(pss_one (ps_asg (pe_cmpR op_ne (pv 3) pe_int (nomark _)) (pg_sub (pe_ix ix_list (pe_fld (pv 0) rfl) (pv 1) (fun _ _=>rfl)) (pv 2) set_list))),?_⟩
 walk_at "rd"
 have hp:=(hide_some hp').2
 have hla:=(hide_some hla').2
 have hlm:=(hide_some hlm').2
 have hE:Rows H ra E:=hE'.keep fun b r h _=>(hide_some h).2
 have hM:Rows H rm M:=hM'.keep fun b r h _=>(hide_some h).2
 simp only [hp,Option.some.injEq,HO.ins.injEq,exists_eq_left',exists_and_left,and_assoc,T.c_S.cl,T.n_S_arcs,fs_S_arcs,true_and,and_true,V.ref.injEq]
 have hxl:x.toNat < E.length:=by rw [R.len];omega
 obtain ⟨r,hr⟩ : ∃ r,E[x.toNat]? = some r:=⟨_,List.getElem?_eq_getElem hxl⟩
 obtain ⟨a,ha⟩ : ∃ a,ra[x.toNat]? = some a:=⟨_,List.getElem?_eq_getElem (by rw [hE.1];exact hxl)⟩
 have hrow:=hE.2 _ _ _ ha hr
 have haX:=(hide_some (hE'.2 _ _ _ ha hr)).1
 have hyl:y.toNat < r.length:=by rw [(R.row _ _ hr).1];omega
 have nd':=List.nodup_append.mp nd
 have har:a∈ra:=List.mem_of_getElem? ha
 refine ⟨_,SqL.of hla,_,at_in x0 (by rw [List.getElem?_map,ha];rfl),a,rfl,_,hrow,_,ixN_in y0 (by rw [List.length_map];omega),?_⟩
 rw [notz,bls_set]
 refine k _ ?_ ((Kp.refl _).set (List.mem_append.mpr (.inl har)))
 rw [hide_upd haX]
 refine ⟨dx,la,lm,ra,rm,E.set x.toNat (r.set y.toNat (decide (on≠0))),M,?_,?_,?_,rfl,hE'.upd nd'.1 ha,hM'.skip (fun z=>nd'.2.2 a har a z rfl),R.arc hr _⟩
 ·rw [upd_ne (ne_of hp hrow (by intro z;cases z))];exact hp'
 ·rw [upd_ne (ne_of hla hrow (refs_bls hyl))];exact hla'
 ·rw [upd_ne (ne_of hlm hrow (refs_bls hyl))];exact hlm'
def sp_S_put_mark (K:Frag) : Sp:=fun vs H Q _=>∃ (p:Addr) (m x on:Int) (S:Struct) (fp X:List Addr),vs=[.ref p,.int m,.int x,.int on]∧StrAt K (hide X H) p S fp∧fp.Nodup∧0≤m∧m < 2∧0≤x∧x < S.n ∧
 ∀ H',StrAt K (hide X H') p (if m=0 then { S with p:=Rc82.putBit S.p x.toNat (decide (on≠0)) } else { S with q:=Rc82.putBit S.q x.toNat (decide (on≠0)) }) fp→Kp fp H H'→Q .non H'
theorem ok_S_put_mark (T:Txt P w K mg) : FM P w K mg base 1 "Structure" "put_mark" ["self","m","x","on"] (sp_S_put_mark K):=by
 refine T.x_S_put_mark.F.ok sc_S_put_mark (fun _ _ _ _ h=>ex7 h fun _ _ _ _ _ _ _ e=>e.1▸rfl) fun _ _ _ s H vs Q E hr zh=>ex7 zh fun p m x on S fp X yh=>an8 yh fun vz z0 nd m0 m1 x0 x1 k=>?_
 clear zh yh;subst vz
 obtain ⟨dx,la,lm,ra,rm,E,M,hp',hla',hlm',rfl,hE',hM',R⟩:=z0
 refine ⟨_,(pss_one (ps_asg (pe_cmpR op_ne (pv 3) pe_int (nomark _)) (pg_sub (pe_ix ix_list (pe_fld (pv 0) rfl) (pv 1) (fun _ _=>rfl)) (pv 2) set_list))),?_⟩
 walk_at "rd"
 have hp:=(hide_some hp').2
 have hla:=(hide_some hla').2
 have hlm:=(hide_some hlm').2
 have hE:Rows H ra E:=hE'.keep fun b r h _=>(hide_some h).2
 have hM:Rows H rm M:=hM'.keep fun b r h _=>(hide_some h).2
 simp only [hp,Option.some.injEq,HO.ins.injEq,exists_eq_left',exists_and_left,and_assoc,T.c_S.cl,T.n_S_marks,fs_S_marks,true_and,and_true,V.ref.injEq]
 have hml:m.toNat < M.length:=by rw [R.mlen];omega
 obtain ⟨r,hr⟩ : ∃ r,M[m.toNat]? = some r:=⟨_,List.getElem?_eq_getElem hml⟩
 obtain ⟨a,ha⟩ : ∃ a,rm[m.toNat]? = some a:=⟨_,List.getElem?_eq_getElem (by rw [hM.1];exact hml)⟩
 have hrow:=hM.2 _ _ _ ha hr
 have haX:=(hide_some (hM'.2 _ _ _ ha hr)).1
 have hyl:x.toNat < r.length:=by rw [(R.mrow _ _ hr).1];omega
 have nd':=List.nodup_append.mp nd
 have har:a∈rm:=List.mem_of_getElem? ha
 refine ⟨_,SqL.of hlm,_,at_in m0 (by rw [List.getElem?_map,ha];rfl),a,rfl,_,hrow,_,ixN_in x0 (by rw [List.length_map];omega),?_⟩
 rw [notz,bls_set]
 have em:(if m=0 then { S with p:=Rc82.putBit S.p x.toNat (decide (on≠0)) } else { S with q:=Rc82.putBit S.q x.toNat (decide (on≠0)) }:Struct)=if m.toNat=0 then { S with p:=Rc82.putBit S.p x.toNat (decide (on≠0)) } else { S with q:=Rc82.putBit S.q x.toNat (decide (on≠0)) }:=by
  by_cases z:m=0
  ·rw [if_pos z,if_pos (by omega)]
  ·rw [if_neg z,if_neg (by omega)]
 have en:((if m=0 then { S with p:=Rc82.putBit S.p x.toNat (decide (on≠0)) } else { S with q:=Rc82.putBit S.q x.toNat (decide (on≠0)) }:Struct)).n=S.n:=by split <;> rfl
 refine k _ ?_ ((Kp.refl _).set (List.mem_append.mpr (.inr har)))
 rw [hide_upd haX]
 refine ⟨dx,la,lm,ra,rm,E,M.set m.toNat (r.set x.toNat (decide (on≠0))),?_,?_,?_,rfl,hE'.skip (fun z=>nd'.2.2 a z a har rfl),hM'.upd nd'.2.1 ha,by rw [em];exact R.mark hr _⟩
 ·rw [upd_ne (ne_of hp hrow (by intro z;cases z)),en];exact hp'
 ·rw [upd_ne (ne_of hla hrow (refs_bls hyl))];exact hla'
 ·rw [upd_ne (ne_of hlm hrow (refs_bls hyl))];exact hlm'
def RepInv (H:Hp) (D:Addr) (v:V) (n:Nat) (j:Nat) (H':Hp) : Prop:=∃ ra:List Addr,ra.length=j∧H' D=some (.lst (ra.map V.ref))∧(D :: ra).Nodup∧(∀ b∈ra,H b=none)∧(∀ a∈ra,H' a=some (.lst (List.replicate n v)))∧∀ b o,H b=some o→H' b=some o
theorem RepInv.start {H:Hp} {D:Addr} {v:V} {n:Nat} (hD:H D=none) : RepInv H D v n 0 (upd H D (.lst [])) :=
 ⟨[],rfl,upd_same,by simp,(fun b hb=>by cases hb),(fun b hb=>by cases hb),fun b o e=>by rw [upd_ne (ne_of_none e hD)];exact e⟩
theorem RepInv.step {H H':Hp} {D:Addr} {v:V} {n j:Nat} (hD:H D=none) (h:RepInv H D v n j H') {q r:Addr} (hq:H' q=none) (hr:upd H' q (.lst [v]) r=none) :
  ∃ acc,upd (upd H' q (.lst [v])) r (.lst (List.replicate n v)) D=some (.lst acc)∧acc.length=j∧RepInv H D v n (j+1) (upd (upd (upd H' q (.lst [v])) r (.lst (List.replicate n v))) D (.lst (acc ++ [V.ref r]))):=by
 obtain ⟨ra,hl,hd,nd,fr,hra,kp⟩:=h
 have hrq:r≠q:=by
  intro e;subst e;rw [upd_same] at hr;cases hr
 have hr':H' r=none:=by rw [upd_ne hrq] at hr;exact hr
 have hDr:D≠r:=ne_of_none hd hr'
 have hDq:D≠q:=ne_of_none hd hq
 refine ⟨ra.map V.ref,by rw [upd_ne hDr,upd_ne hDq];exact hd,by simpa using hl,ra ++ [r],by simp [hl],by rw [upd_same];simp,?_,?_,?_,?_⟩
 ·have h1:r∉ra:=fun z=>by
   have:=hra r z
   rw [hr'] at this
   cases this
  have nd':=List.nodup_cons.mp nd
  refine List.nodup_cons.mpr ⟨fun z=>?_,nd_snoc nd'.2 h1⟩
  rcases List.mem_append.mp z with z | z
  ·exact nd'.1 z
  ·exact hDr (List.mem_singleton.mp z)
 ·intro b hb
  rcases List.mem_append.mp hb with hb | hb
  ·exact fr b hb
  ·rw [List.mem_singleton.mp hb]
   cases e:H r with
   | none=>rfl
   | some o=>rw [kp r o e] at hr';cases hr'
 ·intro a ha
  rcases List.mem_append.mp ha with ha | ha
  ·have h0:=hra a ha
   have nd':=List.nodup_cons.mp nd
   rw [upd_ne (fun z=>nd'.1 (by rw [←z];exact ha)),upd_ne (ne_of_none h0 hr'),upd_ne (ne_of_none h0 hq)]
   exact h0
  ·rw [List.mem_singleton.mp ha,upd_ne (Ne.symm hDr),upd_same]
 ·intro b o e
  have h0:=kp b o e
  rw [upd_ne (ne_of_none e hD),upd_ne (ne_of_none h0 hr'),upd_ne (ne_of_none h0 hq)]
  exact h0
theorem rows_of {H:Hp} {ra:List Addr} {n:Nat} (h:∀ a∈ra,H a=some (.lst (List.replicate n (V.bl false)))) : Rows H ra (List.replicate ra.length (List.replicate n false)):=by
 refine ⟨by simp,fun i a r ha hr=>?_⟩
 rw [(get_rep hr).1,h a (List.mem_of_getElem? ha)]
 unfold bls
 rw [List.map_replicate]
def sp_S_init (K:Frag) : Sp:=fun vs H Q _=>∃ (p dx:Addr) (n:Int) (X:List Addr),vs=[.ref p,.int n]∧(∀ x∈X,H x≠none)∧p∉X∧H p=some (.ins (cA K "Structure") dx [])∧0≤n∧n≤12 ∧
 ∀ H' fp,StrAt K (hide X H') p { n:=n.toNat,rows:=List.replicate n.toNat 0 } fp→fp.Nodup→(∀ b∈fp,H b=none)→Kp [p] H H'→Q .non H'
theorem ok_S_init (T:Txt P w K mg) : FM P w K mg base 1 "Structure" "__init__" ["self","size"] (sp_S_init K):=by
 refine T.x_S_init.F.ok sc_S_init (fun _ _ _ _ h=>ex4 h fun _ _ _ _ e=>e.1▸rfl) fun _ _ _ s H vs Q E hr zh=>ex4 zh fun p dx n X yh=>an7 yh fun vz hX pX hp n0 n12 k=>?_
 clear zh yh;subst vz
 refine ⟨_,(pss_cons (ps_fld (pv 0) (pv 1) rfl)
   (pss_cons (ps_fld (pv 0) (pe_lc rfl sc_S_init.nd (pi_range1 rfl T.nb_range (pa_cons (pv 1) pa_nil)) (blkOk_by (own:=[("point",2)]) rfl) (fun _ _ _ _ _=>(pg_name (i:=2) sc_S_init.nd rfl (Or.inl rfl))) (fun _ _ _ _ _=>pts_nil) (fun _ _ _ _ _=>(pe_op op_rep (pe_lst (pa_cons pe_bl pa_nil)) (pv 1)))) rfl)
   (pss_one (ps_fld (pv 0) (pe_lc rfl sc_S_init.nd (pi_range1 rfl T.nb_range (pa_cons (pe_gint rfl T.g_MARK_COUNT) pa_nil)) (blkOk_by (own:=[("mark",3)]) rfl) (fun _ _ _ _ _=>(pg_name (i:=3) sc_S_init.nd rfl (Or.inl rfl))) (fun _ _ _ _ _=>pts_nil) (fun _ _ _ _ _=>(pe_op op_rep (pe_lst (pa_cons pe_bl pa_nil)) (pv 1)))) rfl)))),?_⟩
 walk_at "rd"
 simp only [hp,Option.some.injEq,HO.ins.injEq,exists_eq_left',exists_and_left,and_assoc,T.c_S.cl,T.n_S_size,T.n_S_arcs,T.n_S_marks,true_and,and_true,V.int.injEq]
 refine ⟨by decide,n,rfl,by omega,by omega,fun D hD=>lc_range (RepInv _ D (.bl false) n.toNat) (.start hD) (fun j H2 hj h2=>⟨rfl,?_⟩) ?_⟩
 ·walk_at "rd"
  refine ⟨by decide,fun q hq=>⟨_,upd_same,by omega,by omega,?_,fun r hr'=>?_⟩⟩
  ·rw [List.length_singleton,sizeLine_eq];omega
  ·rw [List.flatten_replicate_singleton]
   obtain ⟨acc,e1,e2,e3⟩:=h2.step hD hq hr'
   exact ⟨acc,e1,by rw [e2,sizeLine_eq];omega,e3⟩
 ·intro H2 h2
  obtain ⟨ra,hl,hd,nd,fr,hra,kp⟩:=h2
  have hp2:=kp p _ upd_same
  have pD:p≠D:=ne_of_none upd_same hD
  refine ⟨_,_,_,hp2,T.c_S.cl,T.n_S_arcs,(show 1 < 1000 by decide),_,rfl,by decide,by decide,fun D2 hD2=>lc_range (RepInv _ D2 (.bl false) n.toNat) (.start hD2) (fun j H3 hj h3=>⟨rfl,?_⟩) ?_⟩
  ·walk_at "rd"
   refine ⟨by decide,fun q hq=>⟨_,upd_same,by omega,by omega,?_,fun r hr'=>?_⟩⟩
   ·rw [List.length_singleton,sizeLine_eq];omega
   ·rw [List.flatten_replicate_singleton]
    obtain ⟨acc,e1,e2,e3⟩:=h3.step hD2 hq hr'
    exact ⟨acc,e1,by rw [e2,sizeLine_eq];omega,e3⟩
  ·intro H3 h3
   obtain ⟨rm,ml,md,mnd,mfr,mra,mkp⟩:=h3
   have hp3:=mkp p _ upd_same
   refine ⟨_,_,_,hp3,T.c_S.cl,T.n_S_marks,(show 2 < 1000 by decide),?_⟩
   have nd1:=List.nodup_cons.mp nd
   have nd2:=List.nodup_cons.mp mnd
   have old:∀ b o,H b=some o→b≠p→H2 b=some o:=fun b o e hb=>kp b o (by rw [upd_ne hb];exact e)
   have old3:∀ b o,H2 b=some o→b≠p→H3 b=some o:=fun b o e hb=>mkp b o (by rw [upd_ne hb];exact e)
   have fresh1:∀ b∈ra,H b=none:=fun b hb=>by
    have:=fr b hb
    by_cases e:b=p
    ·rw [e,upd_same] at this;cases this
    ·rw [upd_ne e] at this;exact this
   have nep1:∀ b∈ra,b≠p:=fun b hb e=>by
    have:=fr b hb
    rw [e,upd_same] at this;cases this
   have nep2:∀ b∈rm,b≠p:=fun b hb e=>by
    have:=mfr b hb
    rw [e,upd_same] at this;cases this
   have fresh2:∀ b∈rm,H2 b=none:=fun b hb=>by
    have:=mfr b hb
    rw [upd_ne (nep2 b hb)] at this;exact this
   have hD3:H3 D=some (.lst (ra.map V.ref)):=old3 D _ hd (Ne.symm pD)
   have pD2:D2≠p:=fun e=>by rw [e,upd_same] at hD2;cases hD2
   have hra3:∀ a∈ra,H3 a=some (.lst (List.replicate n.toNat (V.bl false))):=fun a ha=>old3 a _ (hra a ha) (nep1 a ha)
   have e1:=rows_of (n:=n.toNat) (fun a ha=>(upd_ne (nep1 a ha)).trans (hra3 a ha) : ∀ a∈ra,upd H3 p (HO.ins (cA K "Structure") dx (putF "marks" (V.ref D2) (putF "arcs" (V.ref D) (putF "size" (V.int n) [])))) a=_)
   have e2:=rows_of (n:=n.toNat) (fun a ha=>(upd_ne (nep2 a ha)).trans (mra a ha) : ∀ a∈rm,upd H3 p (HO.ins (cA K "Structure") dx (putF "marks" (V.ref D2) (putF "arcs" (V.ref D) (putF "size" (V.int n) [])))) a=_)
   rw [hl] at e1
   rw [ml] at e2
   have fresh3:∀ b∈rm,H b=none:=fun b hb=>by
    have:=fresh2 b hb
    cases e:H b with
    | none=>rfl
    | some o=>rw [old b o e (nep2 b hb)] at this;cases this
   have nX:∀ b,H b=none→b∉X:=fun b e m=>hX b m e
   have fD:H D=none:=by rw [upd_ne (Ne.symm pD)] at hD;exact hD
   have fD2:H D2=none:=by
    rw [upd_ne pD2] at hD2
    cases e:H D2 with
    | none=>rfl
    | some o=>rw [old D2 o e pD2] at hD2;cases hD2
   refine k _ (ra ++ rm) ⟨dx,D,D2,ra,rm,_,_,?_,(hide_at (nX D fD)).trans ((upd_ne (Ne.symm pD)).trans hD3),(hide_at (nX D2 fD2)).trans ((upd_ne pD2).trans md),rfl,e1.keep fun b r h hb=>(hide_at (nX b (fresh1 b hb))).trans h,e2.keep fun b r h hb=>(hide_at (nX b (fresh3 b hb))).trans h,StrRel.new n.toNat⟩ ?_ ?_ ?_
   ·rw [hide_at pX,upd_same]
    show some (HO.ins (cA K "Structure") dx (fs_S (.int n) (.ref D) (.ref D2)))=some (HO.ins (cA K "Structure") dx (fs_S (.int (n.toNat:Nat)) (.ref D) (.ref D2)))
    rw [show ((n.toNat:Nat) : Int)=n by omega]
   ·refine List.nodup_append.mpr ⟨nd1.2,nd2.2,fun a ha b hb e=>?_⟩
    subst e
    have:=hra a ha
    rw [fresh2 a hb] at this
    cases this
   ·intro b hb
    rcases List.mem_append.mp hb with hb | hb
    ·exact fresh1 b hb
    ·exact fresh3 b hb
   ·intro b o e hb
    have hb:b≠p:=fun z=>hb (by rw [z];simp)
    rw [upd_ne hb]
    exact old3 b o (old b o e hb) hb
open Rc82 (arc)
def GP (K:Frag) (H:Hp) (g:Addr) (SA SB:Struct) : Prop:=∃ (dx:Addr) (fs:List (Str × V)) (pl pr:Addr) (fl fr:List Addr),
 H g=some (.ins (cA K "Game") dx fs)∧fs.lookup ("left" : Str)=some (.ref pl)∧fs.lookup ("right" : Str)=some (.ref pr)∧fs.lookup ("two_count" : Str)=some (.int ((SA.n*SB.n:Nat) : Int)) ∧
  (∀ m,m∈(["two_of","same_marks","are_friends"] : List Str)→fs.lookup m=none)∧StrAt K H pl SA fl∧StrAt K H pr SB fr∧SA.n≤4∧SB.n≤4
theorem GP.kp {H H':Hp} {g:Addr} {SA SB:Struct} (h:GP K H g SA SB) (k:Kp [] H H') : GP K H' g SA SB:=by
 obtain ⟨dx,fs,pl,pr,fl,fr,hg,hl,hr',ht,hm,sl,sr,nA,nB⟩:=h
 exact ⟨dx,fs,pl,pr,fl,fr,k _ _ hg (by simp),hl,hr',ht,hm,sl.kp k,sr.kp k,nA,nB⟩
theorem prod_le {a b:Nat} (h:a≤4) (h':b≤4) : a*b≤16:=Nat.mul_le_mul h h'
def sp_G_two_of (K:Frag) : Sp:=fun vs H Q _=>∃ (g:Addr) (a b:Int) (SA SB:Struct),vs=[.ref g,.int a,.int b]∧GP K H g SA SB∧Q (.int (a*SB.n+b)) H
theorem ok_G_two_of (T:Txt P w K mg) : FM P w K mg base 1 "Game" "two_of" ["self","a","b"] (sp_G_two_of K):=by
 refine T.x_G_two_of.F.ok sc_G_two_of (fun _ _ _ _ h=>ex5 h fun _ _ _ _ _ e=>e.1▸rfl) fun _ _ _ s H vs Q E hr zh=>ex5 zh fun g a b SA SB yh=>an3 yh fun vz z0 k=>?_
 clear zh yh;subst vz
 obtain ⟨dx,fs,pl,pr,fl,fr,hg,hl,hr',ht,hm,sl,sr,nA,nB⟩:=z0
 obtain ⟨dl,la,lm,hpl,⟨ra,hla,hA⟩,m0,m1,am0,am1,hlm,hm0,hm1,hM⟩:=sl.arcs
 obtain ⟨dr,lb,ln,hpr,⟨rb,hlb,hB⟩,n0,n1,bm0,bm1,hln,hn0,hn1,hN⟩:=sr.arcs
 refine ⟨_,(pss_one (ps_ret (pe_op op_add (pe_op op_mul (pv 1) (pe_fld (pe_fld (pv 0) rfl) rfl)) (pv 2)))),?_⟩
 walk_at "rd"
 simp only [hg,T.c_G.cl,T.n_G_left,T.n_G_right,T.n_G_two_count,hl,hr',ht,T.c_S.cl,T.n_S_size,T.n_S_arcs,T.n_S_marks,fs_S_size,fs_S_arcs,fs_S_marks,hpl,hpr,hpL,V.int.injEq,V.ref.injEq]
 exact ⟨.inr ⟨by omega,by omega⟩,k⟩
def nats (l:List Nat) : HO:=.lst (l.map fun (z:Nat)=>V.int (z:Int))
def sp_G_line (K:Frag) : Sp:=fun vs H Q _=>∃ (g:Addr) (side:Int) (x:Nat) (SA SB:Struct),vs=[.ref g,.int side,.int x]∧GP K H g SA SB∧∀ H' D,Kp [] H H'→H D=none→H' D=some (nats (if side=0 then line0 SA SB x else line1 SA SB x))→Q (.ref D) H'
theorem ok_G_line (T:Txt P w K mg) : FM P w K mg base 2 "Game" "line" ["self","side","x"] (sp_G_line K):=by
 refine T.x_G_line.F.ok sc_G_line (fun _ _ _ _ h=>ex5 h fun _ _ _ _ _ e=>e.1▸rfl) fun _ _ _ s H vs Q E hr zh=>ex5 zh fun g side x SA SB yh=>an3 yh fun vz gp k=>?_
 clear zh yh;subst vz
 have gp':=gp
 obtain ⟨dx,fs,pl,pr,fl,fr,hg,hl,hr',ht,hm,sl,sr,nA,nB⟩:=gp'
 obtain ⟨dl,la,lm,hpl,⟨ra,hla,hA⟩,m0,m1,am0,am1,hlm,hm0,hm1,hM⟩:=sl.arcs
 obtain ⟨dr,lb,ln,hpr,⟨rb,hlb,hB⟩,n0,n1,bm0,bm1,hln,hn0,hn1,hN⟩:=sr.arcs
 have hno:=hm "two_of" (by decide)
 refine ⟨_,(pss_cons (ps_if (pt_eq (pv 1) pe_int (nomark _)) (pss_one (ps_ret (pe_lc rfl sc_G_line.nd (pi_range1 rfl T.nb_range (pa_cons (pe_fld (pe_fld (pv 0) rfl) rfl) pa_nil)) (blkOk_by (own:=[("b",3)]) rfl) (fun _ _ _ _ _=>(pg_name (i:=3) sc_G_line.nd rfl (Or.inl rfl))) (fun _ _ _ _ _=>pts_nil) (fun _ _ _ _ _=>(pe_meth (pv 0) T.c_G.cl T.x_G_two_of.m (ok_G_two_of T) (hr.mono (by decide)) T.x_G_two_of.b .nil pass0 (pa_cons (pv 2) (pa_cons (pv 3) pa_nil))))))) pss_nil)
   (pss_one (ps_ret (pe_lc rfl sc_G_line.nd (pi_range1 rfl T.nb_range (pa_cons (pe_fld (pe_fld (pv 0) rfl) rfl) pa_nil)) (blkOk_by (own:=[("a",4)]) rfl) (fun _ _ _ _ _=>(pg_name (i:=4) sc_G_line.nd rfl (Or.inl rfl))) (fun _ _ _ _ _=>pts_nil) (fun _ _ _ _ _=>(pe_meth (pv 0) T.c_G.cl T.x_G_two_of.m (ok_G_two_of T) (hr.mono (by decide)) T.x_G_two_of.b .nil pass0 (pa_cons (pv 4) (pa_cons (pv 2) pa_nil)))))))),?_⟩
 walk_at "rd"
 by_cases e:side=0
 ·rw [if_pos e] at k ⊢
  refine tlc_all (H1:=H) (J:=Itr 0 SB.n) (n:=SB.n) (fun b=>.int ((two SB (x,b) : Nat) : Int)) ?_ turns_range (by rw [sizeLine_eq];omega) gName_mono ?_ (fun D H' hD kp h=>k H' D kp hD (by rw [h,nats,line0,List.map_map];rfl))
  ·intro R q
   walk_at "ev"
   simp only [hg,T.c_G.cl,T.n_G_left,T.n_G_right,T.n_G_two_count,hl,hr',ht,T.c_S.cl,T.n_S_size,T.n_S_arcs,T.n_S_marks,fs_S_size,fs_S_arcs,fs_S_marks,hpl,hpr,hpL,V.int.injEq,V.ref.injEq]
   exact ⟨by omega,by omega,q⟩
  ·rintro i _ H2 Q2 hi rfl k2 q
   refine ⟨rfl,?_⟩
   walk_at "rd"
   have hg2:=k2 g _ hg (by simp)
   simp only [hg2,hno,hpL,V.int.injEq,V.ref.injEq]
   refine ⟨g,_,_,SA,SB,rfl,gp.kp k2,?_⟩
   have:=q H2 (Kp.refl _)
   simpa [two] using this
 ·rw [if_neg e] at k ⊢
  refine tlc_all (H1:=H) (J:=Itr 0 SA.n) (n:=SA.n) (fun a=>.int ((two SB (a,x) : Nat) : Int)) ?_ turns_range (by rw [sizeLine_eq];omega) gName_mono ?_ (fun D H' hD kp h=>k H' D kp hD (by rw [h,nats,line1,List.map_map];rfl))
  ·intro R q
   walk_at "ev"
   simp only [hg,T.c_G.cl,T.n_G_left,T.n_G_right,T.n_G_two_count,hl,hr',ht,T.c_S.cl,T.n_S_size,T.n_S_arcs,T.n_S_marks,fs_S_size,fs_S_arcs,fs_S_marks,hpl,hpr,hpL,V.int.injEq,V.ref.injEq]
   exact ⟨by omega,by omega,q⟩
  ·rintro i _ H2 Q2 hi rfl k2 q
   refine ⟨rfl,?_⟩
   walk_at "rd"
   have hg2:=k2 g _ hg (by simp)
   simp only [hg2,hno,hpL,V.int.injEq,V.ref.injEq]
   refine ⟨g,_,_,SA,SB,rfl,gp.kp k2,?_⟩
   have:=q H2 (Kp.refl _)
   simpa [two] using this
open Rc82 (arc)
theorem ev_f {ta:TE} {f:Str} {a C dx:Addr} {fs:List (Str × V)} {v:V} {σ:L2.St} {H:Hp} (h:∀ Q:VK,Q (.ref a) H→ta σ H Q) (hp:H a=some (.ins C dx fs)) (cl:Cls K C) (n:NoAttr K C f) (l:fs.lookup f=some v) (Q:VK) (q:Q v H) : tFld K ta f σ H Q :=
 h _ ⟨C,dx,fs,hp,cl,n,v,l,q⟩
theorem ev_v {i:Nat} {σ:L2.St} {v:V} {H:Hp} (h:σ[i]? = some (some v)) (Q:VK) (q:Q v H) : tVar i σ H Q:=tVar_e.mpr ⟨v,h,q⟩
theorem ev_x {ta tb:TE} {a:Addr} {xs:List V} {i:Int} {v:V} {σ:L2.St} {H:Hp} (h1:∀ Q:VK,Q (.ref a) H→ta σ H Q) (h2:∀ Q:VK,Q (.int i) H→tb σ H Q) (hs:H a=some (.lst xs)) (ht:atI xs i=some v) (Q:VK) (q:Q v H) : tOp (rIxL K) ta tb σ H Q :=
 h1 _ (h2 _ ⟨xs,SqL.of hs,v,ht,q⟩)
def sp_G_same_marks (K:Frag) : Sp:=fun vs H Q _=>∃ (g:Addr) (z:Nat) (SA SB:Struct),vs=[.ref g,.int z]∧GP K H g SA SB∧z < SA.n*SB.n∧∀ H',Kp [] H H'→Q (.bl (mkB SA SB (pt SB z))) H'
theorem pos_of {a b z:Nat} (h:z < a*b) : 0 < b:=Nat.pos_of_ne_zero fun e=>by rw [e] at h;simp at h
theorem ok_G_same_marks (T:Txt P w K mg) : FM P w K mg base 1 "Game" "same_marks" ["self","two"] (sp_G_same_marks K):=by
 refine T.x_G_same_marks.F.ok sc_G_same_marks (fun _ _ _ _ h=>ex4 h fun _ _ _ _ e=>e.1▸rfl) fun _ _ _ s H vs Q E hr zh=>ex4 zh fun g z SA SB yh=>an4 yh fun vz z0 hz k=>?_
 clear zh yh;subst vz
 obtain ⟨dx,fs,pl,pr,fl,fr,hg,hl,hr',ht,hm,sl,sr,nA,nB⟩:=z0
 obtain ⟨dl,la,lm,hpl,⟨ra,hla,hA⟩,m0,m1,am0,am1,hlm,hm0,hm1,hM⟩:=sl.arcs
 obtain ⟨dr,lb,ln,hpr,⟨rb,hlb,hB⟩,n0,n1,bm0,bm1,hln,hn0,hn1,hN⟩:=sr.arcs
 refine ⟨_,(pss_cons (ps_set (i:=2) sc_G_same_marks.nd rfl (Or.inr rfl) (pe_op op_fdiv (pv 1) (pe_fld (pe_fld (pv 0) rfl) rfl)))
   (pss_cons (ps_set (i:=3) sc_G_same_marks.nd rfl (Or.inr rfl) (pe_op op_mod (pv 1) (pe_fld (pe_fld (pv 0) rfl) rfl)))
   (pss_one (ps_ret (pe_cmpR (op_eqD hr.units) (pe_lc rfl sc_G_same_marks.nd (pi_list (pe_fld (pe_fld (pv 0) rfl) rfl)) (blkOk_by (own:=[("row",4)]) rfl) (fun _ _ _ _ _=>(pg_name (i:=4) sc_G_same_marks.nd rfl (Or.inl rfl))) (fun _ _ _ _ _=>pts_nil) (fun _ _ _ _ _=>(pe_ix (show IxR _ (rIxL K) from ix_list) (pv 4) (pv 2) (fun _ _=>rfl)))) (pe_lc rfl sc_G_same_marks.nd (pi_list (pe_fld (pe_fld (pv 0) rfl) rfl)) (blkOk_by (own:=[("row",4)]) rfl) (fun _ _ _ _ _=>(pg_name (i:=4) sc_G_same_marks.nd rfl (Or.inl rfl))) (fun _ _ _ _ _=>pts_nil) (fun _ _ _ _ _=>(pe_ix (show IxR _ (rIxL K) from ix_list) (pv 4) (pv 3) (fun _ _=>rfl)))) (nomark _)))))),?_⟩
 walk_at "rd"
 simp only [hg,T.c_G.cl,T.n_G_left,T.n_G_right,T.n_G_two_count,hl,hr',ht,T.c_S.cl,T.n_S_size,T.n_S_arcs,T.n_S_marks,fs_S_size,fs_S_arcs,fs_S_marks,hpl,hpr,hpL,V.int.injEq,V.ref.injEq]
 have bp:=pos_of hz
 have ⟨ia,ib⟩:=pt_in hz
 have ⟨ea0,ea1⟩:=hM _ ia
 have ⟨eb0,eb1⟩:=hN _ ib
 refine ⟨⟨by omega,by omega⟩,by omega,tlc_all (H1:=H) (J:=Itl K lm) (fun i=>.bl (if i=0 then SA.p.testBit (z / SB.n) else SA.q.testBit (z / SB.n))) ?_ (turns_list (SqL.of hlm)) (by show 2 < sizeLine;decide) gName_mono ?_ fun D1 H1 hD1 k1 h1=>?_⟩
 ·intro R q
  walk_at "ev"
  simp only [hg,T.c_G.cl,T.n_G_left,T.n_G_right,T.n_G_two_count,hl,hr',ht,T.c_S.cl,T.n_S_size,T.n_S_arcs,T.n_S_marks,fs_S_size,fs_S_arcs,fs_S_marks,hpl,hpr,hpL,V.int.injEq,V.ref.injEq]
  exact ⟨⟨_,SqL.of hlm⟩,q⟩
 ·intro i x H2 Q2 hi im k2 q
  refine ⟨rfl,?_⟩
  walk_at "rd"
  match i,im with
  | 0,im =>
   cases im
   exact ⟨_,rfl,_,SqL.of (k2 _ _ hm0 (by simp)),_,at_of (j:=z / SB.n) (by simp) ea0,q _ (Kp.refl _)⟩
  | 1,im =>
   cases im
   exact ⟨_,rfl,_,SqL.of (k2 _ _ hm1 (by simp)),_,at_of (j:=z / SB.n) (by simp) ea1,q _ (Kp.refl _)⟩
  | i+2,im=>simp at im
 have hg1:=k1 g _ hg (by simp)
 have hpr1:=k1 pr _ hpr (by simp)
 refine tlc_all (H1:=H1) (J:=Itl K ln) (fun i=>.bl (if i=0 then SB.p.testBit (z % SB.n) else SB.q.testBit (z % SB.n))) ?_ (turns_list (SqL.of (k1 _ _ hln (by simp)))) (by show 2 < sizeLine;decide) gName_mono ?_ fun D2 H2 hD2 k2 h2=>?_
 ·intro R q
  walk_at "ev"
  simp only [hg1,T.c_G.cl,T.n_G_left,T.n_G_right,T.n_G_two_count,hl,hr',ht,T.c_S.cl,T.n_S_size,T.n_S_arcs,T.n_S_marks,fs_S_size,fs_S_arcs,fs_S_marks,hpl,hpr1,hpL,V.int.injEq,V.ref.injEq]
  exact ⟨⟨_,SqL.of (k1 _ _ hln (by simp))⟩,q⟩
 ·intro i x H2 Q2 hi im k2 q
  refine ⟨rfl,?_⟩
  walk_at "rd"
  match i,im with
  | 0,im =>
   cases im
   exact ⟨_,rfl,_,SqL.of (k2 _ _ (k1 _ _ hn0 (by simp)) (by simp)),_,at_of (j:=z % SB.n) (by simp) eb0,q _ (Kp.refl _)⟩
  | 1,im =>
   cases im
   exact ⟨_,rfl,_,SqL.of (k2 _ _ (k1 _ _ hn1 (by simp)) (by simp)),_,at_of (j:=z % SB.n) (by simp) eb1,q _ (Kp.refl _)⟩
  | i+2,im=>simp at im
 refine ⟨.list [.bool (SA.p.testBit (z / SB.n)),.bool (SA.q.testBit (z / SB.n))],.list [.bool (SB.p.testBit (z % SB.n)),.bool (SB.q.testBit (z % SB.n))],.lst (SqL.of (k2 _ _ h1 (by simp))) (.cons (.bl _) (.cons (.bl _) .nil)),.lst (SqL.of h2) (.cons (.bl _) (.cons (.bl _) .nil)),rfl,rfl,?_⟩
 have:=k H2 (k1.trans k2)
 unfold mkB pt at this
 revert this
 cases SA.p.testBit (z / SB.n) <;> cases SA.q.testBit (z / SB.n) <;> cases SB.p.testBit (z % SB.n) <;> cases SB.q.testBit (z % SB.n) <;> exact id
def sp_G_are_friends (K:Frag) : Sp:=fun vs H Q _=>∃ (g:Addr) (z y:Nat) (SA SB:Struct),vs=[.ref g,.int z,.int y]∧GP K H g SA SB∧z < SA.n*SB.n∧y < SA.n*SB.n∧Q (.bl (frd SA SB z y)) H
theorem ok_G_are_friends (T:Txt P w K mg) : FM P w K mg base 1 "Game" "are_friends" ["self","two","other"] (sp_G_are_friends K):=by
 refine T.x_G_are_friends.F.ok sc_G_are_friends (fun _ _ _ _ h=>ex5 h fun _ _ _ _ _ e=>e.1▸rfl) fun _ _ _ s H vs Q E hr zh=>ex5 zh fun g z y SA SB yh=>an5 yh fun vz z0 hz hy k=>?_
 clear zh yh;subst vz
 obtain ⟨dx,fs,pl,pr,fl,fr,hg,hl,hr',ht,hm,sl,sr,nA,nB⟩:=z0
 refine ⟨_,(pss_cons (ps_set (i:=3) sc_G_are_friends.nd rfl (Or.inl rfl) (pe_op op_fdiv (pv 1) (pe_fld (pe_fld (pv 0) rfl) rfl)))
   (pss_cons (ps_set (i:=4) sc_G_are_friends.nd rfl (Or.inl rfl) (pe_op op_mod (pv 1) (pe_fld (pe_fld (pv 0) rfl) rfl)))
   (pss_cons (ps_set (i:=5) sc_G_are_friends.nd rfl (Or.inl rfl) (pe_op op_fdiv (pv 2) (pe_fld (pe_fld (pv 0) rfl) rfl)))
   (pss_cons (ps_set (i:=6) sc_G_are_friends.nd rfl (Or.inl rfl) (pe_op op_mod (pv 2) (pe_fld (pe_fld (pv 0) rfl) rfl)))
   (pss_cons (ps_if (pt_cmpR op_ne (pe_cmpR op_eq (pv 3) (pv 5) (nomark _)) (pe_cmpR op_eq (pv 4) (pv 6) (nomark _)) (nomark _)) (pss_one (ps_ret pe_bl)) pss_nil)
   (pss_one (ps_ret (pe_and (pe_cmpR op_eq (pe_ix ix_list (pe_ix ix_list (pe_fld (pe_fld (pv 0) rfl) rfl) (pv 3) (fun _ _=>rfl)) (pv 5) (fun _ _=>rfl)) (pe_ix ix_list (pe_ix ix_list (pe_fld (pe_fld (pv 0) rfl) rfl) (pv 4) (fun _ _=>rfl)) (pv 6) (fun _ _=>rfl)) (nomark _)) (pe_one (pe_cmpR op_eq (pe_ix ix_list (pe_ix ix_list (pe_fld (pe_fld (pv 0) rfl) rfl) (pv 5) (fun _ _=>rfl)) (pv 3) (fun _ _=>rfl)) (pe_ix ix_list (pe_ix ix_list (pe_fld (pe_fld (pv 0) rfl) rfl) (pv 6) (fun _ _=>rfl)) (pv 4) (fun _ _=>rfl)) (nomark _))))))))))),?_⟩
 obtain ⟨dl,la,lm,hpl,⟨ra,hla,hA⟩,m0,m1,am0,am1,hlm,hm0,hm1,hM⟩:=sl.arcs
 obtain ⟨dr,lb,ln,hpr,⟨rb,hlb,hB⟩,n0,n1,bm0,bm1,hln,hn0,hn1,hN⟩:=sr.arcs
 have bp:=pos_of hz
 have ⟨ia,ib⟩:=pt_in hz
 have ⟨ic,id⟩:=pt_in hy
 have e0:∀ {σ:L2.St},σ[0]? = some (some (V.ref g))→∀ Q:VK,Q (.ref pr) H→tFld K (tVar 0) "right" σ H Q:=fun h=>ev_f (ev_v h) hg T.c_G.cl T.n_G_right hr'
 have eR:∀ {σ:L2.St},σ[0]? = some (some (V.ref g))→∀ Q:VK,Q (.int SB.n) H→tFld K (tFld K (tVar 0) "right") "size" σ H Q:=fun h=>ev_f (e0 h) hpr T.c_S.cl T.n_S_size fs_S_size
 have eL:∀ {σ:L2.St},σ[0]? = some (some (V.ref g))→∀ Q:VK,Q (.ref la) H→tFld K (tFld K (tVar 0) "left") "arcs" σ H Q:=fun h=>ev_f (ev_f (ev_v h) hg T.c_G.cl T.n_G_left hl) hpl T.c_S.cl T.n_S_arcs fs_S_arcs
 have eM:∀ {σ:L2.St},σ[0]? = some (some (V.ref g))→∀ Q:VK,Q (.ref lb) H→tFld K (tFld K (tVar 0) "right") "arcs" σ H Q:=fun h=>ev_f (e0 h) hpr T.c_S.cl T.n_S_arcs fs_S_arcs
 have xL:∀ {σ:L2.St} {i j x w:Nat},σ[0]? = some (some (V.ref g))→σ[i]? = some (some (.int (x:Int)))→σ[j]? = some (some (.int (w:Int)))→x < SA.n→w < SA.n→∀ Q:VK,Q (.bl (arc SA x w)) H→tOp (rIxL K) (tOp (rIxL K) (tFld K (tFld K (tVar 0) "left") "arcs") (tVar i)) (tVar j) σ H Q:=fun h1 h2 h3 hx hw=>by
  obtain ⟨a,r,q1,q2,q3⟩:=hA _ hx
  exact ev_x (ev_x (eL h1) (ev_v h2) hla (atI_nat q1)) (ev_v h3) q2 (atI_nat (q3 _ hw))
 have xR:∀ {σ:L2.St} {i j x w:Nat},σ[0]? = some (some (V.ref g))→σ[i]? = some (some (.int (x:Int)))→σ[j]? = some (some (.int (w:Int)))→x < SB.n→w < SB.n→∀ Q:VK,Q (.bl (arc SB x w)) H→tOp (rIxL K) (tOp (rIxL K) (tFld K (tFld K (tVar 0) "right") "arcs") (tVar i)) (tVar j) σ H Q:=fun h1 h2 h3 hx hw=>by
  obtain ⟨a,r,q1,q2,q3⟩:=hB _ hx
  exact ev_x (ev_x (eM h1) (ev_v h2) hlb (atI_nat q1)) (ev_v h3) q2 (atI_nat (q3 _ hw))
 dsimp only [tSeq,tAsg,tOp]
 refine ev_v (v:=.int (z:Int)) rfl _ (eR rfl _ ⟨⟨by omega,by omega⟩,?_⟩)
 dsimp only [gName,tSeq,tAsg,tOp]
 refine ev_v (v:=.int (z:Int)) rfl _ (eR rfl _ ⟨by omega,?_⟩)
 dsimp only [gName,tSeq,tAsg,tOp]
 refine ev_v (v:=.int (y:Int)) rfl _ (eR rfl _ ⟨⟨by omega,by omega⟩,?_⟩)
 dsimp only [gName,tSeq,tAsg,tOp]
 refine ev_v (v:=.int (y:Int)) rfl _ (eR rfl _ ⟨by omega,?_⟩)
 dsimp only [tSeq,tIfS,tTest,tOp,rNe,rEq,gName,L2.start,map_c,map_n,List.length_cons,List.length_nil,List.cons_append,List.nil_append,List.replicate,Nat.reduceAdd,Nat.reduceSub,List.set_cons_succ,List.set_cons_zero,tVar_s,tVar_0,onE_i,onE_b,onB_r]
 simp only [←Int.natCast_ediv,←Int.natCast_emod]
 have fin:∀ {σ:L2.St},σ[0]? = some (some (V.ref g))→σ[3]? = some (some (.int ((z / SB.n:Nat) : Int)))→σ[4]? = some (some (.int ((z % SB.n:Nat) : Int)))→σ[5]? = some (some (.int ((y / SB.n:Nat) : Int)))→σ[6]? = some (some (.int ((y % SB.n:Nat) : Int))) →
   ((z / SB.n == y / SB.n) == (z % SB.n == y % SB.n))=true →
   tAndV (tOp rEq (tOp (rIxL K) (tOp (rIxL K) (tFld K (tFld K (tVar 0) "left") "arcs") (tVar 3)) (tVar 5)) (tOp (rIxL K) (tOp (rIxL K) (tFld K (tFld K (tVar 0) "right") "arcs") (tVar 4)) (tVar 6)))
    (tOp rEq (tOp (rIxL K) (tOp (rIxL K) (tFld K (tFld K (tVar 0) "left") "arcs") (tVar 5)) (tVar 3)) (tOp (rIxL K) (tOp (rIxL K) (tFld K (tFld K (tVar 0) "right") "arcs") (tVar 6)) (tVar 4))) σ H Q:=fun h0 h3 h4 h5 h6 he=>by
  refine xL h0 h3 h5 ia ic _ (xR h0 h4 h6 ib id _ ?_)
  dsimp only [rEq,onE_b,onB_r]
  have ek:frd SA SB z y=(decide (arc SA (z / SB.n) (y / SB.n)=arc SB (z % SB.n) (y % SB.n)) && decide (arc SA (y / SB.n) (z / SB.n)=arc SB (y % SB.n) (z % SB.n))):=by
   have he':((y / SB.n == z / SB.n) == (y % SB.n == z % SB.n))=true:=by rw [Bool.beq_comm (a:=y / SB.n),Bool.beq_comm (a:=y % SB.n)];exact he
   unfold frd relB pt
   simp only [he,he',Bool.true_and]
   simp only [Bool.beq_eq_decide_eq]
  rw [ek] at k
  by_cases e:arc SA (z / SB.n) (y / SB.n)=arc SB (z % SB.n) (y % SB.n)
  ·simp only [e,decide_true,if_true,Bool.true_and] at k ⊢
   refine xL h0 h5 h3 ic ia _ (xR h0 h6 h4 id ib _ ?_)
   exact k
  ·simp only [e,decide_false,Bool.false_eq_true,if_false,Bool.false_and] at k ⊢
   exact k
 have no:((z / SB.n == y / SB.n) == (z % SB.n == y % SB.n))=false→Q (.bl false) H:=fun he=>by
  have:frd SA SB z y=false:=by unfold frd relB pt;simp only [he,Bool.false_and]
  rwa [this] at k
 by_cases e1:z / SB.n=y / SB.n <;> by_cases e2:z % SB.n=y % SB.n <;> simp only [e1,e2,V.int.injEq,Int.natCast_inj,decide_true,decide_false,Bool.not_true,Bool.not_false,if_true,if_false,Bool.false_eq_true,V.bl.injEq,reduceCtorEq]
 ·exact fin (σ:=[some (.ref g),some (.int z),some (.int y),some (.int ((y / SB.n:Nat) : Int)),some (.int ((y % SB.n:Nat) : Int)),some (.int ((y / SB.n:Nat) : Int)),some (.int ((y % SB.n:Nat) : Int))]) rfl (by rw [e1];rfl) (by rw [e2];rfl) rfl rfl (by simp [e1,e2])
 ·exact no (by simp [e1,e2])
 ·exact no (by simp [e1,e2])
 ·exact fin (σ:=[some (.ref g),some (.int z),some (.int y),some (.int ((z / SB.n:Nat) : Int)),some (.int ((z % SB.n:Nat) : Int)),some (.int ((y / SB.n:Nat) : Int)),some (.int ((y % SB.n:Nat) : Int))]) rfl rfl rfl rfl rfl (by rw [beq_eq_false_iff_ne.mpr e1,beq_eq_false_iff_ne.mpr e2];rfl)
open Rc82 (arc)
theorem bt_sum :bootBuiltins "sum" = some (.builtin "sum"):=by decide +kernel
theorem bt_any :bootBuiltins "any" = some (.builtin "any"):=by decide +kernel
theorem bt_all :bootBuiltins "all" = some (.builtin "all"):=by decide +kernel
theorem bt_max :bootBuiltins "max" = some (.builtin "max"):=by decide +kernel
theorem bt_min :bootBuiltins "min" = some (.builtin "min"):=by decide +kernel
theorem bt_list :bootBuiltins "list" = some (.type "list"):=by decide +kernel
theorem bt_dict :bootBuiltins "dict" = some (.type "dict"):=by decide +kernel
theorem bitsOf_or {p:Nat→Bool} {i:Nat} (h:p i=true) : bitsOf i p ||| 2 ^ i=bitsOf (i+1) p:=by
 apply Nat.eq_of_testBit_eq
 intro w
 rw [or_test,bitsOf_bit,bitsOf_bit]
 by_cases e:i=w
 ·subst e;simp [h]
 ·simp only [e,decide_false,Bool.or_false]
  congr 1
  rw [decide_eq_decide];omega
theorem bitsOf_no {p:Nat→Bool} {i:Nat} (h:¬ p i=true) : bitsOf i p=bitsOf (i+1) p:=by rw [bitsOf_succ,if_neg h,Nat.add_zero]
def frM (SA SB:Struct) (z:Nat) : Nat:=bitsOf (SA.n*SB.n) (frd SA SB z)
def fitM (SA SB:Struct) (s:Nat) : Nat:=bitsOf (SA.n*SB.n) (fit SA SB s)
theorem fit_zero (SA SB:Struct) : fit SA SB 0=alone SA SB:=by funext z;unfold fit;simp
theorem fitM_put {SA SB:Struct} {s z:Nat} (hz:z < SA.n*SB.n) : fitM SA SB s &&& frM SA SB z=fitM SA SB (s ||| 2 ^ z):=by
 apply Nat.eq_of_testBit_eq
 intro w
 rw [Nat.testBit_and,fitM,frM,fitM,bitsOf_bit,bitsOf_bit,bitsOf_bit]
 by_cases hw:w < SA.n*SB.n
 ·simp only [hw,decide_true,Bool.true_and]
  rw [Bool.eq_iff_iff,Bool.and_eq_true,fit_iff,fit_iff]
  constructor
  ·rintro ⟨⟨h1,h2⟩,h3⟩
   refine ⟨h1,fun v hv e=>?_⟩
   rw [or_test,Bool.or_eq_true,decide_eq_true_eq] at e
   rcases e with e | rfl
   ·exact h2 v hv e
   ·exact h3
  ·rintro ⟨h1,h2⟩
   exact ⟨⟨h1,fun v hv e=>h2 v hv (by rw [or_test,e];rfl)⟩,h2 z hz (by rw [or_test];simp)⟩
 ·simp [hw]
def sp_G_friends_of (K:Frag) : Sp:=fun vs H Q _=>∃ (g:Addr) (z:Nat) (SA SB:Struct),vs=[.ref g,.int z]∧GP K H g SA SB∧z < SA.n*SB.n∧∀ H',Kp [] H H'→Q (.int ((frM SA SB z:Nat) : Int)) H'
theorem ok_G_friends_of (T:Txt P w K mg) : FM P w K mg base 2 "Game" "friends_of" ["self","two"] (sp_G_friends_of K):=by
 refine T.x_G_friends_of.F.ok sc_G_friends_of (fun _ _ _ _ h=>ex4 h fun _ _ _ _ e=>e.1▸rfl) fun _ _ _ s H vs Q E hr zh=>ex4 zh fun g z SA SB yh=>an4 yh fun vz gp hz k=>?_
 clear zh yh;subst vz
 have gp':=gp
 obtain ⟨dx,fs,pl,pr,fl,fr,hg,hl,hr',ht,hm,sl,sr,nA,nB⟩:=gp'
 have hno:=hm "are_friends" (by decide)
 have n16:=prod_le nA nB
 refine ⟨_,(pss_one (ps_ret (pe_callB (cr_sum rfl) (by rfl) T.nb_sum bt_sum (pa_cons (pe_lc rfl sc_G_friends_of.nd (pi_range1 rfl T.nb_range (pa_cons (pe_fld (pv 0) rfl) pa_nil)) (blkOk_by (own:=[("other",2)]) rfl) (fun _ _ _ _ _=>(pg_name (i:=2) sc_G_friends_of.nd rfl (Or.inl rfl))) (fun _ _ _ _ _=>(pts_one (pt_val (pe_meth (pv 0) T.c_G.cl T.x_G_are_friends.m (ok_G_are_friends T) (hr.mono (by decide)) T.x_G_are_friends.b .nil pass0 (pa_cons (pv 1) (pa_cons (pv 2) pa_nil)))))) (fun _ _ _ _ _=>(pe_op op_shlB pe_int (pv 2)))) pa_nil)))),?_⟩
 walk_at "rd"
 refine tlc_if (H1:=H) (J:=Itr 0 (SA.n*SB.n)) (n:=SA.n*SB.n) (frd SA SB z) (fun w=>.int ((2 ^ w:Nat) : Int)) ?_ turns_range (by rw [sizeLine_eq];omega) ?_ fun D H' hD kp h=>⟨D,((List.range (SA.n*SB.n)).filter (frd SA SB z)).map fun w=>((2 ^ w:Nat) : Int),rfl,SqL.of (by rw [h,List.map_map];rfl),?_⟩
 ·intro R q
  walk_at "ev"
  simp only [hg,T.c_G.cl,T.n_G_two_count,ht,hpL,V.int.injEq,V.ref.injEq]
  exact ⟨by omega,by omega,q⟩
 ·rintro i _ H2 Q2 N2 hi rfl k2 q1 q2
  refine ⟨rfl,?_⟩
  walk_at "rd"
  have hg2:=k2 g _ hg (by simp)
  simp only [hg2,hno,hpL,V.int.injEq,V.ref.injEq]
  refine ⟨g,z,i,SA,SB,by simp,gp.kp k2,hz,hi,_,rfl,?_⟩
  by_cases e:frd SA SB z i=true
  ·rw [if_pos e]
   refine ⟨⟨by omega,by omega,1,by omega,by decide⟩,?_⟩
   simpa using q1 e H2 (Kp.refl _)
  ·rw [if_neg e]
   exact q2 (by simpa using e) H2 (Kp.refl _)
 ·rw [bitsOf_sum]
  exact k H' kp
def sp_G_fitting_alone (K:Frag) : Sp:=fun vs H Q _=>∃ (g:Addr) (SA SB:Struct),vs=[.ref g]∧GP K H g SA SB∧∀ H',Kp [] H H'→Q (.int ((fitM SA SB 0:Nat) : Int)) H'
theorem ok_G_fitting_alone (T:Txt P w K mg) : FM P w K mg base 2 "Game" "fitting_alone" ["self"] (sp_G_fitting_alone K):=by
 refine T.x_G_fitting_alone.F.ok sc_G_fitting_alone (fun _ _ _ _ h=>ex3 h fun _ _ _ e=>e.1▸rfl) fun _ _ _ s H vs Q E hr zh=>ex3 zh fun g SA SB yh=>an3 yh fun vz gp k=>?_
 clear zh yh;subst vz
 have gp':=gp
 obtain ⟨dx,fs,pl,pr,fl,fr,hg,hl,hr',ht,hm,sl,sr,nA,nB⟩:=gp'
 have no1:=hm "same_marks" (by decide)
 have no2:=hm "are_friends" (by decide)
 have n16:=prod_le nA nB
 refine ⟨_,(pss_cons (ps_set (i:=1) sc_G_fitting_alone.nd rfl (Or.inl rfl) pe_int)
   (pss_cons (ps_for PassesOwn.never rfl (pi_range1 rfl T.nb_range (pa_cons (pe_fld (pv 0) rfl) pa_nil)) (pg_name (i:=2) sc_G_fitting_alone.nd rfl (Or.inl rfl)) (pss_one (ps_if (PW.pt (pw_and (pt_val (pe_meth (pv 0) T.c_G.cl T.x_G_same_marks.m (ok_G_same_marks T) (hr.mono (by decide)) T.x_G_same_marks.b .nil pass0 (pa_cons (pv 2) pa_nil))) (pw_and1 (pt_val (pe_meth (pv 0) T.c_G.cl T.x_G_are_friends.m (ok_G_are_friends T) (hr.mono (by decide)) T.x_G_are_friends.b .nil pass0 (pa_cons (pv 2) (pa_cons (pv 2) pa_nil))))))) (pss_one (ps_aug (i:=1) sc_G_fitting_alone.nd rfl (Or.inl rfl) (pe_op op_shlB pe_int (pv 2)) ip_or)) pss_nil)))
   (pss_one (ps_ret (pv 1))))),?_⟩
 walk_at "rd"
 refine tfor (J:=Itr 0 (SA.n*SB.n)) (H1:=H) (n:=SA.n*SB.n) H (fun i σ H'=>Kp [] H H'∧∃ v,σ=[some (.ref g),some (.int ((bitsOf i (alone SA SB) : Nat) : Int)),v]) ?_ turns_range ⟨Kp.refl _,_,rfl⟩ (fun _ _ _ h=>h.1) ?_ ?_
 ·intro R q
  walk_at "ev"
  simp only [hg,T.c_G.cl,T.n_G_two_count,ht,hpL,V.int.injEq,V.ref.injEq]
  exact ⟨by omega,by omega,q⟩
 ·rintro i _ _ H2 H3 hi ⟨k2,v,rfl⟩ k3 rfl
  walk_at "rd"
  have hg2:=(k2.trans k3) g _ hg (by simp)
  simp only [hg2,no1,hpL,V.int.injEq,V.ref.injEq]
  refine ⟨g,i,SA,SB,by simp,gp.kp (k2.trans k3),hi,fun H4 k4=>⟨_,rfl,?_⟩⟩
  have hg4:=k4 g _ hg2 (by simp)
  have al:alone SA SB i=(mkB SA SB (pt SB i) && frd SA SB i i):=rfl
  by_cases e1:mkB SA SB (pt SB i)=true
  ·rw [if_pos e1]
   simp only [hg4,no2,hpL,V.int.injEq,V.ref.injEq]
   refine ⟨g,i,i,SA,SB,by simp,gp.kp ((k2.trans k3).trans k4),hi,hi,_,rfl,?_⟩
   by_cases e2:frd SA SB i i=true
   ·rw [if_pos e2]
    refine ⟨⟨by omega,by omega,1,by omega,by decide⟩,?_⟩
    refine ⟨(k2.trans k3).trans k4,?_,_,rfl⟩
    rw [show (1:Int)*2 ^ ((0:Int)+(i:Int)).toNat=((2 ^ i:Nat) : Int) by simp,bor,bitsOf_or (by rw [al,e1,e2];rfl)]
   ·rw [if_neg e2]
    exact ⟨(k2.trans k3).trans k4,by rw [bitsOf_no (by rw [al,e1];simpa using e2)],_,rfl⟩
  ·rw [if_neg e1]
   exact ⟨(k2.trans k3).trans k4,by rw [bitsOf_no (by rw [al];simp [e1])],_,rfl⟩
 ·rintro _ H2 ⟨k2,v,rfl⟩
  walk_at "rd"
  have:=k H2 k2
  unfold fitM at this
  rwa [fit_zero] at this
theorem keys_putK {κ:Type} [DecidableEq κ] (kvs:List (κ × V)) (k:κ) (v:V) : (putK kvs k v).map (·.1)=if (valV kvs k).isSome=true then kvs.map (·.1) else kvs.map (·.1) ++ [k]:=by
 unfold putK
 rw [valV_any]
 split
 ·rw [List.map_map]
  apply List.map_congr_left
  intro p _
  simp only [Function.comp]
  split <;> rfl
 ·simp
theorem nd_put {κ:Type} [DecidableEq κ] {kvs:List (κ × V)} {k:κ} (v:V) (h:(kvs.map (·.1)).Nodup) : ((putK kvs k v).map (·.1)).Nodup:=by
 cases e:valV kvs k with
 | none=>exact nd_putK v h e
 | some u=>rw [keys_putK,e];exact h
theorem mem_putK {κ:Type} [DecidableEq κ] {kvs:List (κ × V)} {k:κ} {v:V} {p:κ × V} (h:p∈putK kvs k v) : p∈kvs∨p=(k,v):=by
 unfold putK at h
 split at h
 ·obtain ⟨q,hq,e⟩:=List.mem_map.mp h
  split at e
  ·rename_i z
   right;rw [←e,z]
  ·left;rw [←e];exact hq
 ·rcases List.mem_append.mp h with h | h
  ·exact .inl h
  ·exact .inr (List.mem_singleton.mp h)
theorem mem_valV {κ:Type} [DecidableEq κ] {kvs:List (κ × V)} {k:κ} {v:V} (h:valV kvs k=some v) : (k,v)∈kvs:=by
 unfold valV at h
 cases e:kvs.find? fun kv=>decide (kv.1=k) with
 | none=>rw [e] at h;cases h
 | some p =>
  rw [e] at h
  cases h
  have h1:=List.find?_some e
  have h2:=List.mem_of_find?_eq_some e
  simp only [decide_eq_true_eq] at h1
  rw [←h1];exact h2
structure FitOk (SA SB:Struct) (kf:List (Key × V)) : Prop where
 nd:(kf.map (·.1)).Nodup
 all:∀ p∈kf,∃ s:Nat,s < 2 ^ (SA.n*SB.n)∧p=(.inl (s:Int),.int ((fitM SA SB s:Nat) : Int))
def FK (kf:List (Key × V)) (s:Nat) : Prop:=(valV kf (.inl (s:Int))).isSome=true
theorem FitOk.val {SA SB:Struct} {kf:List (Key × V)} (h:FitOk SA SB kf) {s:Nat} (hs:FK kf s) : valV kf (.inl (s:Int))=some (.int ((fitM SA SB s:Nat) : Int))∧s < 2 ^ (SA.n*SB.n):=by
 unfold FK at hs
 cases e:valV kf (.inl (s:Int)) with
 | none=>rw [e] at hs;cases hs
 | some v =>
  obtain ⟨t,ht,q⟩:=h.all _ (mem_valV e)
  have e1:(Sum.inl (s:Int) : Key)=.inl (t:Int):=congrArg Prod.fst q
  have e2:v=.int ((fitM SA SB t:Nat) : Int):=congrArg Prod.snd q
  have:s=t:=by injection e1 with e1;omega
  subst this
  exact ⟨by rw [e2],ht⟩
theorem two16 {n:Nat} (h:n≤16) : 2 ^ n≤65536:=Nat.pow_le_pow_right (by decide) h
theorem FitOk.len {SA SB:Struct} {kf:List (Key × V)} (h:FitOk SA SB kf) (hn:SA.n*SB.n≤16) : kf.length < sizeLine:=by
 have:=nd_len (f:=fun k:Key=>match k with | .inl i=>i.toNat | .inr _=>0) 65536 (kf.map (·.1)) h.nd (fun a ha b hb e=>by
  obtain ⟨p,hp,rfl⟩:=List.mem_map.mp ha
  obtain ⟨q,hq,rfl⟩:=List.mem_map.mp hb
  obtain ⟨s,_,rfl⟩:=h.all p hp
  obtain ⟨t,_,rfl⟩:=h.all q hq
  simp only [Int.toNat_natCast] at e
  rw [e]) fun a ha=>by
   obtain ⟨p,hp,rfl⟩:=List.mem_map.mp ha
   obtain ⟨s,hs,rfl⟩:=h.all p hp
   have:=two16 hn
   simp only [Int.toNat_natCast]
   omega
 rw [List.length_map] at this
 rw [sizeLine_eq];omega
theorem FitOk.put {SA SB:Struct} {kf:List (Key × V)} (h:FitOk SA SB kf) {s:Nat} (hs:s < 2 ^ (SA.n*SB.n)) : FitOk SA SB (putK kf (.inl (s:Int)) (.int ((fitM SA SB s:Nat) : Int))) :=
 ⟨nd_put _ h.nd,fun p hp=>(mem_putK hp).elim (h.all p) fun e=>⟨s,hs,e⟩⟩
theorem FK.put {kf:List (Key × V)} {s t:Nat} {v:V} (h:FK kf t∨t=s) : FK (putK kf (.inl (s:Int)) v) t:=by
 unfold FK
 by_cases e:t=s
 ·subst e;rw [valV_put,if_pos rfl];rfl
 ·rw [valV_put,if_neg (fun z=>e (by injection z with z;omega))]
  exact h.resolve_right e
structure KnOk (SA SB:Struct) (kk:List (List Key × V)) : Prop where
 nd:(kk.map (·.1)).Nodup
 all:∀ p∈kk,∃ s k:Nat,s < 2 ^ (SA.n*SB.n)∧k≤4∧p=([.inl (s:Int),.inl (k:Int)],.bl (wst SA SB k s))
theorem KnOk.len {SA SB:Struct} {kk:List (List Key × V)} (h:KnOk SA SB kk) (hn:SA.n*SB.n≤16) : kk.length < sizeLine:=by
 have:=nd_len (f:=fun k:List Key=>match k with | [.inl i,.inl j]=>i.toNat*5+j.toNat | _=>0) (65536*5) (kk.map (·.1)) h.nd (fun a ha b hb e=>by
  obtain ⟨p,hp,rfl⟩:=List.mem_map.mp ha
  obtain ⟨q,hq,rfl⟩:=List.mem_map.mp hb
  obtain ⟨s,k,_,_,rfl⟩:=h.all p hp
  obtain ⟨t,l,_,_,rfl⟩:=h.all q hq
  simp only [Int.toNat_natCast] at e
  have:s=t:=by omega
  have:k=l:=by omega
  simp [*]) fun a ha=>by
   obtain ⟨p,hp,rfl⟩:=List.mem_map.mp ha
   obtain ⟨s,k,hs,_,rfl⟩:=h.all p hp
   have:=two16 hn
   simp only [Int.toNat_natCast]
   omega
 rw [List.length_map] at this
 rw [sizeLine_eq];omega
theorem KnOk.val {SA SB:Struct} {kk:List (List Key × V)} (h:KnOk SA SB kk) {s k:Nat} {v:V} (e:valV kk [.inl (s:Int),.inl (k:Int)]=some v) : v=.bl (wst SA SB k s):=by
 obtain ⟨t,l,_,_,q⟩:=h.all _ (mem_valV e)
 have e1:([.inl (s:Int),.inl (k:Int)] : List Key)=[.inl (t:Int),.inl (l:Int)]:=congrArg Prod.fst q
 have e2:v=.bl (wst SA SB l t):=congrArg Prod.snd q
 simp at e1
 obtain ⟨h1,h2⟩:=e1
 have h1:s=t:=by omega
 have h2:k=l:=by omega
 rw [e2,h1,h2]
theorem KnOk.put {SA SB:Struct} {kk:List (List Key × V)} (h:KnOk SA SB kk) {s k:Nat} (hs:s < 2 ^ (SA.n*SB.n)) (hk:k≤4) : KnOk SA SB (putK kk [.inl (s:Int),.inl (k:Int)] (.bl (wst SA SB k s))) :=
 ⟨nd_put _ h.nd,fun p hp=>(mem_putK hp).elim (h.all p) fun e=>⟨s,k,hs,hk,e⟩⟩
def Lns (H:Hp) (lr:List Addr) (L:List (List Nat)) : Prop:=lr.length=L.length∧∀ (i:Nat) a l,lr[i]? = some a→L[i]? = some l→H a=some (nats l)
theorem Lns.keep {H H':Hp} {lr:List Addr} {L:List (List Nat)} (h:Lns H lr L) (k2:∀ b xs,H b=some (.lst xs)→H' b=some (.lst xs)) : Lns H' lr L:=⟨h.1,fun i a l ha hl=>k2 _ _ (h.2 i a l ha hl)⟩
def GameAt (K:Frag) (H:Hp) (g:Addr) (SA SB:Struct) (df dk:Addr) (kf:List (Key × V)) (kk:List (List Key × V)) : Prop:=∃ (dx pl pr ll lf:Addr) (lr fl fr:List Addr),
 H g=some (.ins (cA K "Game") dx (fs_G (.ref pl) (.ref pr) (.int ((SA.n*SB.n:Nat) : Int)) (.ref ll) (.ref lf) (.ref df) (.ref dk)))∧StrAt K H pl SA fl∧StrAt K H pr SB fr∧SA.n≤4∧SB.n≤4 ∧
 H ll=some (.lst (lr.map V.ref))∧Lns H lr (lines SA SB)∧H lf=some (nats ((List.range (SA.n*SB.n)).map (frM SA SB)))∧H df=some (.dK kf)∧H dk=some (.dT kk)∧FitOk SA SB kf∧KnOk SA SB kk
section
variable {H H':Hp} {g df dk:Addr} {SA SB:Struct} {kf kf':List (Key × V)} {kk kk':List (List Key × V)}
theorem GameAt.gp (h:GameAt K H g SA SB df dk kf kk) : GP K H g SA SB:=by
 obtain ⟨dx,pl,pr,ll,lf,lr,fl,fr,hg,sl,sr,nA,nB,_⟩:=h
 exact ⟨dx,_,pl,pr,fl,fr,hg,rfl,rfl,rfl,(fun m hm=>by simp only [List.mem_cons,List.not_mem_nil,or_false] at hm;rcases hm with rfl | rfl | rfl <;> rfl),sl,sr,nA,nB⟩
theorem GameAt.keep (h:GameAt K H g SA SB df dk kf kk) (k1:∀ b C dx fs,H b=some (.ins C dx fs)→H' b=some (.ins C dx fs)) (k2:∀ b xs,H b=some (.lst xs)→H' b=some (.lst xs)) (hf:H' df=some (.dK kf')) (hk:H' dk=some (.dT kk')) (of:FitOk SA SB kf') (ok:KnOk SA SB kk') : GameAt K H' g SA SB df dk kf' kk':=by
 obtain ⟨dx,pl,pr,ll,lf,lr,fl,fr,hg,sl,sr,nA,nB,h1,h2,h3,_⟩:=h
 exact ⟨dx,pl,pr,ll,lf,lr,fl,fr,k1 _ _ _ _ hg,sl.keep k1 k2,sr.keep k1 k2,nA,nB,k2 _ _ h1,h2.keep k2,k2 _ _ h3,hf,hk,of,ok⟩
theorem GameAt.dicts (h:GameAt K H g SA SB df dk kf kk) : H df=some (.dK kf)∧H dk=some (.dT kk)∧FitOk SA SB kf∧KnOk SA SB kk∧SA.n*SB.n≤16:=by
 obtain ⟨dx,pl,pr,ll,lf,lr,fl,fr,hg,sl,sr,nA,nB,h1,h2,h3,h4,h5,h6,h7⟩:=h
 exact ⟨h4,h5,h6,h7,prod_le nA nB⟩
theorem GameAt.kp (h:GameAt K H g SA SB df dk kf kk) (k:Kp [] H H') : GameAt K H' g SA SB df dk kf kk:=by
 obtain ⟨a,b,c,d,_⟩:=h.dicts
 exact h.keep (fun _ _ _ _ e=>k _ _ e (by simp)) (fun _ _ e=>k _ _ e (by simp)) (k _ _ a (by simp)) (k _ _ b (by simp)) c d
theorem GameAt.setF (h:GameAt K H g SA SB df dk kf kk) (of:FitOk SA SB kf') : GameAt K (upd H df (.dK kf')) g SA SB df dk kf' kk:=by
 obtain ⟨a,b,c,d,_⟩:=h.dicts
 exact h.keep (fun _ _ _ _ e=>by rw [upd_ne (ne_of e a (by intro z;cases z))];exact e) (fun _ _ e=>by rw [upd_ne (ne_of e a (by intro z;cases z))];exact e) upd_same (by rw [upd_ne (ne_of b a (by intro z;cases z))];exact b) of d
theorem GameAt.setK (h:GameAt K H g SA SB df dk kf kk) (ok:KnOk SA SB kk') : GameAt K (upd H dk (.dT kk')) g SA SB df dk kf kk':=by
 obtain ⟨a,b,c,d,_⟩:=h.dicts
 exact h.keep (fun _ _ _ _ e=>by rw [upd_ne (ne_of e b (by intro z;cases z))];exact e) (fun _ _ e=>by rw [upd_ne (ne_of e b (by intro z;cases z))];exact e) (by rw [upd_ne (ne_of a b (by intro z;cases z))];exact a) upd_same c ok
end
theorem dget {H:Hp} {a:Addr} {kvs:List (Key × V)} {i:Int} {v:V} (h:valV kvs (.inl i)=some v) (e:H a=some (.dK kvs)) : DGet H a (.int i) (some v):=by
 have:=DGet.k (k:=Sum.inl i) e
 rwa [h] at this
def sp_G_fits (K:Frag) : Sp:=fun vs H Q _=>∃ (g df dk:Addr) (s z:Nat) (SA SB:Struct) (kf:List (Key × V)) (kk:List (List Key × V)),vs=[.ref g,.int s,.int z]∧GameAt K H g SA SB df dk kf kk∧FK kf s∧z < SA.n*SB.n∧Q (.bl (fit SA SB s z)) H
theorem ok_G_fits (T:Txt P w K mg) : FM P w K mg base 1 "Game" "fits" ["self","lying","two"] (sp_G_fits K):=by
 refine T.x_G_fits.F.ok sc_G_fits (fun _ _ _ _ h=>ex9 h fun _ _ _ _ _ _ _ _ _ e=>e.1▸rfl) fun _ _ _ s H vs Q E hr zh=>ex9 zh fun g df dk s z SA SB kf kk yh=>an5 yh fun vz ga hs hz k=>?_
 clear zh yh;subst vz
 obtain ⟨hdf,hdk,of,ok,n16⟩:=ga.dicts
 obtain ⟨dx,pl,pr,ll,lf,lr,fl,fr,hg,_⟩:=ga
 refine ⟨_,(pss_one (ps_ret (pe_cmpR op_eq (pe_op op_mod (pe_op op_shr (pe_dget (hu_of hr) (pe_fld (pv 0) rfl) (pv 1) (fun _ _=>rfl)) (pv 2)) pe_int) pe_int (nomark _)))),?_⟩
 walk_at "rd"
 simp only [hg,T.c_G.cl,T.n_G_fitting,fs_G_fitting,hpL,V.int.injEq,V.ref.injEq]
 refine ⟨_,dget (of.val hs).1 hdf,_,rfl,by omega,by omega,?_⟩
 rw [shrN,bit_odd,fitM,bitsOf_bit]
 simpa only [hz,decide_true,Bool.true_and] using k
def sp_G_put (K:Frag) : Sp:=fun vs H Q _=>∃ (g df dk:Addr) (s z:Nat) (SA SB:Struct) (kf:List (Key × V)) (kk:List (List Key × V)),vs=[.ref g,.int s,.int z]∧GameAt K H g SA SB df dk kf kk∧FK kf s∧z < SA.n*SB.n ∧
 ∀ H' kf',GameAt K H' g SA SB df dk kf' kk→Kp [df] H H'→FK kf' (s ||| 2 ^ z)→(∀ t,FK kf t→FK kf' t)→Q (.int ((s ||| 2 ^ z:Nat) : Int)) H'
theorem ok_G_put (T:Txt P w K mg) : FM P w K mg base 1 "Game" "put" ["self","lying","two"] (sp_G_put K):=by
 refine T.x_G_put.F.ok sc_G_put (fun _ _ _ _ h=>ex9 h fun _ _ _ _ _ _ _ _ _ e=>e.1▸rfl) fun _ _ _ s H vs Q E hr zh=>ex9 zh fun g df dk s z SA SB kf kk yh=>an5 yh fun vz ga hs hz k=>?_
 clear zh yh;subst vz
 obtain ⟨hdf,hdk,of,ok,n16⟩:=ga.dicts
 have ga':=ga
 obtain ⟨dx,pl,pr,ll,lf,lr,fl,fr,hg,sl,sr,nA,nB,h1,h2,h3,_⟩:=ga'
 refine ⟨_,(pss_cons (ps_set (i:=3) sc_G_put.nd rfl (Or.inl rfl) (pe_op op_or (pv 1) (pe_op op_shlB pe_int (pv 2))))
   (pss_cons (ps_dput (hu_of hr) (pe_fld (pv 0) rfl) (pv 3) (pe_op op_and (pe_dget (hu_of hr) (pe_fld (pv 0) rfl) (pv 1) (fun _ _=>rfl)) (pe_ix ix_list (pe_fld (pv 0) rfl) (pv 2) (fun _ _=>rfl))) rfl)
   (pss_one (ps_ret (pv 3))))),?_⟩
 walk_at "rd"
 simp only [hg,T.c_G.cl,T.n_G_fitting,T.n_G_friends,fs_G_fitting,fs_G_friends,hpL,V.int.injEq,V.ref.injEq]
 refine ⟨⟨by omega,by omega,1,by omega,by decide⟩,_,dget (of.val hs).1 hdf,_,SqL.of h3,_,at_of (j:=z) rfl (by rw [List.getElem?_map,List.getElem?_map,List.getElem?_range hz];rfl),_,rfl,_,rfl,?_⟩
 rw [shl1,bor,band,fitM_put hz]
 have hlt:s ||| 2 ^ z < 2 ^ (SA.n*SB.n):=Nat.or_lt_two_pow (of.val hs).2 (Nat.pow_lt_pow_right (by decide) hz)
 exact ⟨_,DPut.k (k:=Sum.inl _) hdf (of.len n16),k _ _ (ga.setF (of.put hlt)) ((Kp.refl _).set (by simp)) (FK.put (.inr rfl)) fun t ht=>FK.put (.inl ht)⟩
theorem StrAt.kx {H H':Hp} {p:Addr} {S:Struct} {fp xs:List Addr} (h:StrAt K H p S fp) (k:Kp xs H H') (n:∀ x∈xs,p≠x∧∀ l,H x≠some (.lst l)) : StrAt K H' p S fp:=by
 obtain ⟨dx,la,lm,ra,rm,E,M,hp,hla,hlm,e,hE,hM,R⟩:=h
 have kl:∀ b l,H b=some (.lst l)→H' b=some (.lst l):=fun b l e=>k b _ e fun m=>(n b m).2 l e
 exact ⟨dx,la,lm,ra,rm,E,M,k _ _ hp fun m=>(n p m).1 rfl,kl _ _ hla,kl _ _ hlm,e,hE.keep fun b r h _=>kl _ _ h,hM.keep fun b r h _=>kl _ _ h,R⟩
theorem refs_of {ys:List V} {P:Nat→Addr→Prop} (h:∀ (i:Nat) y,ys[i]? = some y→∃ a,y=.ref a∧P i a) : ∃ lr:List Addr,ys=lr.map V.ref∧∀ (i:Nat) a,lr[i]? = some a→P i a:=by
 refine ⟨ys.map fun v=>match v with | .ref a=>a | _=>0,?_,fun i a ha=>?_⟩
 ·rw [List.map_map]
  symm
  apply List.ext_getElem?
  intro i
  rw [List.getElem?_map]
  cases e:ys[i]? with
  | none=>rfl
  | some y =>
   obtain ⟨a,rfl,_⟩:=h i y e
   rfl
 ·rw [List.getElem?_map] at ha
  cases e:ys[i]? with
  | none=>rw [e] at ha;cases ha
  | some y =>
   rw [e] at ha
   obtain ⟨b,rfl,q⟩:=h i y e
   cases ha
   exact q
def sp_G_init (K:Frag) : Sp:=fun vs H Q _=>∃ (g dx pl pr:Addr) (SA SB:Struct) (fl fr:List Addr),vs=[.ref g,.ref pl,.ref pr]∧H g=some (.ins (cA K "Game") dx [])∧StrAt K H pl SA fl∧StrAt K H pr SB fr∧SA.n≤4∧SB.n≤4 ∧
 ∀ H' df dk kf kk,GameAt K H' g SA SB df dk kf kk→FK kf 0→H df=none→H dk=none→Kp [g] H H'→Q .non H'
theorem ok_G_init (T:Txt P w K mg) : FM P w K mg base 3 "Game" "__init__" ["self","left","right"] (sp_G_init K):=by
 refine T.x_G_init.F.ok sc_G_init (fun _ _ _ _ h=>ex8 h fun _ _ _ _ _ _ _ _ e=>e.1▸rfl) fun _ _ _ s H vs Q E hr zh=>ex8 zh fun g dx pl pr SA SB fl fr' yh=>an7 yh fun vz hg sl sr nA nB k=>?_
 clear zh yh;subst vz
 refine ⟨_,(pss_cons (ps_fld (pv 0) (pv 1) rfl)
   (pss_cons (ps_fld (pv 0) (pv 2) rfl)
   (pss_cons (ps_fld (pv 0) (pe_op op_mul (pe_fld (pv 1) rfl) (pe_fld (pv 2) rfl)) rfl)
   (pss_cons (ps_fld (pv 0) (pe_op op_cat (pe_lc rfl sc_G_init.nd (pi_range1 rfl T.nb_range (pa_cons (pe_fld (pv 1) rfl) pa_nil)) (blkOk_by (own:=[("x",3)]) rfl) (fun _ _ _ _ _=>(pg_name (i:=3) sc_G_init.nd rfl (Or.inl rfl))) (fun _ _ _ _ _=>pts_nil) (fun _ _ _ _ _=>(pe_meth (pv 0) T.c_G.cl T.x_G_line.m (ok_G_line T) (hr.mono (by decide)) T.x_G_line.b .nil pass0 (pa_cons pe_int (pa_cons (pv 3) pa_nil))))) (pe_lc rfl sc_G_init.nd (pi_range1 rfl T.nb_range (pa_cons (pe_fld (pv 2) rfl) pa_nil)) (blkOk_by (own:=[("x",3)]) rfl) (fun _ _ _ _ _=>(pg_name (i:=3) sc_G_init.nd rfl (Or.inl rfl))) (fun _ _ _ _ _=>pts_nil) (fun _ _ _ _ _=>(pe_meth (pv 0) T.c_G.cl T.x_G_line.m (ok_G_line T) (hr.mono (by decide)) T.x_G_line.b .nil pass0 (pa_cons pe_int (pa_cons (pv 3) pa_nil)))))) rfl)
   (pss_cons (ps_fld (pv 0) (pe_lc rfl sc_G_init.nd (pi_range1 rfl T.nb_range (pa_cons (pe_fld (pv 0) rfl) pa_nil)) (blkOk_by (own:=[("two",4)]) rfl) (fun _ _ _ _ _=>(pg_name (i:=4) sc_G_init.nd rfl (Or.inl rfl))) (fun _ _ _ _ _=>pts_nil) (fun _ _ _ _ _=>(pe_meth (pv 0) T.c_G.cl T.x_G_friends_of.m (ok_G_friends_of T) (hr.mono (by decide)) T.x_G_friends_of.b .nil pass0 (pa_cons (pv 4) pa_nil)))) rfl)
   (pss_cons (ps_fld (pv 0) (pe_disp (pps_cons pe_int (pe_meth0 (pv 0) T.c_G.cl T.x_G_fitting_alone.m (ok_G_fitting_alone T) (hr.mono (by decide)) T.x_G_fitting_alone.b .nil pass0) pps_nil) rfl rfl (by decide) (by decide)) rfl)
   (pss_one (ps_fld (pv 0) pe_dnewT rfl)))))))),?_⟩
 have n16:=prod_le nA nB
 have ns:∀ {p S fp},StrAt K H p S fp→p≠g:=fun h=>by
  obtain ⟨dx,la,lm,ra,rm,E,M,hp,_⟩:=h
  exact ne_of hp hg (by intro z;injection z with _ _ z;cases z)
 have np:=ns sl
 have nr:=ns sr
 have nl:∀ l,H g≠some (.lst l):=fun l e=>by rw [hg] at e;cases e
 have sk:∀ {H' p S fp},StrAt K H p S fp→Kp [g] H H'→StrAt K H' p S fp:=fun h k=>h.kx k fun x hx=>by
  have:=List.mem_singleton.mp hx
  subst this
  exact ⟨ns h,nl⟩
 refine ⟨_,dx,_,hg,T.c_G.cl,T.n_G_left,(show 0 < 1000 by decide),_,dx,_,upd_same,T.c_G.cl,T.n_G_right,(show 1 < 1000 by decide),?_⟩
 generalize hH2:upd (upd H g _) g _=H2
 have hg2:H2 g=some (.ins (cA K "Game") dx [("left",.ref pl),("right",.ref pr)]):=by rw [←hH2];exact upd_same
 have k2:Kp [g] H H2:=by rw [←hH2];exact ((Kp.refl _).set (by simp)).set (by simp)
 obtain ⟨dl,la,lm,hpl,_⟩:=(sk sl k2).arcs
 obtain ⟨dr,lb,ln,hpr,_⟩:=(sk sr k2).arcs
 refine ⟨_,dl,_,hpl,T.c_S.cl,T.n_S_size,_,fs_S_size,_,dr,_,hpr,T.c_S.cl,T.n_S_size,_,fs_S_size,.inr ⟨by omega,by omega⟩,_,dx,_,hg2,T.c_G.cl,T.n_G_two_count,(show 2 < 1000 by decide),?_⟩
 generalize hH3:upd H2 g _=H3
 have hg3:H3 g=some (.ins (cA K "Game") dx [("left",.ref pl),("right",.ref pr),("two_count",.int ((SA.n*SB.n:Nat) : Int))]):=by rw [←hH3,upd_same,Int.natCast_mul];rfl
 have k3:Kp [g] H H3:=by rw [←hH3];exact k2.set (by simp)
 have gpx:∀ {H' fs},Kp [g] H H'→H' g=some (.ins (cA K "Game") dx fs)→fs.lookup ("left" : Str)=some (.ref pl)→fs.lookup ("right" : Str)=some (.ref pr)→fs.lookup ("two_count" : Str)=some (.int ((SA.n*SB.n:Nat) : Int))→(∀ m,m∈(["two_of","same_marks","are_friends"] : List Str)→fs.lookup m=none)→GP K H' g SA SB :=
  fun k e a b c d=>⟨dx,_,pl,pr,fl,fr',e,a,b,c,d,sk sl k,sk sr k,nA,nB⟩
 have hg30:=hg3
 have gp30:GP K H3 g SA SB:=gpx k3 hg3 rfl rfl rfl (fun m hm=>by simp only [List.mem_cons,List.not_mem_nil,or_false] at hm;rcases hm with rfl | rfl | rfl <;> rfl)
 have hpl3:H3 pl=some (.ins (cA K "Structure") dl (fs_S (.int SA.n) (.ref la) (.ref lm))):=by rw [←hH3,upd_ne np];exact hpl
 have hpr3:H3 pr=some (.ins (cA K "Structure") dr (fs_S (.int SB.n) (.ref lb) (.ref ln))):=by rw [←hH3,upd_ne nr];exact hpr
 dsimp only [tSeq,sFld,tOp]
 refine tlc_ref (H1:=H3) (J:=Itr 0 SA.n) (n:=SA.n) (fun D i v H=>∃ a,v=.ref a∧H a=some (nats (line0 SA SB i))∧a≠D) ?_ turns_range (by rw [sizeLine_eq];omega) gName_mono (fun D i v H H' ⟨a,e,h,n⟩ k=>⟨a,e,k a _ h (by simpa using n),n⟩) ?_ fun D1 H4 ysD1 hD1 k4 lD1 nD1 rD1=>?_
 ·intro R q
  exact ⟨_,dl,_,hpl3,T.c_S.cl,T.n_S_size,_,fs_S_size,_,rfl,by omega,by omega,q⟩
 ·rintro D i _ H4 Q4 hi rfl hD k4 ⟨acc,hacc⟩ q
  refine ⟨rfl,dx,_,k4 g _ hg30 (by simp),rfl,g,0,i,SA,SB,by simp,gp30.kp k4,fun H5 D5 k5 hD5 h5=>q _ H5 k5 ⟨D5,rfl,h5,(ne_of_none hacc hD5).symm⟩⟩
 have hg31:=k4 g _ hg3 (by simp)
 have gp31:=gp30.kp k4
 have hpr4:=k4 _ _ hpr3 (by simp)
 refine tlc_ref (H1:=H4) (J:=Itr 0 SB.n) (n:=SB.n) (fun D i v H=>∃ a,v=.ref a∧H a=some (nats (line1 SA SB i))∧a≠D) ?_ turns_range (by rw [sizeLine_eq];omega) gName_mono (fun D i v H H' ⟨a,e,h,n⟩ k=>⟨a,e,k a _ h (by simpa using n),n⟩) ?_ fun D2 H5 ysD2 hD2 k5 lD2 nD2 rD2=>?_
 ·intro R q
  exact ⟨_,dr,_,hpr4,T.c_S.cl,T.n_S_size,_,fs_S_size,_,rfl,by omega,by omega,q⟩
 ·rintro D i _ H4 Q4 hi rfl hD k4 ⟨acc,hacc⟩ q
  refine ⟨rfl,dx,_,k4 g _ hg31 (by simp),rfl,g,1,i,SA,SB,by simp,gp31.kp k4,fun H5 D5 k5 hD5 h5=>q _ H5 k5 ⟨D5,rfl,h5,(ne_of_none hacc hD5).symm⟩⟩
 have k35:=k4.trans k5
 have kH5:Kp [g] H H5:=k3.trans k35.of
 have hg5:=k5 g _ hg31 (by simp)
 have hl1:=k5 _ _ lD1 (by simp)
 refine ⟨D1,D2,_,_,rfl,rfl,hl1,lD2,by rw [sizeLine_eq];omega,fun ll hll=>⟨_,dx,_,upd_old hg5 hll,T.c_G.cl,T.n_G_lines,(show 3 < 1000 by decide),?_⟩⟩
 generalize hH6:upd (upd H5 ll _) g _=H6
 have hg6:H6 g=some (.ins (cA K "Game") dx [("left",.ref pl),("right",.ref pr),("two_count",.int ((SA.n*SB.n:Nat) : Int)),("lines",.ref ll)]):=by rw [←hH6,upd_same];rfl
 have k56:Kp [g] H5 H6:=by rw [←hH6];exact ((Kp.refl _).new hll).set (by simp)
 have kH6:=kH5.trans k56
 have hll6:H6 ll=some (.lst (ysD1 ++ ysD2)):=by rw [←hH6,upd_ne (ne_of_none hg5 hll).symm,upd_same]
 have gp6:GP K H6 g SA SB:=gpx kH6 hg6 rfl rfl rfl (fun m hm=>by simp only [List.mem_cons,List.not_mem_nil,or_false] at hm;rcases hm with rfl | rfl | rfl <;> rfl)
 refine tlc_all (H1:=H6) (J:=Itr 0 (SA.n*SB.n)) (n:=SA.n*SB.n) (fun z=>.int ((frM SA SB z:Nat) : Int)) ?_ turns_range (by rw [sizeLine_eq];omega) gName_mono ?_ fun lf H7 hlf k7 h7=>?_
 ·intro R q
  exact ⟨_,dx,_,hg6,T.c_G.cl,T.n_G_two_count,_,rfl,_,rfl,by omega,by omega,q⟩
 ·rintro i _ H8 Q8 hi rfl k8 q
  exact ⟨rfl,dx,_,k8 g _ hg6 (by simp),rfl,g,i,SA,SB,by simp,gp6.kp k8,hi,fun H9 k9=>q H9 k9⟩
 have hg7:=k7 g _ hg6 (by simp)
 refine ⟨_,dx,_,hg7,T.c_G.cl,T.n_G_friends,(show 4 < 1000 by decide),?_⟩
 generalize hH8:upd H7 g _=H8
 have hg8:H8 g=some (.ins (cA K "Game") dx [("left",.ref pl),("right",.ref pr),("two_count",.int ((SA.n*SB.n:Nat) : Int)),("lines",.ref ll),("friends",.ref lf)]):=by rw [←hH8,upd_same];rfl
 have k78:Kp [g] H7 H8:=by rw [←hH8];exact (Kp.refl _).set (by simp)
 have k68:Kp [g] H6 H8:=(k7.of).trans k78
 have kH8:=kH6.trans k68
 have hlf8:H8 lf=some (nats ((List.range (SA.n*SB.n)).map (frM SA SB))):=by rw [←hH8,upd_ne (ne_of_none hg6 hlf).symm,h7,nats,List.map_map];rfl
 have gp8:GP K H8 g SA SB:=gpx kH8 hg8 rfl rfl rfl (fun m hm=>by simp only [List.mem_cons,List.not_mem_nil,or_false] at hm;rcases hm with rfl | rfl | rfl <;> rfl)
 intro df hdf
 have kd:Kp [] H8 (upd H8 df (.dK [])):=(Kp.refl _).new hdf
 refine ⟨dx,_,upd_old hg8 hdf,rfl,g,SA,SB,rfl,gp8.kp kd,fun H9 k9=>⟨k9 df _ upd_same (by simp),[(.inl 0,.int ((fitM SA SB 0:Nat) : Int))],rfl,(show 1≤15 by decide),?_⟩⟩
 have k89:=kd.trans k9
 generalize hkf:mergeK [] _=kf0
 generalize hH10:upd H9 df _=H10
 have k10:Kp [] H8 H10:=by rw [←hH10];exact k89.young hdf
 have hg10:=k10 g _ hg8 (by simp)
 have hdf10:H10 df=some (.dK kf0):=by rw [←hH10];exact upd_same
 refine ⟨_,dx,_,hg10,T.c_G.cl,T.n_G_fitting,(show 5 < 1000 by decide),fun dk hdk=>?_⟩
 generalize hH11:upd H10 g _=H11 at hdk
 have k11:Kp [g] H8 H11:=by rw [←hH11];exact (k10.of).set (by simp)
 have hg11:H11 g=some (.ins (cA K "Game") dx (putF "fitting" (.ref df) [("left",.ref pl),("right",.ref pr),("two_count",.int ((SA.n*SB.n:Nat) : Int)),("lines",.ref ll),("friends",.ref lf)])):=by rw [←hH11];exact upd_same
 have hdf11:H11 df=some (.dK kf0):=by rw [←hH11,upd_ne (ne_of_none hg8 hdf).symm];exact hdf10
 refine ⟨_,dx,_,upd_old hg11 hdk,T.c_G.cl,T.n_G_known,(show 6 < 1000 by decide),?_⟩
 generalize hH12:upd (upd H11 dk _) g _=H12
 have k12:Kp [g] H8 H12:=by rw [←hH12];exact (k11.new hdk).set (by simp)
 have dg:dk≠g:=(ne_of_none hg11 hdk).symm
 have hg12:H12 g=some (.ins (cA K "Game") dx (fs_G (.ref pl) (.ref pr) (.int ((SA.n*SB.n:Nat) : Int)) (.ref ll) (.ref lf) (.ref df) (.ref dk))):=by rw [←hH12,upd_same];rfl
 have hdk12:H12 dk=some (.dT []):=by rw [←hH12,upd_ne dg,upd_same]
 have hdf12:H12 df=some (.dK kf0):=by rw [←hH12,upd_ne (ne_of_none hg8 hdf).symm];exact upd_old hdf11 hdk
 have ng:∀ {b l},H8 b=some (HO.lst l)→b∉[g]:=fun e m=>by rw [List.mem_singleton.mp m,hg8] at e;cases e
 have hll8:H8 ll=some (.lst (ysD1 ++ ysD2)):=k68 _ _ hll6 (by simpa using (ne_of_none hg5 hll).symm)
 obtain ⟨l1,e1,q1⟩:=refs_of (P:=fun i a=>H4 a=some (nats (line0 SA SB i))) fun i y h=>let ⟨a,e,h,_⟩:=rD1 i y h;⟨a,e,h⟩
 obtain ⟨l2,e2,q2⟩:=refs_of (P:=fun i a=>H5 a=some (nats (line1 SA SB i))) fun i y h=>let ⟨a,e,h,_⟩:=rD2 i y h;⟨a,e,h⟩
 have m1:l1.length=SA.n:=by rw [←nD1,e1,List.length_map]
 have m2:l2.length=SB.n:=by rw [←nD2,e2,List.length_map]
 have h58:∀ {b l},H5 b=some (HO.lst l)→H12 b=some (HO.lst l):=fun {b l} e=>by
  have nb:b∉[g]:=fun m=>by rw [List.mem_singleton.mp m,hg5] at e;cases e
  exact k12 b _ (k68 b _ (k56 b _ e nb) nb) nb
 have ofk:FitOk SA SB kf0:=by
  rw [←hkf]
  refine ⟨by simp [mergeK,putK],fun p hp=>⟨0,Nat.two_pow_pos _,?_⟩⟩
  simpa [mergeK,putK] using hp
 have kH12:=kH8.trans k12
 have fr:∀ {x},x≠g→H8 x=none→H x=none:=fun {x} n e=>kH8.free e (by simpa using n)
 refine k H12 df dk kf0 [] ⟨dx,pl,pr,ll,lf,l1 ++ l2,fl,fr',hg12,sk sl kH12,sk sr kH12,nA,nB,?_,⟨?_,?_⟩,k12 _ _ hlf8 (ng hlf8),hdf12,hdk12,ofk,⟨by simp,fun p hp=>by cases hp⟩⟩ ?_ (fr (ne_of_none hg8 hdf).symm hdf) ?_ kH12
 ·rw [k12 _ _ hll8 (ng hll8),e1,e2,List.map_append]
 ·rw [List.length_append,m1,m2];simp [lines]
 ·intro i a l ha hl
  unfold lines at hl
  by_cases hi:i < SA.n
  ·rw [List.getElem?_append_left (by rw [m1];exact hi)] at ha
   rw [List.getElem?_append_left (by simpa using hi),List.getElem?_map,List.getElem?_range hi] at hl
   cases hl
   exact h58 (k5 _ _ (q1 i a ha) (by simp))
  ·rw [List.getElem?_append_right (by rw [m1];omega),m1] at ha
   have hi2:i - SA.n < SB.n:=by have:=(List.getElem?_eq_some_iff.mp ha).1;omega
   rw [List.getElem?_append_right (by simp;omega),List.length_map,List.length_range,List.getElem?_map,List.getElem?_range hi2] at hl
   cases hl
   exact h58 (q2 _ a ha)
 ·rw [←hkf];rfl
 ·exact fr dg (by
   cases e:H8 dk with
   | none=>rfl
   | some o=>rw [k11 dk o e (by simpa using dg)] at hdk;cases hdk)
def one (a:Addr) (o:HO) : Hp:=fun b=>if b=a then some o else none
theorem one_at {a:Addr} {o:HO}:one a o a=some o:=if_pos rfl
theorem kp_one {a:Addr} {o:HO} {H:Hp} (h:H a=some o) : Kp [] (one a o) H:=fun b u e _=>by
 unfold one at e
 split at e
 ·rename_i z;cases e;rw [z];exact h
 ·cases e
theorem kp_nil {H:Hp}:Kp [] (fun _=>none) H:=fun b u e _=>by cases e
theorem idx_step {t:Nat→Bool} {l:List Nat} {i z:Nat} (hz:l[i]? = some z) (h:l.findIdx? t=((l.drop i).findIdx? t).map (· + i)) : l.findIdx? t=if t z=true then some i else ((l.drop (i+1)).findIdx? t).map (· + (i+1)):=by
 have hi:=(List.getElem?_eq_some_iff.mp hz)
 obtain ⟨h1,h2⟩:=hi
 rw [h,List.drop_eq_getElem_cons h1,h2,List.findIdx?_cons]
 by_cases e:t z=true
 ·simp [e]
 ·simp only [e,if_false,Bool.false_eq_true,Option.map_map]
  congr 1
  funext j
  simp only [Function.comp];omega
theorem fG_fits {a b c d e f g:V}:(fs_G a b c d e f g).lookup ("fits" : Str)=none:=rfl
theorem fG_put {a b c d e f g:V}:(fs_G a b c d e f g).lookup ("put" : Str)=none:=rfl
theorem fG_withstands {a b c d e f g:V}:(fs_G a b c d e f g).lookup ("withstands" : Str)=none:=rfl
theorem fG_all_answered {a b c d e f g:V}:(fs_G a b c d e f g).lookup ("all_answered" : Str)=none:=rfl
theorem fG_answer_in {a b c d e f g:V}:(fs_G a b c d e f g).lookup ("answer_in" : Str)=none:=rfl
theorem GameAt.obj {H:Hp} {g df dk:Addr} {SA SB:Struct} {kf:List (Key × V)} {kk:List (List Key × V)} (h:GameAt K H g SA SB df dk kf kk) : ∃ dx pl pr ll lf,H g=some (.ins (cA K "Game") dx (fs_G (.ref pl) (.ref pr) (.int ((SA.n*SB.n:Nat) : Int)) (.ref ll) (.ref lf) (.ref df) (.ref dk)))∧∃ lr,H ll=some (.lst (lr.map V.ref))∧Lns H lr (lines SA SB):=by
 obtain ⟨dx,pl,pr,ll,lf,lr,fl,fr,hg,sl,sr,nA,nB,h1,h2,_⟩:=h
 exact ⟨dx,pl,pr,ll,lf,hg,lr,h1,h2⟩
def placeV (o:Option Nat) : V:=match o with | some i=>.int (i:Int) | none=>.int (-1)
def GPost (K:Frag) (H:Hp) (g:Addr) (SA SB:Struct) (df dk:Addr) (kf:List (Key × V)) (Q:Hp→Prop) : Prop:=∀ H' kf' kk',GameAt K H' g SA SB df dk kf' kk'→Kp [df,dk] H H'→(∀ t,FK kf t→FK kf' t)→Q H'
def sp_W (r:Nat) (K:Frag) : Sp:=fun vs H Q _=>∃ (g df dk:Addr) (s k:Nat) (SA SB:Struct) (kf:List (Key × V)) (kk:List (List Key × V)),vs=[.ref g,.int s,.int k]∧GameAt K H g SA SB df dk kf kk∧FK kf s∧k≤r∧r≤4∧GPost K H g SA SB df dk kf (Q (.bl (wst SA SB k s)))
def sp_AI (r:Nat) (K:Frag) : Sp:=fun vs H Q _=>∃ (g df dk L:Addr) (l:List Nat) (s k:Nat) (SA SB:Struct) (kf:List (Key × V)) (kk:List (List Key × V)),vs=[.ref g,.ref L,.int s,.int k]∧H L=some (nats l)∧(∀ z∈l,z < SA.n*SB.n)∧GameAt K H g SA SB df dk kf kk∧FK kf s∧k≤r∧r≤4∧l.length≤1000∧GPost K H g SA SB df dk kf (Q (placeV (place SA SB k s l)))
def sp_AA (r:Nat) (K:Frag) : Sp:=fun vs H Q _=>∃ (g df dk:Addr) (s k:Nat) (SA SB:Struct) (kf:List (Key × V)) (kk:List (List Key × V)),vs=[.ref g,.int s,.int k]∧GameAt K H g SA SB df dk kf kk∧FK kf s∧k≤r∧r≤4∧GPost K H g SA SB df dk kf (Q (.bl (wst SA SB (k+1) s)))
theorem ok_AI {r:Nat} (hW:FM P w K mg base (3*r+1) "Game" "withstands" ["self","lying","rounds"] (sp_W r K)) (T:Txt P w K mg) : FM P w K mg base (3*r+1+1) "Game" "answer_in" ["self","line","lying","rounds"] (sp_AI r K):=by
 refine T.x_G_answer_in.F.ok sc_G_answer_in (fun _ _ _ _ h=>ex11 h fun _ _ _ _ _ _ _ _ _ _ _ e=>e.1▸rfl) fun _ _ _ s H vs Q E hr zh=>ex11 zh fun g df dk L l s k SA SB kf kk yh=>an9 yh fun vz hL hz ga hs hk hr4 hl kq=>?_
 clear zh yh;subst vz
 refine ⟨_,(pss_cons (ps_for PassesOwn.never rfl (pi_enum rfl T.nb_enumerate (pa_cons (pv 1) pa_nil)) (pg_tup rfl (pgs_cons (pg_name (i:=4) sc_G_answer_in.nd rfl (Or.inl rfl)) (pgs_cons (pg_name (i:=5) sc_G_answer_in.nd rfl (Or.inl rfl)) pgs_nil))) (pss_one (ps_if (PW.pt (pw_and (pt_val (pe_meth (pv 0) T.c_G.cl T.x_G_fits.m (ok_G_fits T) (hr.mono (by omega)) T.x_G_fits.b .nil pass0 (pa_cons (pv 2) (pa_cons (pv 5) pa_nil)))) (pw_and1 (pt_val (pe_meth (pv 0) T.c_G.cl T.x_G_withstands.m hW (hr.mono (by omega)) T.x_G_withstands.b .nil pass0 (pa_cons (pe_meth (pv 0) T.c_G.cl T.x_G_put.m (ok_G_put T) (hr.mono (by omega)) T.x_G_put.b .nil pass0 (pa_cons (pv 2) (pa_cons (pv 5) pa_nil))) (pa_cons (pv 3) pa_nil))))))) (pss_one (ps_ret (pv 4))) pss_nil)))
   (pss_one (ps_ret (pe_gint rfl T.g_NONE_FITS)))),?_⟩
 walk_at "rd"
 have n16:=ga.dicts.2.2.2.2
 have nd:∀ {H':Hp},Kp [df,dk] H H'→H' L=some (nats l):=fun kp=>kp L _ hL (by
  simp only [List.mem_cons,List.not_mem_nil,or_false,not_or]
  exact ⟨ne_of hL ga.dicts.1 (by intro z;cases z),ne_of hL ga.dicts.2.1 (by intro z;cases z)⟩)
 refine tfor (J:=Ite K L) (H1:=H) (n:=l.length) (one L (nats l)) (fun i σ H'=>(∃ kf' kk',GameAt K H' g SA SB df dk kf' kk'∧(∀ t,FK kf t→FK kf' t))∧Kp [df,dk] H H'∧l.findIdx? (fun z=>fit SA SB s z && wst SA SB k (s ||| 2 ^ z))=((l.drop i).findIdx? fun z=>fit SA SB s z && wst SA SB k (s ||| 2 ^ z)).map (· + i)∧∃ v w,σ=[some (.ref g),some (.ref L),some (.int s),some (.int k),v,w]) ?_ (by have:=turns_enum (K:=K) (SqL.of (one_at (a:=L) (o:=nats l)));rwa [List.length_map] at this) ⟨⟨kf,kk,ga,fun _ h=>h⟩,Kp.refl _,by simp,_,_,rfl⟩ (fun i σ H' h=>kp_one (nd h.2.1)) ?_ ?_
 ·intro R q
  walk_at "ev"
  exact ⟨_,SqL.of hL,q⟩
 ·rintro i _ _ H2 H3 hi ⟨⟨kf2,kk2,ga2,m2⟩,k2,inv,v,w,rfl⟩ k3 ⟨Tp,y,rfl,hT,hy⟩
  obtain ⟨z,hz',rfl⟩ : ∃ z,l[i]? = some z∧y=.int (z:Int):=by
   rw [List.getElem?_map] at hy
   cases e:l[i]? with
   | none=>rw [e] at hy;cases hy
   | some z=>rw [e] at hy;cases hy;exact ⟨z,rfl,rfl⟩
  have zN:=hz z (List.mem_of_getElem? hz')
  have ga3:=ga2.kp k3
  have stp:=idx_step hz' inv
  have k03:=k2.trans k3.of
  refine ⟨Tp,[.int (i:Nat),.int (z:Int)],rfl,SqT.of hT,rfl,_,_,rfl,_,_,rfl,rfl,?_⟩
  walk_at "rd"
  obtain ⟨dx,pl,pr,ll,lf,hg3,_⟩:=ga3.obj
  simp only [hg3,fG_fits,fG_put,fG_withstands,hpL,V.int.injEq,V.ref.injEq]
  refine ⟨g,df,dk,s,z,SA,SB,kf2,kk2,rfl,ga3,m2 s hs,zN,_,rfl,?_⟩
  by_cases ef:fit SA SB s z=true
  ·rw [if_pos ef]
   simp only [hg3,fG_fits,fG_put,fG_withstands,hpL,V.int.injEq,V.ref.injEq]
   refine ⟨g,df,dk,s,z,SA,SB,kf2,kk2,rfl,ga3,m2 s hs,zN,fun H4 kf4 ga4 k4 f4 m4=>⟨g,df,dk,s ||| 2 ^ z,k,SA,SB,kf4,kk2,rfl,ga4,f4,hk,hr4,fun H5 kf5 kk5 ga5 k5 m5=>⟨_,rfl,?_⟩⟩⟩
   have k05:=(k03.trans (k4.mono (by simp))).trans k5
   have m05:∀ t,FK kf t→FK kf5 t:=fun t h=>m5 t (m4 t (m2 t h))
   by_cases ew:wst SA SB k (s ||| 2 ^ z)=true
   ·rw [if_pos ew]
    have:=kq H5 kf5 kk5 ga5 k05 m05
    unfold place at this
    rw [stp,if_pos (by rw [ef,ew];rfl)] at this
    exact this
   ·rw [if_neg ew]
    refine ⟨⟨kf5,kk5,ga5,m05⟩,k05,?_⟩
    rw [stp,if_neg (by rw [ef];simpa using ew)]
    exact ⟨rfl,_,rfl⟩
  ·rw [if_neg ef]
   refine ⟨⟨kf2,kk2,ga3,m2⟩,k03,?_⟩
   rw [stp,if_neg (by simp [ef])]
   exact ⟨rfl,_,rfl⟩
 ·rintro _ H2 ⟨⟨kf2,kk2,ga2,m2⟩,k2,inv,v,w,rfl⟩
  walk_at "rd"
  have:=kq H2 kf2 kk2 ga2 k2 m2
  unfold place at this
  rw [inv] at this
  simpa [placeV] using this
theorem ok_AA {r:Nat} (hA:FM P w K mg base (3*r+1+1) "Game" "answer_in" ["self","line","lying","rounds"] (sp_AI r K)) (T:Txt P w K mg) : FM P w K mg base (3*r+1+1+1) "Game" "all_answered" ["self","lying","rounds"] (sp_AA r K):=by
 refine T.x_G_all_answered.F.ok sc_G_all_answered (fun _ _ _ _ h=>ex9 h fun _ _ _ _ _ _ _ _ _ e=>e.1▸rfl) fun _ _ _ s H vs Q E hr zh=>ex9 zh fun g df dk s k SA SB kf kk yh=>an6 yh fun vz ga hs hk hr4 kq=>?_
 clear zh yh;subst vz
 have n16:=ga.dicts.2.2.2.2
 obtain ⟨dx,pl,pr,ll,lf,hg,lr,hll,hln⟩:=ga.obj
 have keepl:∀ {H':Hp} {b xs},Kp [df,dk] H H'→H b=some (.lst xs)→H' b=some (.lst xs):=fun kp e=>kp _ _ e (by
  simp only [List.mem_cons,List.not_mem_nil,or_false,not_or]
  exact ⟨ne_of e ga.dicts.1 (by intro z;cases z),ne_of e ga.dicts.2.1 (by intro z;cases z)⟩)
 have llen:(lr.map V.ref).length=(lines SA SB).length:=by rw [List.length_map];exact hln.1
 refine ⟨_,(pss_cons (ps_for PassesOwn.never rfl (pi_list (pe_fld (pv 0) rfl)) (pg_name (i:=3) sc_G_all_answered.nd rfl (Or.inl rfl)) (pss_one (ps_if (pt_cmpR op_eq (pe_meth (pv 0) T.c_G.cl T.x_G_answer_in.m hA (hr.mono (by omega)) T.x_G_answer_in.b .nil pass0 (pa_cons (pv 3) (pa_cons (pv 1) (pa_cons (pv 2) pa_nil)))) (pe_gint rfl T.g_NONE_FITS) (nomark _)) (pss_one (ps_ret pe_bl)) pss_nil)))
   (pss_one (ps_ret pe_bl))),?_⟩
 walk_at "rd"
 refine tfor (J:=Itl K ll) (H1:=H) (n:=(lr.map V.ref).length) (one ll (.lst (lr.map V.ref))) (fun i σ H'=>(∃ kf' kk',GameAt K H' g SA SB df dk kf' kk'∧(∀ t,FK kf t→FK kf' t))∧Kp [df,dk] H H'∧wst SA SB (k+1) s=((lines SA SB).drop i).all (fun L=>L.any fun z=>fit SA SB s z && wst SA SB k (s ||| 2 ^ z))∧∃ v,σ=[some (.ref g),some (.int s),some (.int k),v]) ?_ (turns_list (SqL.of one_at)) ⟨⟨kf,kk,ga,fun _ h=>h⟩,Kp.refl _,rfl,_,rfl⟩ (fun i σ H' h=>kp_one (keepl h.2.1 hll)) ?_ ?_
 ·intro R q
  walk_at "ev"
  simp only [hg,T.c_G.cl,T.n_G_lines,fs_G_lines,hpL,V.int.injEq,V.ref.injEq]
  exact ⟨⟨_,SqL.of hll⟩,q⟩
 ·rintro i y _ H2 H3 hi ⟨⟨kf2,kk2,ga2,m2⟩,k2,inv,v,rfl⟩ k3 hy
  have hi':i < (lines SA SB).length:=by rw [←llen];exact hi
  obtain ⟨a,ha,rfl⟩ : ∃ a,lr[i]? = some a∧y=V.ref a:=by
   rw [List.getElem?_map] at hy
   cases e:lr[i]? with
   | none=>rw [e] at hy;cases hy
   | some z=>rw [e] at hy;cases hy;exact ⟨z,rfl,rfl⟩
  have hli:(lines SA SB)[i]? = some (lines SA SB)[i]:=List.getElem?_eq_getElem hi'
  generalize hl:(lines SA SB)[i]=l at hli
  have ha0:=hln.2 i a l ha hli
  have ga3:=ga2.kp k3
  have k03:=k2.trans k3.of
  have ha3:H3 a=some (nats l):=k3 _ _ (keepl k2 ha0) (by simp)
  have ml:=mem_lines.mp (List.mem_of_getElem? hli)
  obtain ⟨dx3,pl3,pr3,ll3,lf3,hg3,_⟩:=ga3.obj
  have lz:(∀ z∈l,z < SA.n*SB.n)∧l.length≤1000:=by
   obtain ⟨_,_,_,_,_,_,_,_,_,_,_,nA,nB,_⟩:=ga
   rcases ml with ⟨x,hx,rfl⟩ | ⟨x,hx,rfl⟩
   ·refine ⟨fun z hz=>?_,by simp [line0];omega⟩
    obtain ⟨y,hy,rfl⟩:=mem_line0.mp hz
    exact two_lt (A:=SA) ⟨hx,hy⟩
   ·refine ⟨fun z hz=>?_,by simp [line1];omega⟩
    obtain ⟨y,hy,rfl⟩:=mem_line1.mp hz
    exact two_lt (A:=SA) ⟨hy,hx⟩
  rw [List.drop_eq_getElem_cons hi',hl,List.all_cons] at inv
  walk_at "rd"
  simp only [hg3,fG_answer_in,hpL,V.int.injEq,V.ref.injEq]
  refine ⟨g,df,dk,a,l,s,k,SA,SB,kf2,kk2,rfl,ha3,lz.1,ga3,m2 s hs,hk,hr4,lz.2,fun H4 kf4 kk4 ga4 k4 m4=>?_⟩
  have m04:∀ t,FK kf t→FK kf4 t:=fun t h=>m4 t (m2 t h)
  have ip:(place SA SB k s l).isSome=l.any fun z=>fit SA SB s z && wst SA SB k (s ||| 2 ^ z):=List.findIdx?_isSome
  cases e:place SA SB k s l with
  | none =>
   rw [e] at ip
   rw [←ip] at inv
   have:=kq H4 kf4 kk4 ga4 (k03.trans k4) m04
   rw [inv] at this
   refine ⟨rfl,?_⟩
   simpa [placeV] using this
  | some j =>
   rw [e] at ip
   rw [←ip] at inv
   have:¬ ((j:Int) = -1):=by omega
   simp only [placeV,V.int.injEq,this,if_false]
   exact ⟨rfl,⟨kf4,kk4,ga4,m04⟩,k03.trans k4,by rw [inv];exact ⟨rfl,_,rfl⟩⟩
 ·rintro _ H2 ⟨⟨kf2,kk2,ga2,m2⟩,k2,inv,v,rfl⟩
  walk_at "rd"
  have:=kq H2 kf2 kk2 ga2 k2 m2
  rw [inv,llen,List.drop_length] at this
  exact this
theorem ok_W_step {r n:Nat} {sA:Sp} (hA:FM P w K mg base n "Game" "all_answered" ["self","lying","rounds"] (sA)) (imp:∀ {g df dk:Addr} {s k:Nat} {SA SB:Struct} {kf:List (Key × V)} {kk:List (List Key × V)} {H:Hp} {Q:VK},GameAt K H g SA SB df dk kf kk→FK kf s→k+1≤r→r≤4→GPost K H g SA SB df dk kf (Q (.bl (wst SA SB (k+1) s)))→sA [.ref g,.int s,.int k] H Q E0) (T:Txt P w K mg) : FM P w K mg base (n+1) "Game" "withstands" ["self","lying","rounds"] (sp_W r K):=by
 refine T.x_G_withstands.F.ok sc_G_withstands (fun _ _ _ _ h=>ex9 h fun _ _ _ _ _ _ _ _ _ e=>e.1▸rfl) fun _ _ _ s H vs Q E hr zh=>ex9 zh fun g df dk s k SA SB kf kk yh=>an6 yh fun vz ga hs hk hr4 kq=>?_
 clear zh yh;subst vz
 refine ⟨_,(pss_cons (ps_if (pt_eq (pv 2) pe_int (nomark _)) (pss_one (ps_ret pe_bl)) pss_nil)
   (pss_cons (ps_if (pt_cmp (pc_dnotin (hu_of hr) (pe_tup (pa_cons (pv 1) (pa_cons (pv 2) pa_nil))) (pe_fld (pv 0) rfl))) (pss_one (ps_dput (hu_of hr) (pe_fld (pv 0) rfl) (pe_tup (pa_cons (pv 1) (pa_cons (pv 2) pa_nil))) (pe_meth (pv 0) T.c_G.cl T.x_G_all_answered.m hA hr T.x_G_all_answered.b .nil pass0 (pa_cons (pv 1) (pa_cons (pe_op op_sub (pv 2) pe_int) pa_nil))) rfl)) pss_nil)
   (pss_one (ps_ret (pe_dget (hu_of hr) (pe_fld (pv 0) rfl) (pe_tup (pa_cons (pv 1) (pa_cons (pv 2) pa_nil))) (fun _ _=>rfl)))))),?_⟩
 walk_at "rd"
 have n16:=ga.dicts.2.2.2.2
 by_cases k0:k=0
 ·subst k0
  simp only [Int.natCast_zero,if_true]
  exact kq H kf kk ga (Kp.refl _) fun _ h=>h
 ·have k0':¬ ((k:Int)=0):=by omega
  simp only [k0',if_false]
  have fin:∀ {H1 kf1 kk1},GameAt K H1 g SA SB df dk kf1 kk1→Kp [df,dk] H H1→(∀ t,FK kf t→FK kf1 t)→valV kk1 [.inl (s:Int),.inl (k:Int)]=some (.bl (wst SA SB k s)) →
    ∃ x y z,H1 g=some (.ins x y z)∧Cls K x∧NoAttr K x "known"∧∃ x,z.lookup ("known" : Str)=some x∧2≤sizeLine∧∀ p,H1 p=none→∃ a,x=.ref a∧∃ x,DGet (upd H1 p (.tup [.int (s:Int),.int (k:Int)])) a (.ref p) (some x)∧Q x (upd H1 p (.tup [.int (s:Int),.int (k:Int)])):=fun {H1 kf1 kk1} ga1 k1 m1 hv=>by
   obtain ⟨dx,pl,pr,ll,lf,hg1,_⟩:=ga1.obj
   refine ⟨_,_,_,hg1,T.c_G.cl,T.n_G_known,_,fs_G_known,by decide,fun p hp=>⟨dk,rfl,_,?_,kq _ kf1 kk1 (ga1.kp ((Kp.refl _).new hp)) (k1.trans ((Kp.refl _).new hp)) m1⟩⟩
   have:=DGet.t (k:=[.inl (s:Int),.inl (k:Int)]) (upd_old (o:=.tup [.int (s:Int),.int (k:Int)]) ga1.dicts.2.1 hp) upd_same
   rwa [hv] at this
  refine ⟨by decide,fun p hp=>?_⟩
  have kp1:Kp [] H (upd H p (.tup [.int (s:Int),.int (k:Int)])):=(Kp.refl _).new hp
  have ga1:=ga.kp kp1
  obtain ⟨dx,pl,pr,ll,lf,hg1,_⟩:=ga1.obj
  have hd1:=DGet.t (k:=[.inl (s:Int),.inl (k:Int)]) ga1.dicts.2.1 upd_same
  refine ⟨_,_,_,hg1,T.c_G.cl,T.n_G_known,_,fs_G_known,dk,rfl,_,hd1,?_⟩
  cases e:valV kk [.inl (s:Int),.inl (k:Int)] with
  | some v =>
   simp only [Option.isSome_some,Bool.not_true,Bool.false_eq_true,if_false]
   exact fin ga1 kp1.of (fun _ h=>h) (by rw [e,ga.dicts.2.2.2.1.val e])
  | none =>
   simp only [Option.isSome_none,Bool.not_false,if_true]
   refine ⟨_,_,hg1,fG_all_answered,?_⟩
   have ek:(k:Int) - 1=((k - 1:Nat) : Int):=by omega
   rw [ek]
   refine imp ga1 hs (by omega) hr4 fun H2 kf2 kk2 ga2 k2 m2=>?_
   rw [show k - 1+1=k by omega]
   obtain ⟨dx2,pl2,pr2,ll2,lf2,hg2,_⟩:=ga2.obj
   refine ⟨_,_,_,hg2,T.c_G.cl,T.n_G_known,_,fs_G_known,by decide,fun p2 hp2=>?_⟩
   have kp2:Kp [] H2 (upd H2 p2 (.tup [.int (s:Int),.int (k:Int)])):=(Kp.refl _).new hp2
   have ga3:=ga2.kp kp2
   have ok3:=ga3.dicts.2.2.2.1
   have slt:=(ga.dicts.2.2.1.val hs).2
   refine ⟨dk,rfl,_,DPut.t (k:=[.inl (s:Int),.inl (k:Int)]) ga3.dicts.2.1 upd_same (ok3.len n16),fin (ga3.setK (ok3.put slt (by omega))) ?_ m2 (by rw [valV_put,if_pos rfl])⟩
   exact ((kp1.of.trans k2).trans kp2.of).set (by simp)
theorem ok_W (T:Txt P w K mg) : ∀ r:Nat,FM P w K mg base (3*r+1) "Game" "withstands" ["self","lying","rounds"] (sp_W r K)
 | 0=>ok_W_step (n:=0) (sA:=fun _ _ _ _=>False) ⟨fun _ _ _ _ h=>h.elim,fun _ _ _ _ _ _ _ _ _ _ _ _ _ h=>h.elim⟩ (fun _ _ h _ _=>by omega) T
 | r+1=>ok_W_step (ok_AA (ok_AI (ok_W T r) T) T) (fun ga hs hk hr4 q=>⟨_,_,_,_,_,_,_,_,_,rfl,ga,hs,by omega,by omega,q⟩) T
def sp_G_least_not_withstood (K:Frag) : Sp:=fun vs H Q _=>∃ (g df dk:Addr) (SA SB:Struct) (kf:List (Key × V)) (kk:List (List Key × V)),vs=[.ref g,.int 4]∧GameAt K H g SA SB df dk kf kk∧FK kf 0 ∧
 ∀ r:Nat,1≤r→(∀ j,1≤j→j < r→wst SA SB j 0=true)→((r≤4∧wst SA SB r 0=false)∨r=5)→GPost K H g SA SB df dk kf (Q (.int (r:Int)))
theorem ok_G_least_not_withstood (T:Txt P w K mg) : FM P w K mg base 14 "Game" "least_not_withstood" ["self","most"] (sp_G_least_not_withstood K):=by
 refine T.x_G_least_not_withstood.F.ok sc_G_least_not_withstood (fun _ _ _ _ h=>ex7 h fun _ _ _ _ _ _ _ e=>e.1▸rfl) fun _ _ _ s H vs Q E hr zh=>ex7 zh fun g df dk SA SB kf kk yh=>an4 yh fun vz ga hs kq=>?_
 clear zh yh;subst vz
 refine ⟨_,(pss_cons (ps_set (i:=2) sc_G_least_not_withstood.nd rfl (Or.inl rfl) pe_int)
   (pss_cons (ps_while PassesOwn.never (PW.pt (pw_and (pt_le (pv 2) (pv 1) (nomark _)) (pw_and1 (pt_val (pe_meth (pv 0) T.c_G.cl T.x_G_withstands.m (ok_W T 4) (hr.mono (by decide)) T.x_G_withstands.b .nil pass0 (pa_cons pe_int (pa_cons (pv 2) pa_nil))))))) (pss_one (ps_aug (i:=2) sc_G_least_not_withstood.nd rfl (Or.inl rfl) pe_int ip_add)))
   (pss_one (ps_ret (pv 2))))),?_⟩
 walk_at "rd"
 refine ⟨fun m σ H'=>∃ r:Nat,m=5 - r∧1≤r∧r≤5∧(∀ j,1≤j→j < r→wst SA SB j 0=true)∧(∃ kf' kk',GameAt K H' g SA SB df dk kf' kk'∧(∀ t,FK kf t→FK kf' t))∧Kp [df,dk] H H'∧σ=[some (.ref g),some (.int 4),some (.int (r:Int))],⟨4,1,rfl,by omega,by omega,fun j h1 h2=>by omega,⟨kf,kk,ga,fun _ h=>h⟩,Kp.refl _,rfl⟩,?_⟩
 rintro m _ H2 ⟨r,rfl,r1,r5,inv,⟨kf2,kk2,ga2,m2⟩,k2,rfl⟩
 walk_at "rd"
 by_cases hr5:r=5
 ·subst hr5
  simp only [show ¬ (((5:Nat) : Int)≤4) by decide,if_false]
  exact kq 5 (by omega) inv (.inr rfl) H2 kf2 kk2 ga2 k2 m2
 ·have c1:(r:Int)≤4:=by omega
  simp only [c1,if_true]
  obtain ⟨dx,pl,pr,ll,lf,hg2,_⟩:=ga2.obj
  simp only [hg2,fG_withstands,hpL,V.int.injEq,V.ref.injEq]
  refine ⟨g,df,dk,0,r,SA,SB,kf2,kk2,rfl,ga2,m2 0 hs,by omega,by omega,fun H3 kf3 kk3 ga3 k3 m3=>⟨_,rfl,?_⟩⟩
  have m03:∀ t,FK kf t→FK kf3 t:=fun t h=>m3 t (m2 t h)
  by_cases ew:wst SA SB r 0=true
  ·rw [if_pos ew]
   refine ⟨fun σ H'=>σ=[some (.ref g),some (.int 4),some (.int ((r+1:Nat) : Int))]∧H'=H3,?_,by simp,rfl⟩
   rintro _ _ ⟨rfl,rfl⟩
   refine ⟨5 - (r+1),by omega,r+1,rfl,by omega,by omega,fun j h1 h2=>?_,⟨kf3,kk3,ga3,m03⟩,k2.trans k3,rfl⟩
   by_cases e:j=r
   ·rw [e];exact ew
   ·exact inv j h1 (by omega)
  ·rw [if_neg ew]
   exact kq r r1 inv (.inl ⟨by omega,by simpa using ew⟩) H3 kf3 kk3 ga3 (k2.trans k3) m03
theorem pairs_get :∀ (m:Nat) (l:List Nat),l.length=2*m→(Rc82.pairs l).length=m∧∀ i,i < m→∃ a b,l[2*i]? = some a∧l[2*i+1]? = some b∧(Rc82.pairs l)[i]? = some (a,b)
 | 0,[],_=>⟨rfl,fun i h=>by omega⟩
 | m+1,a :: b :: l,h=>by
  obtain ⟨h1,h2⟩:=pairs_get m l (by simp at h;omega)
  refine ⟨by simp [Rc82.pairs,h1],fun i hi=>?_⟩
  cases i with
  | zero=>exact ⟨a,b,rfl,rfl,rfl⟩
  | succ i =>
   obtain ⟨c,d,q1,q2,q3⟩:=h2 i (by omega)
   exact ⟨c,d,by rw [show 2*(i+1)=2*i+1+1 by omega];exact q1,by rw [show 2*(i+1)+1=2*i+1+1+1 by omega];exact q2,q3⟩
 | 0,_ :: _,h=>by simp at h
 | m+1,[],h=>by simp at h
 | m+1,[_],h=>by simp at h;omega
def sp_G_reply (K:Frag) : Sp:=fun vs H Q _=>∃ (g df dk L:Addr) (side:Int) (x k m:Nat) (l:List Nat) (SA SB:Struct) (kf:List (Key × V)) (kk:List (List Key × V)),vs=[.ref g,.int side,.int x,.int k,.ref L]∧H L=some (nats l)∧l.length=2*m∧m≤3∧(∀ y∈Rc82.pairs l,InR SA SB y)∧(side=0∧x < SA.n∨side=1∧x < SB.n)∧k≤3∧GameAt K H g SA SB df dk kf kk∧FK kf 0 ∧
 GPost K H g SA SB df dk kf (Q (placeV ((laid SA SB 0 (Rc82.pairs l)).bind fun s=>place SA SB k s (lineOf SA SB side.toNat x))))
theorem fG_two_of {a b c d e f g:V}:(fs_G a b c d e f g).lookup ("two_of" : Str)=none:=rfl
theorem fG_line {a b c d e f g:V}:(fs_G a b c d e f g).lookup ("line" : Str)=none:=rfl
theorem ok_G_reply (T:Txt P w K mg) : FM P w K mg base 12 "Game" "reply" ["self","side","x","rounds","lie"] (sp_G_reply K):=by
 refine T.x_G_reply.F.ok sc_G_reply (fun _ _ _ _ h=>ex13 h fun _ _ _ _ _ _ _ _ _ _ _ _ _ e=>e.1▸rfl) fun _ _ _ s H vs Q E hr zh=>ex13 zh fun g df dk L side x k m l SA SB kf kk yh=>an10 yh fun vz hL hl m3 hp hsx hk ga hs kq=>?_
 clear zh yh;subst vz
 obtain ⟨pl1,pl2⟩:=pairs_get m l hl
 have n16:=ga.dicts.2.2.2.2
 have nd:∀ {H':Hp},Kp [df,dk] H H'→H' L=some (nats l):=fun kp=>kp L _ hL (by
  simp only [List.mem_cons,List.not_mem_nil,or_false,not_or]
  exact ⟨ne_of hL ga.dicts.1 (by intro z;cases z),ne_of hL ga.dicts.2.1 (by intro z;cases z)⟩)
 refine ⟨_,(pss_cons (ps_set (i:=5) sc_G_reply.nd rfl (Or.inl rfl) pe_int)
   (pss_cons (ps_for PassesOwn.never rfl (pi_range3 rfl T.nb_range (pa_cons pe_int (pa_cons (pe_callB call_len_seq (by rfl) T.nb_len PySem.boot_len (pa_cons (pv 4) pa_nil)) (pa_cons pe_int pa_nil)))) (pg_name (i:=6) sc_G_reply.nd rfl (Or.inl rfl)) (pss_cons (ps_set (i:=7) sc_G_reply.nd rfl (Or.inl rfl) (pe_meth (pv 0) T.c_G.cl T.x_G_two_of.m (ok_G_two_of T) (hr.mono (by decide)) T.x_G_two_of.b .nil pass0 (pa_cons (pe_ix ix_list (pv 4) (pv 6) (fun _ _=>rfl)) (pa_cons (pe_ix ix_list (pv 4) (pe_op op_add (pv 6) pe_int) (fun _ _=>rfl)) pa_nil))))
   (pss_cons (ps_if (pt_not (pt_val (pe_meth (pv 0) T.c_G.cl T.x_G_fits.m (ok_G_fits T) (hr.mono (by decide)) T.x_G_fits.b .nil pass0 (pa_cons (pv 5) (pa_cons (pv 7) pa_nil))))) (pss_one (ps_ret (pe_gint rfl T.g_NONE_FITS))) pss_nil)
   (pss_one (ps_set (i:=5) sc_G_reply.nd rfl (Or.inl rfl) (pe_meth (pv 0) T.c_G.cl T.x_G_put.m (ok_G_put T) (hr.mono (by decide)) T.x_G_put.b .nil pass0 (pa_cons (pv 5) (pa_cons (pv 7) pa_nil))))))))
   (pss_one (ps_ret (pe_meth (pv 0) T.c_G.cl T.x_G_answer_in.m (ok_AI (ok_W T 3) T) (hr.mono (by decide)) T.x_G_answer_in.b .nil pass0 (pa_cons (pe_meth (pv 0) T.c_G.cl T.x_G_line.m (ok_G_line T) (hr.mono (by decide)) T.x_G_line.b .nil pass0 (pa_cons (pv 1) (pa_cons (pv 2) pa_nil))) (pa_cons (pv 5) (pa_cons (pv 3) pa_nil)))))))),?_⟩
 walk_at "rd"
 refine tfor (J:=Itc 0 2 m) (H1:=H) (n:=m) (fun _=>none) (fun i σ H'=>∃ s:Nat,(∃ kf' kk',GameAt K H' g SA SB df dk kf' kk'∧(∀ t,FK kf t→FK kf' t)∧FK kf' s)∧Kp [df,dk] H H'∧laid SA SB 0 (Rc82.pairs l)=laid SA SB s ((Rc82.pairs l).drop i)∧∃ v w,σ=[some (.ref g),some (.int side),some (.int x),some (.int k),some (.ref L),some (.int (s:Int)),v,w]) ?_ turns_rangeC ⟨0,⟨kf,kk,ga,fun _ h=>h,hs⟩,Kp.refl _,rfl,_,_,rfl⟩ (fun i σ H' h=>kp_nil) ?_ ?_
 ·intro R q
  walk_at "ev"
  refine ⟨_,.inl (SqL.of hL),m,?_,q⟩
  rw [List.length_map,hl]
  have:m=0∨m=1∨m=2∨m=3:=by omega
  rcases this with rfl | rfl | rfl | rfl <;> exact ⟨by decide,by decide,by decide,by decide⟩
 ·rintro i _ _ H2 H3 hi ⟨s,⟨kf2,kk2,ga2,m2,f2⟩,k2,inv,v,w,rfl⟩ k3 rfl
  obtain ⟨a,b,ha,hb,hab⟩:=pl2 i hi
  have rng:=hp _ (List.mem_of_getElem? hab)
  have ga3:=ga2.kp k3
  have k03:=k2.trans k3.of
  have hL3:=nd k03
  obtain ⟨dx,pl,pr,ll,lf,hg3,_⟩:=ga3.obj
  walk_at "rd"
  simp only [hg3,fG_two_of,fG_fits,fG_put,hpL,V.int.injEq,V.ref.injEq]
  have hnat:∀ {j c:Nat},l[j]? = some c→(l.map fun (z:Nat)=>V.int (z:Int))[j]? = some (.int (c:Int)):=fun h=>by rw [List.getElem?_map,h];rfl
  refine ⟨_,SqL.of hL3,_,at_of (j:=2*i) (by omega) (hnat ha),_,SqL.of hL3,_,at_of (j:=2*i+1) (by omega) (hnat hb),g,a,b,SA,SB,rfl,ga3.gp,?_⟩
  have et:(a:Int)*SB.n+b=((two SB (a,b) : Nat) : Int):=by simp [two]
  rw [et]
  have zN:=two_lt rng
  generalize hz:two SB (a,b)=z at zN
  have stp:laid SA SB 0 (Rc82.pairs l)=if fit SA SB s z=true then laid SA SB (s ||| 2 ^ z) ((Rc82.pairs l).drop (i+1)) else none:=by
   obtain ⟨h1,h2⟩:=List.getElem?_eq_some_iff.mp hab
   rw [inv,List.drop_eq_getElem_cons h1,h2,laid,hz]
  refine ⟨_,_,hg3,fG_fits,g,df,dk,s,z,SA,SB,kf2,kk2,rfl,ga3,f2,zN,_,rfl,?_⟩
  by_cases ef:fit SA SB s z=true
  ·rw [if_pos ef] at stp
   simp only [ef,if_false,Bool.true_eq_false,reduceCtorEq]
   exact ⟨_,_,hg3,fG_put,g,df,dk,s,z,SA,SB,kf2,kk2,rfl,ga3,f2,zN,fun H4 kf4 ga4 k4 f4 m4=>⟨s ||| 2 ^ z,⟨kf4,kk2,ga4,(fun t h=>m4 t (m2 t h)),f4⟩,k03.trans (k4.mono (by simp)),stp,rfl,_,rfl⟩⟩
  ·rw [if_neg ef] at stp
   simp only [ef,if_true]
   have:=kq H3 kf2 kk2 ga3 k03 m2
   rw [stp] at this
   exact this
 ·rintro _ H2 ⟨s,⟨kf2,kk2,ga2,m2,f2⟩,k2,inv,v,w,rfl⟩
  rw [←pl1,List.drop_length,laid] at inv
  obtain ⟨dx,pl,pr,ll,lf,hg2,_⟩:=ga2.obj
  walk_at "rd"
  simp only [hg2,fG_answer_in,fG_line,hpL,V.int.injEq,V.ref.injEq]
  refine ⟨g,side,x,SA,SB,rfl,ga2.gp,fun H3 D k3 hD h3=>?_⟩
  have el:(if side=0 then line0 SA SB x else line1 SA SB x)=lineOf SA SB side.toNat x:=by
   unfold lineOf
   rcases hsx with ⟨rfl,_⟩ | ⟨rfl,_⟩ <;> rfl
  have lz:(∀ z∈lineOf SA SB side.toNat x,z < SA.n*SB.n)∧(lineOf SA SB side.toNat x).length≤1000:=by
   obtain ⟨_,_,_,_,_,_,_,_,_,_,_,nA,nB,_⟩:=ga
   rcases hsx with ⟨rfl,hx⟩ | ⟨rfl,hx⟩
   ·show (∀ z∈line0 SA SB x,_)∧(line0 SA SB x).length≤_
    refine ⟨fun z hz=>?_,by simp [line0];omega⟩
    obtain ⟨y,hy,rfl⟩:=mem_line0.mp hz
    exact two_lt (A:=SA) ⟨hx,hy⟩
   ·show (∀ z∈line1 SA SB x,_)∧(line1 SA SB x).length≤_
    refine ⟨fun z hz=>?_,by simp [line1];omega⟩
    obtain ⟨y,hy,rfl⟩:=mem_line1.mp hz
    exact two_lt (A:=SA) ⟨hy,hx⟩
  rw [el] at h3
  refine ⟨g,df,dk,D,_,s,k,SA,SB,kf2,kk2,rfl,h3,lz.1,ga2.kp k3,f2,hk,by omega,lz.2,fun H4 kf4 kk4 ga4 k4 m4=>?_⟩
  have:=kq H4 kf4 kk4 ga4 ((k2.trans k3.of).trans k4) fun t h=>m4 t (m2 t h)
  rw [inv] at this
  exact this
def restsN (N s:Nat) (spare:Bool) : List Nat:=((List.range N).filter s.testBit).map (s ^^^ 2 ^ ·) ++ if spare=true then [s] else []
theorem GameAt.two {H:Hp} {g df dk:Addr} {SA SB:Struct} {kf:List (Key × V)} {kk:List (List Key × V)} (h:GameAt K H g SA SB df dk kf kk) : SA.n*SB.n≤16:=h.dicts.2.2.2.2
def sp_rests (K:Frag) : Sp:=fun vs H Q _=>∃ (g df dk:Addr) (s:Nat) (sp:Bool) (SA SB:Struct) (kf:List (Key × V)) (kk:List (List Key × V)),vs=[.ref g,.int s,.bl sp]∧GameAt K H g SA SB df dk kf kk∧∀ H' D,Kp [] H H'→H D=none→H' D=some (nats (restsN (SA.n*SB.n) s sp))→Q (.ref D) H'
theorem ok_rests (T:Txt P w K mg) : FF P w K mg base 1 "rests" ["game","lying","has_spare"] (sp_rests K):=by
 refine T.x_rests.F.ok sc_rests (fun _ _ _ _ h=>ex9 h fun _ _ _ _ _ _ _ _ _ e=>e.1▸rfl) fun _ _ _ s H vs Q E hr zh=>ex9 zh fun g df dk s sp SA SB kf kk yh=>an3 yh fun vz ga k=>?_
 clear zh yh;subst vz
 have n16:=ga.two
 obtain ⟨dx,pl,pr,ll,lf,hg,_⟩:=ga.obj
 refine ⟨_,(pss_cons (ps_setLc (i:=3) rfl sc_rests.nd rfl rfl (sw_true rfl rfl rfl rfl) (pi_range1 rfl T.nb_range (pa_cons (pe_fld (pv 0) rfl) pa_nil)) (blkOk_by (own:=[("two",4)]) rfl) (fun _ _ _ _ _=>(pg_name (i:=4) sc_rests.nd rfl (Or.inl rfl))) (fun _ _ _ _ _=>(pts_one (pt_eq (pe_op op_mod (pe_op op_shr (pv 1) (pv 4)) pe_int) pe_int (nomark _)))) (fun _ _ _ _ _=>(pe_op op_xor (pv 1) (pe_op op_shlB pe_int (pv 4)))))
   (pss_cons (ps_if (pt_val (pv 2)) (pss_one (ps_expr (pe_bm PySem.F.plainAttrs_list PySem.F.slot_list_append PySem.F.type_list_append mt_append (pv 3) (pa_cons (pv 1) pa_nil)))) pss_nil)
   (pss_one (ps_ret (pv 3))))),?_⟩
 walk_at "rd"
 refine tlc_if (H1:=H) (J:=Itr 0 (SA.n*SB.n)) (n:=SA.n*SB.n) s.testBit (fun z=>.int ((s ^^^ 2 ^ z:Nat) : Int)) ?_ turns_range (by rw [sizeLine_eq];omega) ?_ fun D H1 hD k1 h1=>?_
 ·intro R q
  walk_at "ev"
  simp only [hg,T.c_G.cl,T.n_G_two_count,fs_G_two_count,hpL,V.int.injEq,V.ref.injEq]
  exact ⟨by omega,by omega,q⟩
 ·rintro i _ H2 Q2 N2 hi rfl k2 q1 q2
  refine ⟨rfl,?_⟩
  walk_at "rd"
  refine ⟨by omega,by decide,?_⟩
  rw [show (0:Int)+(i:Int)=(i:Int) by omega,shrN]
  have hb:=bit_odd s i
  by_cases e:s.testBit i=true
  ·rw [e] at hb
   simp only [of_decide_eq_true hb,if_true]
   refine ⟨⟨by omega,by omega,1,by omega,by decide⟩,?_⟩
   rw [shl1,bxor]
   exact q1 e H2 (Kp.refl _)
  ·have e':s.testBit i=false:=by simpa using e
   rw [e'] at hb
   simp only [of_decide_eq_false hb,if_false]
   exact q2 e' H2 (Kp.refl _)
 ·walk_at "rd"
  have el:((List.range (SA.n*SB.n)).filter s.testBit).map (fun z=>V.int ((s ^^^ 2 ^ z:Nat) : Int))=(((List.range (SA.n*SB.n)).filter s.testBit).map (s ^^^ 2 ^ ·)).map fun (z:Nat)=>V.int (z:Int):=by rw [List.map_map];rfl
  rw [el] at h1
  cases sp with
  | true =>
   simp only [if_true]
   refine ⟨.inl ⟨rfl,_,SqL.of h1⟩,_,h1,?_,?_⟩
   ·have:=List.length_filter_le s.testBit (List.range (SA.n*SB.n))
    rw [List.length_range] at this
    rw [List.length_map,List.length_map,sizeLine_eq];omega
   ·refine k _ D (k1.young hD) hD ?_
    rw [upd_same]
    simp [nats,restsN]
  | false =>
   simp only [Bool.false_eq_true,if_false]
   exact k H1 D k1 hD (by rw [h1];simp [nats,restsN])
def ansL (SA SB:Struct) (ka:List (Key × V)) (r:Nat) : Bool:=(lines SA SB).all fun L=>L.any fun z=>(valV ka (.inl ((r ||| 2 ^ z:Nat) : Int))).isSome
def sp_is_answered (K:Frag) : Sp:=fun vs H Q _=>∃ (g df dk da:Addr) (r:Nat) (SA SB:Struct) (kf ka:List (Key × V)) (kk:List (List Key × V)),vs=[.ref g,.int r,.ref da]∧GameAt K H g SA SB df dk kf kk∧H da=some (.dK ka)∧∀ H',Kp [] H H'→Q (.bl (ansL SA SB ka r)) H'
theorem ok_is_answered (T:Txt P w K mg) : FF P w K mg base 1 "is_answered" ["game","rest","alive"] (sp_is_answered K):=by
 refine T.x_is_answered.F.ok sc_is_answered (fun _ _ _ _ h=>ex10 h fun _ _ _ _ _ _ _ _ _ _ e=>e.1▸rfl) fun _ _ _ s H vs Q E hr zh=>ex10 zh fun g df dk da r SA SB kf ka kk yh=>an4 yh fun vz ga hda kq=>?_
 clear zh yh;subst vz
 have n16:=ga.two
 obtain ⟨dx,pl,pr,ll,lf,hg,lr,hll,hln⟩:=ga.obj
 have llen:(lr.map V.ref).length=(lines SA SB).length:=by rw [List.length_map];exact hln.1
 refine ⟨_,(pss_cons (ps_for PassesOwn.never rfl (pi_list (pe_fld (pv 0) rfl)) (pg_name (i:=3) sc_is_answered.nd rfl (Or.inl rfl)) (pss_one (ps_if (pt_not (pt_val (pe_callB (cr_any rfl) (by rfl) T.nb_any bt_any (pa_cons (pe_lc rfl sc_is_answered.nd (pi_list (pv 3)) (blkOk_by (own:=[("two",4)]) rfl) (fun _ _ _ _ _=>(pg_name (i:=4) sc_is_answered.nd rfl (Or.inl rfl))) (fun _ _ _ _ _=>pts_nil) (fun _ _ _ _ _=>(pe_cmp (pc_din (hu_of hr) (pe_op op_or (pv 1) (pe_op op_shlB pe_int (pv 4))) (pv 2))))) pa_nil)))) (pss_one (ps_ret pe_bl)) pss_nil)))
   (pss_one (ps_ret pe_bl))),?_⟩
 walk_at "rd"
 refine tfor (J:=Itl K ll) (H1:=H) (n:=(lr.map V.ref).length) H (fun i σ H'=>Kp [] H H'∧ansL SA SB ka r=((lines SA SB).drop i).all (fun L=>L.any fun z=>(valV ka (.inl ((r ||| 2 ^ z:Nat) : Int))).isSome)∧∃ v w,σ=[some (.ref g),some (.int r),some (.ref da),v,w]) ?_ (turns_list (SqL.of hll)) ⟨Kp.refl _,rfl,_,_,rfl⟩ (fun i σ H' h=>h.1) ?_ ?_
 ·intro R q
  walk_at "ev"
  simp only [hg,T.c_G.cl,T.n_G_lines,fs_G_lines,hpL,V.int.injEq,V.ref.injEq]
  exact ⟨⟨_,SqL.of hll⟩,q⟩
 ·rintro i y _ H2 H3 hi ⟨k2,inv,v,w,rfl⟩ k3 hy
  have hi':i < (lines SA SB).length:=by rw [←llen];exact hi
  obtain ⟨a,ha,rfl⟩ : ∃ a,lr[i]? = some a∧y=V.ref a:=by
   rw [List.getElem?_map] at hy
   cases e:lr[i]? with
   | none=>rw [e] at hy;cases hy
   | some z=>rw [e] at hy;cases hy;exact ⟨z,rfl,rfl⟩
  have hli:(lines SA SB)[i]? = some (lines SA SB)[i]:=List.getElem?_eq_getElem hi'
  generalize hl:(lines SA SB)[i]=l at hli
  have k03:=k2.trans k3
  have ha3:H3 a=some (nats l):=k03 _ _ (hln.2 i a l ha hli) (by simp)
  have hda3:=k03 da _ hda (by simp)
  have ll16:l.length≤16:=by
   obtain ⟨_,_,_,_,_,_,_,_,_,_,_,nA,nB,_⟩:=ga
   rcases mem_lines.mp (List.mem_of_getElem? hli) with ⟨x,hx,rfl⟩ | ⟨x,hx,rfl⟩
   ·simp [line0];omega
   ·simp [line1];omega
  have lz:∀ z∈l,z < SA.n*SB.n:=fun z hz=>by
   rcases mem_lines.mp (List.mem_of_getElem? hli) with ⟨x,hx,rfl⟩ | ⟨x,hx,rfl⟩
   ·obtain ⟨y,hy,rfl⟩:=mem_line0.mp hz
    exact two_lt (A:=SA) ⟨hx,hy⟩
   ·obtain ⟨y,hy,rfl⟩:=mem_line1.mp hz
    exact two_lt (A:=SA) ⟨hy,hx⟩
  rw [List.drop_eq_getElem_cons hi',hl,List.all_cons] at inv
  walk_at "rd"
  refine tlc_all (H1:=H3) (J:=Itl K a) (n:=(l.map fun (z:Nat)=>V.int (z:Int)).length) (fun j=>.bl (valV ka (.inl ((r ||| 2 ^ (l.getD j 0) : Nat) : Int))).isSome) ?_ (turns_list (SqL.of ha3)) (by rw [List.length_map,sizeLine_eq];omega) gName_mono ?_ fun D H4 hD k4 h4=>?_
  ·intro R q
   walk_at "ev"
   exact ⟨⟨_,SqL.of ha3⟩,q⟩
  ·intro j y H5 Q5 hj hy k5 q
   obtain ⟨z,hz,rfl⟩ : ∃ z,l[j]? = some z∧y=.int (z:Int):=by
    rw [List.getElem?_map] at hy
    cases e:l[j]? with
    | none=>rw [e] at hy;cases hy
    | some z=>rw [e] at hy;cases hy;exact ⟨z,rfl,rfl⟩
   have zN:=lz z (List.mem_of_getElem? hz)
   refine ⟨rfl,?_⟩
   walk_at "rd"
   refine ⟨⟨by omega,by omega,1,by omega,by decide⟩,?_⟩
   rw [shl1,bor]
   refine ⟨_,DGet.k (k:=Sum.inl _) (k5 _ _ hda3 (by simp)),?_⟩
   have:=q H5 (Kp.refl _)
   simpa [List.getD,hz] using this
  refine ⟨D,l.map fun z=>(valV ka (.inl ((r ||| 2 ^ z:Nat) : Int))).isSome,rfl,SqL.of ?_,_,rfl,?_⟩
  ·rw [h4,List.length_map]
   congr 2
   apply List.ext_getElem?
   intro j
   rw [List.getElem?_map,List.map_map,List.getElem?_map]
   by_cases hj:j < l.length
   ·simp [List.getElem?_range hj,List.getElem?_eq_getElem hj,List.getD]
   ·simp [hj,List.getElem?_eq_none (Nat.le_of_not_lt hj)]
  ·rw [List.any_map]
   have ee:(id ∘ fun z=>(valV ka (.inl ((r ||| 2 ^ z:Nat) : Int))).isSome)=fun z=>(valV ka (.inl ((r ||| 2 ^ z:Nat) : Int))).isSome:=rfl
   rw [ee]
   cases e:l.any fun z=>(valV ka (.inl ((r ||| 2 ^ z:Nat) : Int))).isSome with
   | true =>
    rw [e,Bool.true_and] at inv
    simp only [Bool.not_true,Bool.false_eq_true,if_false,Bool.true_eq_false]
    exact ⟨k03.trans k4,inv,_,rfl⟩
   | false =>
    rw [e,Bool.false_and] at inv
    have:=kq H4 (k03.trans k4)
    rw [inv] at this
    simpa using this
 ·rintro _ H2 ⟨k2,inv,v,w,rfl⟩
  walk_at "rd"
  have:=kq H2 k2
  rw [inv,llen,List.drop_length] at this
  exact this
structure CntOk (SA SB:Struct) (c:Nat) (kc:List (Key × V)) : Prop where
 nd:(kc.map (·.1)).Nodup
 all:∀ p∈kc,∃ s:Nat,AL SA SB s∧card (SA.n*SB.n) s≤c∧p=(.inl (s:Int),.int (card (SA.n*SB.n) s:Int))
def Full (SA SB:Struct) (c:Nat) (kc:List (Key × V)) : Prop:=∀ s,AL SA SB s→card (SA.n*SB.n) s≤c→FK kc s
theorem AL.lt {SA SB:Struct} {s:Nat} (h:AL SA SB s) : s < 2 ^ (SA.n*SB.n):=Nat.lt_pow_two_of_testBit s fun i hi=>by
 cases e:s.testBit i with
 | false=>rfl
 | true=>have:=(h i e).1;omega
section
variable {SA SB:Struct} {c:Nat} {kc:List (Key × V)}
theorem CntOk.len (h:CntOk SA SB c kc) (hn:SA.n*SB.n≤16) : kc.length < sizeLine:=by
 have:=nd_len (f:=fun k:Key=>match k with | .inl i=>i.toNat | .inr _=>0) 65536 (kc.map (·.1)) h.nd (fun a ha b hb e=>by
  obtain ⟨p,hp,rfl⟩:=List.mem_map.mp ha
  obtain ⟨q,hq,rfl⟩:=List.mem_map.mp hb
  obtain ⟨s,_,_,rfl⟩:=h.all p hp
  obtain ⟨t,_,_,rfl⟩:=h.all q hq
  simp only [Int.toNat_natCast] at e
  rw [e]) fun a ha=>by
   obtain ⟨p,hp,rfl⟩:=List.mem_map.mp ha
   obtain ⟨s,hs,_,rfl⟩:=h.all p hp
   have:=two16 hn
   have:=hs.lt
   simp only [Int.toNat_natCast]
   omega
 rw [List.length_map] at this
 rw [sizeLine_eq];omega
theorem CntOk.val (h:CntOk SA SB c kc) {s:Nat} (hs:FK kc s) : valV kc (.inl (s:Int))=some (.int (card (SA.n*SB.n) s:Int))∧AL SA SB s∧card (SA.n*SB.n) s≤c:=by
 unfold FK at hs
 cases e:valV kc (.inl (s:Int)) with
 | none=>rw [e] at hs;cases hs
 | some v =>
  obtain ⟨t,ht,hc,q⟩:=h.all _ (mem_valV e)
  have e1:(Sum.inl (s:Int) : Key)=.inl (t:Int):=congrArg Prod.fst q
  have e2:v=.int (card (SA.n*SB.n) t:Int):=congrArg Prod.snd q
  have:s=t:=by injection e1 with e1;omega
  subst this
  exact ⟨by rw [e2],ht,hc⟩
theorem CntOk.put (h:CntOk SA SB c kc) {s:Nat} (hs:AL SA SB s) (hc:card (SA.n*SB.n) s≤c) : CntOk SA SB c (putK kc (.inl (s:Int)) (.int (card (SA.n*SB.n) s:Int))) :=
 ⟨nd_put _ h.nd,fun p hp=>(mem_putK hp).elim (h.all p) fun e=>⟨s,hs,hc,e⟩⟩
theorem CntOk.mono {c':Nat} (h:CntOk SA SB c kc) (hc:c≤c') : CntOk SA SB c' kc:=⟨h.nd,fun p hp=>let ⟨s,a,b,e⟩:=h.all p hp;⟨s,a,by omega,e⟩⟩
theorem mem_FK {p:Key × V} {s:Nat} (h:p∈kc) (e:p.1=.inl (s:Int)) : FK kc s:=by
 unfold FK
 cases q:valV kc (.inl (s:Int)) with
 | some v=>rfl
 | none=>exact absurd (List.mem_map.mpr ⟨p,h,e⟩) (valV_not q)
theorem Full.grow {kc':List (Key × V)} (h:Full SA SB c kc) (g:∀ s z,FK kc s→z < SA.n*SB.n→fit SA SB s z=true→FK kc' (s ||| 2 ^ z)) (m:Full SA SB c kc') : Full SA SB (c+1) kc':=fun s al hc=>by
 by_cases e:card (SA.n*SB.n) s≤c
 ·exact m s al e
 ·obtain ⟨z,hz,hb⟩ : ∃ z∈List.range (SA.n*SB.n),s.testBit z=true:=List.countP_pos_iff.mp (show 0 < card (SA.n*SB.n) s by omega)
  have hz:=List.mem_range.mp hz
  have cx:=card_xor hb hz
  have:=g (s ^^^ 2 ^ z) z (h _ (al.sub fun w=>xor_sub hb) (by omega)) hz (al.fitSub hb fun w=>xor_sub hb)
  rwa [xor_or hb] at this
end
theorem GameAt.setO {H:Hp} {g df dk d:Addr} {SA SB:Struct} {kf ka ka':List (Key × V)} {kk:List (List Key × V)} (h:GameAt K H g SA SB df dk kf kk) (hd:H d=some (.dK ka)) (n:d≠df) : GameAt K (upd H d (.dK ka')) g SA SB df dk kf kk:=by
 obtain ⟨a,b,c,e,_⟩:=h.dicts
 exact h.keep (fun _ _ _ _ e=>by rw [upd_ne (ne_of e hd (by intro z;cases z))];exact e) (fun _ _ e=>by rw [upd_ne (ne_of e hd (by intro z;cases z))];exact e) (by rw [upd_ne n.symm];exact a) (by rw [upd_ne (ne_of b hd (by intro z;cases z))];exact b) c e
def LyInv (K:Frag) (H H':Hp) (g df dk dc:Addr) (SA SB:Struct) (kk:List (List Key × V)) (c:Nat) (kc kf':List (Key × V)) : Prop:=GameAt K H' g SA SB df dk kf' kk∧H' dc=some (.dK kc)∧Kp [df] H H'∧CntOk SA SB c kc∧∀ s,FK kc s→FK kf' s
theorem LyInv.kp {H H' H2:Hp} {g df dk dc:Addr} {SA SB:Struct} {kk:List (List Key × V)} {c:Nat} {kc kf':List (Key × V)} (h:LyInv K H H' g df dk dc SA SB kk c kc kf') (k:Kp [] H' H2) : LyInv K H H2 g df dk dc SA SB kk c kc kf' :=
 ⟨h.1.kp k,k _ _ h.2.1 (by simp),h.2.2.1.trans k.of,h.2.2.2⟩
def sp_all_lying (K:Frag) : Sp:=fun vs H Q _=>∃ (g df dk:Addr) (p:Nat) (SA SB:Struct) (kf:List (Key × V)) (kk:List (List Key × V)),vs=[.ref g,.int p]∧p≤3∧GameAt K H g SA SB df dk kf kk∧FK kf 0 ∧
 ∀ H' dc kc kf',GameAt K H' g SA SB df dk kf' kk→H' dc=some (.dK kc)→H dc=none→Kp [df] H H'→CntOk SA SB p kc→Full SA SB p kc→Q (.ref dc) H'
theorem ok_all_lying (T:Txt P w K mg) : FF P w K mg base 2 "all_lying" ["game","p"] (sp_all_lying K):=by
 refine T.x_all_lying.F.ok sc_all_lying (fun _ _ _ _ h=>ex8 h fun _ _ _ _ _ _ _ _ e=>e.1▸rfl) fun _ _ _ s H vs Q E hr zh=>ex8 zh fun g df dk p SA SB kf kk yh=>an5 yh fun vz p3 ga hs kq=>?_
 clear zh yh;subst vz
 refine ⟨_,(pss_cons (ps_set (i:=2) sc_all_lying.nd rfl (Or.inl rfl) (pe_disp (pps_cons pe_int pe_int pps_nil) rfl rfl (by decide) (by decide)))
   (pss_cons (ps_for PassesOwn.never rfl (pi_range2 rfl T.nb_range (pa_cons pe_int (pa_cons (pe_op op_add (pv 1) pe_int) pa_nil))) (pg_name (i:=3) sc_all_lying.nd rfl (Or.inl rfl)) (pss_one (ps_for PassesOwn.never rfl (pi_list (pe_callTy (call_listD rfl) (by rfl) T.nb_list bt_list (pa_cons (pv 2) pa_nil))) (pg_name (i:=4) sc_all_lying.nd rfl (Or.inl rfl)) (pss_one (ps_for PassesOwn.never rfl (pi_range1 rfl T.nb_range (pa_cons (pe_fld (pv 0) rfl) pa_nil)) (pg_name (i:=5) sc_all_lying.nd rfl (Or.inl rfl)) (pss_one (ps_if (pt_val (pe_meth (pv 0) T.c_G.cl T.x_G_fits.m (ok_G_fits T) (hr.mono (by decide)) T.x_G_fits.b .nil pass0 (pa_cons (pv 4) (pa_cons (pv 5) pa_nil)))) (pss_one (ps_expr (pe_dsetdef (pv 2) (pe_meth (pv 0) T.c_G.cl T.x_G_put.m (ok_G_put T) (hr.mono (by decide)) T.x_G_put.b .nil pass0 (pa_cons (pv 4) (pa_cons (pv 5) pa_nil))) (pv 3) ⟨rfl,rfl,rfl,rfl⟩))) pss_nil)))))))
   (pss_one (ps_ret (pv 2))))),?_⟩
 walk_at "rd"
 have n16:=ga.two
 intro dc hdc
 refine ⟨upd_same,[(.inl 0,.int 0)],rfl,(show 1≤15 by decide),?_⟩
 generalize hkc:mergeK [] _=kc0
 have ndc:dc≠df:=(ne_of_none ga.dicts.1 hdc).symm
 have ok0:CntOk SA SB 0 kc0:=by
  rw [←hkc]
  refine ⟨by simp [mergeK,putK],fun q hq=>⟨0,AL.zero _ _,by rw [card_zero];exact Nat.le_refl _,?_⟩⟩
  rw [card_zero]
  simpa [mergeK,putK] using hq
 have k0:Kp [] H (upd (upd H dc (.dK [])) dc (.dK kc0)):=((Kp.refl _).young hdc).young hdc
 have f0:∀ s,FK kc0 s→s=0:=fun s h=>by
  obtain ⟨_,a,b⟩:=ok0.val h
  exact card_none (by omega) fun z hz=>(a z hz).1
 refine tfor (J:=Itr 1 p) (H1:=upd (upd H dc (.dK [])) dc (.dK kc0)) (n:=p) (fun _=>none) (fun i σ H'=>∃ kc kf',LyInv K H H' g df dk dc SA SB kk i kc kf'∧Full SA SB i kc∧∃ a b c,σ=[some (.ref g),some (.int p),some (.ref dc),a,b,c]) ?_ turns_range ⟨kc0,kf,⟨ga.kp k0,upd_same,k0.of,ok0,fun s h=>by rw [f0 s h];exact hs⟩,?_,_,_,_,rfl⟩ (fun i σ H' h=>kp_nil) ?_ ?_
 ·intro R q
  refine ⟨_,_,rfl,⟨by omega,by omega,by omega,by omega⟩,?_⟩
  rw [show ((p:Int)+1 - 1).toNat=p by omega]
  exact q
 ·intro s al hc
  rw [card_none (by omega) fun z hz=>(al z hz).1,←hkc];rfl
 ·rintro i _ _ H2 H3 hi ⟨kc,kf2,ly,fu,a,b,c,rfl⟩ k3 rfl
  have ly3:=ly.kp k3
  refine ⟨dc,rfl,kc,ly3.2.1,fun lk hlk=>?_⟩
  generalize hks:(kc.map fun kv=>kV kv.1)=ks
  have kks:ks.length=kc.length:=by rw [←hks,List.length_map]
  refine ⟨lk,rfl,⟨_,SqL.of upd_same⟩,for_turns (n:=ks.length) (one lk (.lst ks)) (turns_list (SqL.of one_at)) (fun j σ H'=>H' lk=some (.lst ks)∧∃ kc' kf',LyInv K H H' g df dk dc SA SB kk (i+1) kc' kf'∧Full SA SB i kc'∧(∀ (m s:Nat),m < j→(kc.map (·.1))[m]? = some (.inl (s:Int))→∀ z,z < SA.n*SB.n→fit SA SB s z=true→FK kc' (s ||| 2 ^ z))∧∃ b c,σ=[some (.ref g),some (.int p),some (.ref dc),some (.int (1+(i:Int))),b,c]) ⟨upd_same,kc,kf2,⟨(ly3.kp ((Kp.refl _).new hlk)).1,(ly3.kp ((Kp.refl _).new hlk)).2.1,(ly3.kp ((Kp.refl _).new hlk)).2.2.1,ly.2.2.2.1.mono (by omega),ly.2.2.2.2⟩,fu,fun m s hm=>by omega,_,_,rfl⟩ (fun j σ H' h=>kp_one h.1) ?_ ?_⟩
  ·rintro j y _ H4 H5 hj ⟨hlk4,kc4,kf4,ly4,fu4,pr4,b,c,rfl⟩ k5 hy
   have ly5:=ly4.kp k5
   have hlk5:=k5 _ _ hlk4 (by simp)
   obtain ⟨q,hq,rfl⟩ : ∃ q,kc[j]? = some q∧y=kV q.1:=by
    rw [←hks,List.getElem?_map] at hy
    cases e:kc[j]? with
    | none=>rw [e] at hy;cases hy
    | some q=>rw [e] at hy;cases hy;exact ⟨q,rfl,rfl⟩
   obtain ⟨s,al,cd,rfl⟩:=ly.2.2.2.1.all q (List.mem_of_getElem? hq)
   have fs4:FK kc4 s:=fu4 s al cd
   walk_at "rd"
   obtain ⟨dx,pl,pr,ll,lf,hg5,_⟩:=ly5.1.obj
   refine tfor (J:=Itr 0 (SA.n*SB.n)) (H1:=H5) (n:=SA.n*SB.n) (fun _=>none) (fun z σ H'=>H' lk=some (.lst ks)∧∃ kc' kf',LyInv K H H' g df dk dc SA SB kk (i+1) kc' kf'∧Full SA SB i kc'∧(∀ (m s:Nat),m < j→(kc.map (·.1))[m]? = some (.inl (s:Int))→∀ z,z < SA.n*SB.n→fit SA SB s z=true→FK kc' (s ||| 2 ^ z))∧(∀ w,w < z→fit SA SB s w=true→FK kc' (s ||| 2 ^ w))∧∃ c,σ=[some (.ref g),some (.int p),some (.ref dc),some (.int (1+(i:Int))),some (.int (s:Int)),c]) ?_ turns_range ⟨hlk5,kc4,kf4,ly5,fu4,pr4,(fun w hw=>by omega),_,rfl⟩ (fun z σ H' h=>kp_nil) ?_ ?_
   ·intro R q
    walk_at "ev"
    simp only [hg5,T.c_G.cl,T.n_G_two_count,fs_G_two_count,hpL,V.int.injEq,V.ref.injEq]
    exact ⟨by omega,by omega,q⟩
   ·rintro z _ _ H6 H7 hz ⟨hlk6,kc6,kf6,ly6,fu6,pr6,in6,c,rfl⟩ k7 rfl
    have ly7:=ly6.kp k7
    have hlk7:=k7 _ _ hlk6 (by simp)
    have fs7:FK kc6 s:=fu6 s al cd
    obtain ⟨dx,pl,pr,ll,lf,hg7,_⟩:=ly7.1.obj
    rw [show (0:Int)+(z:Int)=(z:Int) by omega]
    walk_at "rd"
    refine ⟨_,_,hg7,fG_fits,g,df,dk,s,z,SA,SB,kf6,kk,rfl,ly7.1,ly6.2.2.2.2 s fs7,hz,_,rfl,?_⟩
    by_cases ef:fit SA SB s z=true
    ·rw [if_pos ef]
     refine ⟨.inl ⟨kc6,.inl ly7.2.1⟩,_,_,hg7,fG_put,g,df,dk,s,z,SA,SB,kf6,kk,rfl,ly7.1,ly6.2.2.2.2 s fs7,hz,fun H8 kf8 ga8 k8 f8 m8=>?_⟩
     have hdc8:H8 dc=some (.dK kc6):=k8 dc _ ly7.2.1 (by simpa using ndc)
     have hlk8:H8 lk=some (.lst ks):=k8 lk _ hlk7 (by simpa using ne_of hlk7 ly7.1.dicts.1 (by intro z;cases z))
     have kH8:Kp [df] H H8:=ly7.2.2.1.trans k8
     refine ⟨kc6,hdc8,.inl ((s ||| 2 ^ z:Nat) : Int),rfl,ly6.2.2.2.1.len n16,fun v hv=>⟨hlk8,kc6,kf8,⟨ga8,hdc8,kH8,ly6.2.2.2.1,fun t ht=>m8 t (ly6.2.2.2.2 t ht)⟩,fu6,pr6,fun w hw hf=>?_,_,rfl⟩,fun hn=>?_⟩
     ·by_cases e:w=z
      ·rw [e];unfold FK;rw [hv];rfl
      ·exact in6 w (by omega) hf
     ·have alb:=al.add hz ef
      have cb:card (SA.n*SB.n) (s ||| 2 ^ z)=i+1:=by
       have h1:=card_or (SA.n*SB.n) s z
       have h2:¬ card (SA.n*SB.n) (s ||| 2 ^ z)≤i:=fun h=>by
        have:=fu6 _ alb h
        unfold FK at this
        rw [hn] at this
        cases this
       omega
      have e1:(1:Int)+(i:Int)=(card (SA.n*SB.n) (s ||| 2 ^ z) : Int):=by rw [cb];omega
      rw [e1]
      refine ⟨?_,_,kf8,⟨ga8.setO hdc8 ndc,upd_same,kH8.young hdc,ly6.2.2.2.1.put alb (by omega),fun t ht=>?_⟩,fun t a b=>FK.put (.inl (fu6 t a b)),fun m t hm ht y hy hf=>FK.put (.inl (pr6 m t hm ht y hy hf)),fun w hw hf=>?_,_,rfl⟩
      ·rw [upd_ne (ne_of hlk8 hdc8 (by intro z;cases z))];exact hlk8
      ·by_cases e:t=s ||| 2 ^ z
       ·rw [e];exact f8
       ·refine m8 t (ly6.2.2.2.2 t ?_)
        unfold FK at ht ⊢
        rwa [valV_put,if_neg (fun q=>e (by injection q with q;omega))] at ht
      ·by_cases e:w=z
       ·rw [e];exact FK.put (.inr rfl)
       ·exact FK.put (.inl (in6 w (by omega) hf))
    ·rw [if_neg ef]
     refine ⟨hlk7,kc6,kf6,ly7,fu6,pr6,fun w hw hf=>?_,_,rfl⟩
     by_cases e:w=z
     ·rw [e] at hf;exact absurd hf ef
     ·exact in6 w (by omega) hf
   ·rintro _ H6 ⟨hlk6,kc6,kf6,ly6,fu6,pr6,in6,c,rfl⟩
    refine ⟨hlk6,kc6,kf6,ly6,fu6,fun m t hm ht=>?_,_,_,rfl⟩
    by_cases e:m=j
    ·subst e
     rw [List.getElem?_map,hq] at ht
     have:s=t:=by injection ht with ht;injection ht with ht;omega
     subst this
     exact in6
    ·exact pr6 m t (by omega) ht
  ·rintro _ H4 ⟨hlk4,kc4,kf4,ly4,fu4,pr4,b,c,rfl⟩
   refine ⟨kc4,kf4,ly4,fu.grow (fun s z hs hz hf=>?_) fu4,_,_,_,rfl⟩
   obtain ⟨v,hv⟩:=Option.isSome_iff_exists.mp (show (valV kc (.inl (s:Int))).isSome=true from hs)
   obtain ⟨m,hm⟩:=List.mem_iff_getElem?.mp (mem_valV hv)
   have hml:=(List.getElem?_eq_some_iff.mp hm).1
   exact pr4 m s (by rw [kks];exact hml) (by rw [List.getElem?_map,hm];rfl) z hz hf
 ·rintro _ H2 ⟨kc,kf2,ly,fu,a,b,c,rfl⟩
  exact (kq H2 dc kc kf2 ly.1 ly.2.1 hdc ly.2.2.1 ly.2.2.2.1 fu)
theorem kp_unlock {d:Addr} {H H':Hp} {u:HO} (k:Kp [d] H H') (h:H d=some u) : Kp [] H (upd H' d u):=fun b o e _=>by
 by_cases q:b=d
 ·subst q;rw [upd_same,←h,e]
 ·rw [upd_ne q];exact k b o e (by simpa using q)
theorem GameAt.kd {H H':Hp} {g df dk d:Addr} {SA SB:Struct} {kf ka:List (Key × V)} {kk:List (List Key × V)} (h:GameAt K H g SA SB df dk kf kk) (hd:H d=some (.dK ka)) (n:d≠df) (k:Kp [d] H H') : GameAt K H' g SA SB df dk kf kk:=by
 obtain ⟨a,b,c,e,_⟩:=h.dicts
 have k':∀ b o,H b=some o→b≠d→H' b=some o:=fun b o e n=>k b o e (by simpa using n)
 exact h.keep (fun _ _ _ _ e=>k' _ _ e (ne_of e hd (by intro z;cases z))) (fun _ _ e=>k' _ _ e (ne_of e hd (by intro z;cases z))) (k' _ _ a n.symm) (k' _ _ b (ne_of b hd (by intro z;cases z))) c e
def keyN :Key→Nat
 | .inl i=>i.toNat
 | .inr _=>0
def ansB (SA SB:Struct) (p:Nat) (ka:List (Key × V)) (r:Nat) : Bool:=decide (card (SA.n*SB.n) r < p) && ansL SA SB ka r
def goodB (SA SB:Struct) (p:Nat) (ka:List (Key × V)) (s:Nat) : Bool:=(restsN (SA.n*SB.n) s (decide (card (SA.n*SB.n) s < p))).all (ansB SA SB p ka)
def lostL (SA SB:Struct) (p:Nat) (ka:List (Key × V)) (l:List (Key × V)) : List V:=(l.filter fun q=>!goodB SA SB p ka (keyN q.1)).map fun q=>kV q.1
def sp_lost_among (K:Frag) : Sp:=fun vs H Q _=>∃ (g df dk dc da:Addr) (p:Nat) (SA SB:Struct) (kf kc ka:List (Key × V)) (kk:List (List Key × V)),vs=[.ref g,.ref dc,.int p,.ref da]∧GameAt K H g SA SB df dk kf kk∧H dc=some (.dK kc)∧H da=some (.dK ka)∧dc≠da∧dc≠df∧da≠df∧CntOk SA SB p kc∧Full SA SB p kc∧(∀ q∈ka,q∈kc)∧ka.length≤kc.length ∧
 ∀ H' D,Kp [] H H'→H D=none→H' D=some (.lst (lostL SA SB p ka ka))→Q (.ref D) H'
theorem ok_lost_among (T:Txt P w K mg) : FF P w K mg base 2 "lost_among" ["game","counts","p","alive"] (sp_lost_among K):=by
 refine T.x_lost_among.F.ok sc_lost_among (fun _ _ _ _ h=>ex12 h fun _ _ _ _ _ _ _ _ _ _ _ _ e=>e.1▸rfl) fun _ _ _ s H vs Q E hr zh=>ex12 zh fun g df dk dc da p SA SB kf kc ka kk yh=>an12 yh fun vz ga hdc hda nca ncf naf ok fu sub hle kq=>?_
 clear zh yh;subst vz
 refine ⟨_,(pss_cons (ps_set (i:=4) sc_lost_among.nd rfl (Or.inr rfl) pe_dnewK)
   (pss_cons (ps_lock (ps_for PassesOwn.never rfl (pi_keys (pv 1)) (pg_name (i:=5) sc_lost_among.nd rfl (Or.inl rfl)) (pss_one (ps_dput (hu_of hr) (pv 4) (pv 5) (pe_and (pe_cmpR op_lt (pe_dget (hu_of hr) (pv 1) (pv 5) (fun _ _=>rfl)) (pv 2) (nomark _)) (pe_one (pe_call (ok_is_answered T) (hr.mono (by decide)) rfl T.x_is_answered.g T.x_is_answered.k T.x_is_answered.b .nil pass0 (pa_cons (pv 0) (pa_cons (pv 5) (pa_cons (pv 3) pa_nil)))))) rfl))))
   (pss_cons (ps_set (i:=6) sc_lost_among.nd rfl (Or.inl rfl) (pe_lst pa_nil))
   (pss_cons (ps_lock (ps_for PassesOwn.never rfl (pi_keys (pv 3)) (pg_name (i:=7) sc_lost_among.nd rfl (Or.inl rfl)) (pss_one (ps_if (pt_not (pt_val (pe_callB (cr_all rfl) (by rfl) T.nb_all bt_all (pa_cons (pe_lc rfl sc_lost_among.nd (pi_list (pe_call (ok_rests T) (hr.mono (by decide)) rfl T.x_rests.g T.x_rests.k T.x_rests.b .nil pass0 (pa_cons (pv 0) (pa_cons (pv 7) (pa_cons (pe_cmpR op_lt (pe_dget (hu_of hr) (pv 1) (pv 7) (fun _ _=>rfl)) (pv 2) (nomark _)) pa_nil))))) (blkOk_by (own:=[("rest",5)]) rfl) (fun _ _ _ _ _=>(pg_name (i:=5) sc_lost_among.nd rfl (Or.inl rfl))) (fun _ _ _ _ _=>pts_nil) (fun _ _ _ _ _=>(pe_dget (hu_of hr) (pv 4) (pv 5) (fun _ _=>rfl)))) pa_nil)))) (pss_one (ps_expr (pe_bm PySem.F.plainAttrs_list PySem.F.slot_list_append PySem.F.type_list_append mt_append (pv 6) (pa_cons (pv 7) pa_nil)))) pss_nil))))
   (pss_one (ps_ret (pv 6))))))),?_⟩
 walk_at "rd"
 have n16:=ga.two
 have klen:=ok.len n16
 intro dn hdn
 have k1:Kp [] H (upd H dn (.dK [])):=(Kp.refl _).new hdn
 have nnc:dn≠dc:=(ne_of_none hdc hdn).symm
 have nna:dn≠da:=(ne_of_none hda hdn).symm
 refine ⟨dc,.dK kc,k1 _ _ hdc (by simp),trivial,fun od=>?_⟩
 have k2:Kp [dc] H (upd (upd H dn (.dK [])) dc (.frz od (.dK kc))):=(k1.of).set (by simp)
 refine tfor (J:=Itk dc od kc) (H1:=upd (upd H dn (.dK [])) dc (.frz od (.dK kc))) (n:=kc.length) (one dc (.frz od (.dK kc))) (fun i σ H'=>H' dc=some (.frz od (.dK kc))∧Kp [dc] H H'∧(∃ an,H' dn=some (.dK an)∧an.length≤i∧∀ (m:Nat) q,m < i→kc[m]? = some q→valV an q.1=some (.bl (ansB SA SB p ka (keyN q.1))))∧∃ v,σ=[some (.ref g),some (.ref dc),some (.int p),some (.ref da),some (.ref dn),v,none,none]) ?_ (turns_keys one_at) ⟨upd_same,k2,⟨[],by rw [upd_ne nnc];exact upd_same,Nat.zero_le _,fun m q h=>by omega⟩,_,rfl⟩ (fun i σ H' h=>kp_one h.1) ?_ ?_
 ·intro R q
  walk_at "ev"
  exact ⟨od,.inl ⟨kc,upd_same,q⟩⟩
 ·rintro i y _ H2 H3 hi ⟨hf2,k2,⟨an,han,hal,hav⟩,v,rfl⟩ k3 ⟨key,v',hq,rfl⟩
  obtain ⟨s,al,cd,e⟩:=ok.all _ (List.mem_of_getElem? hq)
  cases e
  have hf3:=k3 _ _ hf2 (by simp)
  have k03:=k2.trans k3.of
  have han3:=k3 _ _ han (by simp)
  have ga3:=ga.kd hdc ncf k03
  have hda3:H3 da=some (.dK ka):=k03 da _ hda (by simpa using nca.symm)
  have hv:=(ok.val (fu s al cd)).1
  have fin:∀ H4,Kp [] H3 H4→∃ x,DPut H4 dn (kV (.inl (s:Int))) (.bl (ansB SA SB p ka s)) x∧x dc=some (.frz od (.dK kc))∧Kp [dc] H x∧(∃ an,x dn=some (.dK an)∧an.length≤i+1∧∀ (m:Nat) q,m < i+1→kc[m]? = some q→valV an q.1=some (.bl (ansB SA SB p ka (keyN q.1))))∧∃ v,some (kV (.inl (s:Int)))=v:=fun H4 k4=>by
   have han4:=k4 _ _ han3 (by simp)
   refine ⟨_,DPut.k (k:=Sum.inl (s:Int)) han4 (by omega),by rw [upd_ne nnc.symm];exact k4 _ _ hf3 (by simp),(k03.trans k4.of).young hdn,⟨_,upd_same,by have:=length_putK an (.inl (s:Int)) (.bl (ansB SA SB p ka s));omega,fun m q hm hq'=>?_⟩,_,rfl⟩
   rw [valV_put]
   by_cases e:q.1=.inl (s:Int)
   ·rw [if_pos e,e];simp [keyN]
   ·rw [if_neg e]
    refine hav m q ?_ hq'
    by_cases e2:m=i
    ·subst e2;rw [hq] at hq';cases hq';exact absurd rfl e
    ·omega
  walk_at "rd"
  refine ⟨_,.inl ⟨kc,.inl (s:Int),.inr ⟨od,hf3⟩,rfl,hv.symm⟩,_,rfl,?_⟩
  by_cases hc:card (SA.n*SB.n) s < p
  ·rw [if_pos (by omega)]
   refine ⟨g,df,dk,da,s,SA,SB,kf,ka,kk,rfl,ga3,hda3,fun H4 k4=>?_⟩
   have:=fin H4 k4
   rwa [show ansB SA SB p ka s=ansL SA SB ka s by unfold ansB;simp [hc]] at this
  ·rw [if_neg (by omega)]
   have:=fin H3 (Kp.refl _)
   rwa [show ansB SA SB p ka s=false by unfold ansB;simp [hc]] at this
 ·rintro _ H2 ⟨hf2,k2,⟨an,han,hal,hav⟩,v,rfl⟩
  refine ⟨hf2,?_⟩
  have kb:=kp_unlock k2 hdc
  have hanb:upd H2 dc (.dK kc) dn=some (.dK an):=by rw [upd_ne nnc];exact han
  generalize upd H2 dc (.dK kc)=Hb at kb hanb
  walk_at "rd"
  have hdab:Hb da=some (.dK ka):=kb da _ hda (by simp)
  have hdcb:Hb dc=some (.dK kc):=kb dc _ hdc (by simp)
  have gab:=ga.kp kb
  have anv:∀ r,FK kc r→valV an (.inl (r:Int))=some (.bl (ansB SA SB p ka r)):=fun r hr=>by
   obtain ⟨m,hm⟩:=List.mem_iff_getElem?.mp (mem_valV (ok.val hr).1)
   have:=hav m _ (List.getElem?_eq_some_iff.mp hm).1 hm
   simpa [keyN] using this
  refine ⟨Nat.zero_le _,fun lo hlo=>⟨da,.dK ka,upd_old hdab hlo,trivial,fun oa=>?_⟩⟩
  have nla:lo≠da:=(ne_of_none hdab hlo).symm
  have k3:Kp [da] Hb (upd (upd Hb lo (.lst [])) da (.frz oa (.dK ka))):=((Kp.refl _).new hlo).set (by simp)
  refine tfor (J:=Itk da oa ka) (H1:=upd (upd Hb lo (.lst [])) da (.frz oa (.dK ka))) (n:=ka.length) (one da (.frz oa (.dK ka))) (fun i σ H'=>H' da=some (.frz oa (.dK ka))∧Kp [da] Hb H'∧H' lo=some (.lst (lostL SA SB p ka (ka.take i)))∧∃ w,σ=[some (.ref g),some (.ref dc),some (.int p),some (.ref da),some (.ref dn),v,some (.ref lo),w]) ?_ (turns_keys one_at) ⟨upd_same,k3,by rw [upd_ne nla];exact upd_same,_,rfl⟩ (fun i σ H' h=>kp_one h.1) ?_ ?_
  ·intro R q
   walk_at "ev"
   exact ⟨oa,.inl ⟨ka,upd_same,q⟩⟩
  ·rintro i y _ H3 H4 hi ⟨hf3,k3,hl3,w,rfl⟩ k4 ⟨key,v',hq,rfl⟩
   obtain ⟨s,al,cd,e⟩:=ok.all _ (sub _ (List.mem_of_getElem? hq))
   cases e
   have k04:=k3.trans k4.of
   have ga4:=gab.kd hdab naf k04
   have hdc4:H4 dc=some (.dK kc):=k04 dc _ hdcb (by simpa using nca)
   have han4:H4 dn=some (.dK an):=k04 dn _ hanb (by simpa using nna)
   have hl4:=k4 _ _ hl3 (by simp)
   have hf4:=k4 _ _ hf3 (by simp)
   have hv:=(ok.val (fu s al cd)).1
   have tk:lostL SA SB p ka (ka.take (i+1))=lostL SA SB p ka (ka.take i) ++ if goodB SA SB p ka s=true then [] else [.int (s:Int)]:=by
    unfold lostL
    rw [List.take_add_one,hq,List.filter_append,List.map_append]
    cases e:goodB SA SB p ka s <;> simp [keyN,e,kV]
   have rin:∀ r∈restsN (SA.n*SB.n) s (decide (card (SA.n*SB.n) s < p)),FK kc r:=fun r hr=>by
    unfold restsN at hr
    rcases List.mem_append.mp hr with hr | hr
    ·obtain ⟨z,hz,rfl⟩:=List.mem_map.mp hr
     have hb:s.testBit z=true:=(List.mem_filter.mp hz).2
     have:=card_xor hb (al z hb).1
     exact fu _ (al.sub fun w=>xor_sub hb) (by omega)
    ·split at hr
     ·rw [List.mem_singleton.mp hr];exact fu s al cd
     ·cases hr
   have rl:(restsN (SA.n*SB.n) s (decide (card (SA.n*SB.n) s < p))).length < sizeLine:=by
    unfold restsN
    have:=List.length_filter_le s.testBit (List.range (SA.n*SB.n))
    rw [List.length_range] at this
    rw [List.length_append,List.length_map,sizeLine_eq]
    split <;> simp <;> omega
   walk_at "rd"
   refine ⟨dc,_,rfl,.inl ⟨kc,.inl (s:Int),.inl hdc4,rfl,hv.symm⟩,g,df,dk,s,decide (card (SA.n*SB.n) s < p),SA,SB,kf,kk,by simp [kV],ga4,fun H5 Dr k5 hDr h5=>⟨Dr,rfl,⟨_,SqL.of h5⟩,fun D hD=>?_⟩⟩
   have k05:=k04.trans k5.of
   generalize hrs:restsN (SA.n*SB.n) s (decide (card (SA.n*SB.n) s < p))=rs at h5 rin rl
   refine lc_all (turns_list (SqL.of h5)) hD (by rw [List.length_map];exact rl) (fun j=>.bl (ansB SA SB p ka (rs.getD j 0))) ?_ gName_mono fun H6 k6 h6=>⟨D,rs.map (ansB SA SB p ka),rfl,SqL.of ?_,_,rfl,?_⟩
   ·intro j y H7 Q7 hj hy k7 q
    obtain ⟨r,hr,rfl⟩ : ∃ r,rs[j]? = some r∧y=.int (r:Int):=by
     rw [List.getElem?_map] at hy
     cases e:rs[j]? with
     | none=>rw [e] at hy;cases hy
     | some z=>rw [e] at hy;cases hy;exact ⟨z,rfl,rfl⟩
    refine ⟨rfl,dn,_,rfl,dget (anv r (rin r (List.mem_of_getElem? hr))) (k7 _ _ (k5 _ _ han4 (by simp)) (by simp)),?_⟩
    have:=q H7 (Kp.refl _)
    simpa [List.getD,hr] using this
   ·rw [h6,List.length_map]
    congr 2
    apply List.ext_getElem?
    intro j
    rw [List.getElem?_map,List.map_map,List.getElem?_map]
    by_cases hj:j < rs.length
    ·simp [List.getElem?_range hj,List.getElem?_eq_getElem hj,List.getD]
    ·simp [hj,List.getElem?_eq_none (Nat.le_of_not_lt hj)]
   ·have eg:(rs.map (ansB SA SB p ka)).all id=goodB SA SB p ka s:=by
     unfold goodB
     rw [hrs,List.all_map];rfl
    rw [eg]
    have hf6:=k6 _ _ (k5 _ _ hf4 (by simp)) (by simp)
    have hl6:=k6 _ _ (k5 _ _ hl4 (by simp)) (by simp)
    have k06:=k05.trans k6.of
    cases e:goodB SA SB p ka s with
    | true =>
     rw [e] at tk
     simp only [Bool.true_eq_false,if_false,reduceCtorEq]
     refine ⟨hf6,k06,?_,_,rfl⟩
     rw [tk];simpa using hl6
    | false =>
     rw [e] at tk
     simp only [if_true]
     refine ⟨.inl ⟨rfl,_,SqL.of hl6⟩,_,hl6,?_,?_,k06.young hlo,?_,_,rfl⟩
     ·unfold lostL
      rw [List.length_map]
      have h1:=List.length_filter_le (fun q:Key × V=>!goodB SA SB p ka (keyN q.1)) (ka.take i)
      rw [List.length_take] at h1
      omega
     ·rw [upd_ne nla.symm];exact hf6
     ·rw [upd_same,tk];rfl
  ·rintro _ H3 ⟨hf3,k3,hl3,w,rfl⟩
   refine ⟨hf3,kq _ lo (kb.trans (kp_unlock k3 hdab)) (kb.free hlo (by simp)) ?_⟩
   rw [upd_ne nla,hl3,List.take_length]
theorem good_iff {SA SB:Struct} {p s:Nat} {ka:List (Key × V)} (al:AL SA SB s) : goodB SA SB p ka s=true↔Good SA SB p (FK ka) s:=by
 have an:∀ r,ansB SA SB p ka r=true↔AnsS SA SB p (FK ka) r:=fun r=>by
  unfold ansB AnsS ansL FK
  simp only [Bool.and_eq_true,decide_eq_true_eq,List.all_eq_true,List.any_eq_true]
 have mr:∀ r,r∈restsN (SA.n*SB.n) s (decide (card (SA.n*SB.n) s < p))↔(∃ z,s.testBit z=true∧r=s ^^^ 2 ^ z)∨(card (SA.n*SB.n) s < p∧r=s):=fun r=>by
  unfold restsN
  rw [List.mem_append,List.mem_map]
  refine or_congr ⟨fun ⟨z,hz,e⟩=>⟨z,(List.mem_filter.mp hz).2,e.symm⟩,fun ⟨z,hz,e⟩=>⟨z,List.mem_filter.mpr ⟨List.mem_range.mpr (al z hz).1,hz⟩,e.symm⟩⟩ ?_
  by_cases c:card (SA.n*SB.n) s < p <;> simp [c]
 unfold goodB
 rw [List.all_eq_true]
 constructor
 ·intro h
  exact ⟨fun z hz=>(an _).mp (h _ ((mr _).mpr (.inl ⟨z,hz,rfl⟩))),fun c=>(an _).mp (h _ ((mr _).mpr (.inr ⟨c,rfl⟩)))⟩
 ·intro h r hr
  rcases (mr r).mp hr with ⟨z,hz,rfl⟩ | ⟨c,rfl⟩
  ·exact (an _).mpr (h.1 z hz)
  ·exact (an _).mpr (h.2 c)
theorem Good.mono {SA SB:Struct} {p s:Nat} {G G':Nat→Prop} (h:Good SA SB p G s) (m:∀ t,G t→G' t) : Good SA SB p G' s :=
 ⟨fun z hz=>⟨(h.1 z hz).1,fun L hL=>let ⟨w,a,b⟩:=(h.1 z hz).2 L hL;⟨w,a,m _ b⟩⟩,fun c=>⟨(h.2 c).1,fun L hL=>let ⟨w,a,b⟩:=(h.2 c).2 L hL;⟨w,a,m _ b⟩⟩⟩
def strike (SA SB:Struct) (p:Nat) (ka:List (Key × V)) : List (Key × V):=ka.filter fun q=>goodB SA SB p ka (keyN q.1)
def Sup (SA SB:Struct) (p:Nat) (ka:List (Key × V)) : Prop:=∀ G,CloS SA SB p G→∀ s,G s→FK ka s
theorem FK.mem {SA SB:Struct} {c s:Nat} {ka:List (Key × V)} (h:CntOk SA SB c ka) (f:FK ka s) : ((.inl (s:Int),.int (card (SA.n*SB.n) s:Int)) : Key × V)∈ka:=mem_valV (h.val f).1
theorem Sup.strike {SA SB:Struct} {p:Nat} {ka:List (Key × V)} (h:CntOk SA SB p ka) (u:Sup SA SB p ka) : Sup SA SB p (strike SA SB p ka):=fun G hG s hs=>by
 have fs:=u G hG s hs
 have g:=(good_iff (h.val fs).2.1).mpr ((hG s hs).2.2.mono (u G hG))
 refine mem_FK (p:=(.inl (s:Int),.int (card (SA.n*SB.n) s:Int))) (List.mem_filter.mpr ⟨FK.mem h fs,?_⟩) rfl
 simpa [keyN] using g
theorem ever_of {SA SB:Struct} {p:Nat} {ka:List (Key × V)} (h:CntOk SA SB p ka) (u:Sup SA SB p ka) (g:∀ q∈ka,goodB SA SB p ka (keyN q.1)=true) : (valV ka (.inl 0)).isSome=Rc82.everOf SA SB p:=by
 rw [Bool.eq_iff_iff,everOf_iff,ever_sets]
 constructor
 ·intro f
  refine ⟨FK ka,fun s hs=>?_,f⟩
  obtain ⟨_,a,b⟩:=h.val hs
  have:=g _ (FK.mem h hs)
  exact ⟨a,b,(good_iff a).mp (by simpa [keyN] using this)⟩
 ·rintro ⟨G,hG,h0⟩
  exact u G hG 0 h0
theorem Sup.full {SA SB:Struct} {p:Nat} {kc:List (Key × V)} (h:Full SA SB p kc) : Sup SA SB p kc:=fun G hG s hs=>h s (hG s hs).1 (hG s hs).2.1
def dropAll (ka:List (Key × V)) (l:List (Key × V)) : List (Key × V):=ka.filter fun q=>l.all fun x=>decide (q.1≠x.1)
theorem dropAll_snoc (ka l:List (Key × V)) (q:Key × V) : dropAll ka (l ++ [q])=dropK (dropAll ka l) q.1:=by
 unfold dropAll dropK
 rw [List.filter_filter]
 apply List.filter_congr
 intro x _
 rw [List.all_append,List.all_cons,List.all_nil,Bool.and_true,Bool.and_comm]
theorem dropAll_lost {SA SB:Struct} {p:Nat} {ka:List (Key × V)}:dropAll ka (ka.filter fun q=>!goodB SA SB p ka (keyN q.1))=strike SA SB p ka:=by
 unfold dropAll strike
 apply List.filter_congr
 intro x hx
 rw [Bool.eq_iff_iff,List.all_eq_true]
 constructor
 ·intro h
  cases e:goodB SA SB p ka (keyN x.1) with
  | true=>rfl
  | false=>exact absurd rfl (of_decide_eq_true (h x (List.mem_filter.mpr ⟨hx,by rw [e];rfl⟩)))
 ·intro e y hy
  refine decide_eq_true fun ey=>?_
  have:=(List.mem_filter.mp hy).2
  rw [←ey,e] at this
  cases this
def sp_withstood_for_ever (K:Frag) : Sp:=fun vs H Q _=>∃ (g df dk:Addr) (p:Nat) (SA SB:Struct) (kf:List (Key × V)) (kk:List (List Key × V)),vs=[.ref g,.int p]∧p≤3∧GameAt K H g SA SB df dk kf kk∧FK kf 0∧∀ H',Kp [df] H H'→Q (.bl (Rc82.everOf SA SB p)) H'
theorem ok_withstood_for_ever (T:Txt P w K mg) : FF P w K mg base 3 "withstood_for_ever" ["game","p"] (sp_withstood_for_ever K):=by
 refine T.x_withstood_for_ever.F.ok sc_withstood_for_ever (fun _ _ _ _ h=>ex8 h fun _ _ _ _ _ _ _ _ e=>e.1▸rfl) fun _ _ _ s H vs Q E hr zh=>ex8 zh fun g df dk p SA SB kf kk yh=>an5 yh fun vz p3 ga hs kq=>?_
 clear zh yh;subst vz
 refine ⟨_,(pss_cons (ps_set (i:=2) sc_withstood_for_ever.nd rfl (Or.inl rfl) (pe_call (ok_all_lying T) (hr.mono (by decide)) rfl T.x_all_lying.g T.x_all_lying.k T.x_all_lying.b .nil pass0 (pa_cons (pv 0) (pa_cons (pv 1) pa_nil))))
   (pss_cons (ps_set (i:=3) sc_withstood_for_ever.nd rfl (Or.inl rfl) (pe_callTy call_dictD (by rfl) T.nb_dict bt_dict (pa_cons (pv 2) pa_nil)))
   (pss_cons (ps_set (i:=4) sc_withstood_for_ever.nd rfl (Or.inl rfl) (pe_call (ok_lost_among T) (hr.mono (by decide)) rfl T.x_lost_among.g T.x_lost_among.k T.x_lost_among.b .nil pass0 (pa_cons (pv 0) (pa_cons (pv 2) (pa_cons (pv 1) (pa_cons (pv 3) pa_nil))))))
   (pss_cons (ps_while PassesOwn.never (pt_gt (pe_callB call_len_seq (by rfl) T.nb_len PySem.boot_len (pa_cons (pv 4) pa_nil)) pe_int (nomark _)) (pss_cons (ps_for PassesOwn.never rfl (pi_list (pv 4)) (pg_name (i:=5) sc_withstood_for_ever.nd rfl (Or.inl rfl)) (pss_one (ps_expr (pe_dpop1 (pv 3) (pv 5) ⟨rfl,rfl,rfl,rfl⟩))))
   (pss_one (ps_set (i:=4) sc_withstood_for_ever.nd rfl (Or.inl rfl) (pe_call (ok_lost_among T) (hr.mono (by decide)) rfl T.x_lost_among.g T.x_lost_among.k T.x_lost_among.b .nil pass0 (pa_cons (pv 0) (pa_cons (pv 2) (pa_cons (pv 1) (pa_cons (pv 3) pa_nil)))))))))
   (pss_one (ps_ret (pe_cmp (pc_din (hu_of hr) pe_int (pv 3))))))))),?_⟩
 walk_at "rd"
 refine ⟨g,df,dk,p,SA,SB,kf,kk,rfl,p3,ga,hs,fun H1 dc kc kf1 ga1 hdc hdc0 k1 ok fu=>⟨dc,rfl,kc,hdc,fun da hda=>?_⟩⟩
 have ndf:dc≠df:=(ne_of_none ga.dicts.1 hdc0).symm
 have naf:da≠df:=(ne_of_none ga1.dicts.1 hda).symm
 have nca:dc≠da:=ne_of_none hdc hda
 have n16:=ga.two
 have klen:=ok.len n16
 have hda0:H da=none:=k1.free hda (by simpa using naf)
 have k2:Kp [] H1 (upd H1 da (.dK kc)):=(Kp.refl _).new hda
 refine ⟨g,df,dk,dc,da,p,SA,SB,kf1,kc,kc,kk,rfl,ga1.kp k2,k2 _ _ hdc (by simp),upd_same,nca,ndf,naf,ok,fu,fun _ h=>h,Nat.le_refl _,fun H3 lo k3 hlo h3=>?_⟩
 refine ⟨fun m σ H'=>∃ ka lo,m=ka.length∧GameAt K H' g SA SB df dk kf1 kk∧H' dc=some (.dK kc)∧H' da=some (.dK ka)∧H' lo=some (.lst (lostL SA SB p ka ka))∧Kp [df] H H'∧CntOk SA SB p ka∧(∀ q∈ka,q∈kc)∧ka.length≤kc.length∧Sup SA SB p ka∧∃ v,σ=[some (.ref g),some (.int p),some (.ref dc),some (.ref da),some (.ref lo),v],⟨_,kc,lo,rfl,(ga1.kp k2).kp k3,k3 _ _ (k2 _ _ hdc (by simp)) (by simp),k3 _ _ upd_same (by simp),h3,(k1.trans k2.of).trans k3.of,ok,fun _ h=>h,Nat.le_refl _,Sup.full fu,_,rfl⟩,?_⟩
 rintro m _ H4 ⟨ka,lo,rfl,ga4,hdc4,hda4,hlo4,k4,oka,sub,hle,sup,v,rfl⟩
 walk_at "rd"
 refine ⟨_,.inl (SqL.of hlo4),?_⟩
 by_cases hl:(lostL SA SB p ka ka).length=0
 ·have:¬ ((0:Int) < ((lostL SA SB p ka ka).length:Int)):=by omega
  simp only [this,if_false]
  refine ⟨_,DGet.k (k:=Sum.inl 0) hda4,?_⟩
  rw [ever_of oka sup fun q hq=>?_]
  ·exact kq H4 k4
  ·unfold lostL at hl
   rw [List.length_map,List.length_eq_zero_iff,List.filter_eq_nil_iff] at hl
   simpa using hl q hq
 ·have:(0:Int) < ((lostL SA SB p ka ka).length:Int):=by omega
  simp only [this,if_true]
  refine ⟨_,fun _ _ h=>h,?_⟩
  generalize hbad:(ka.filter fun q=>!goodB SA SB p ka (keyN q.1))=bad
  have hll:lostL SA SB p ka ka=bad.map fun q=>kV q.1:=by rw [←hbad];rfl
  have bnd:(bad.map fun (x:Key × V)=>x.1).Nodup:=by rw [←hbad];exact oka.nd.sublist (List.filter_sublist.map _)
  rw [hll] at hlo4 hl
  refine tfor (J:=Itl K lo) (H1:=H4) (n:=(bad.map fun q=>kV q.1).length) (one lo (.lst (bad.map fun q=>kV q.1))) (fun i σ H'=>H' lo=some (.lst (bad.map fun q=>kV q.1))∧GameAt K H' g SA SB df dk kf1 kk∧H' dc=some (.dK kc)∧H' da=some (.dK (dropAll ka (bad.take i)))∧Kp [df] H H'∧∃ v,σ=[some (.ref g),some (.int p),some (.ref dc),some (.ref da),some (.ref lo),v]) ?_ (turns_list (SqL.of one_at)) ⟨hlo4,ga4,hdc4,by rw [hda4];exact congrArg (fun x=>some (HO.dK x)) (List.filter_eq_self.mpr fun _ _=>rfl).symm,k4,_,rfl⟩ (fun i σ H' h=>kp_one h.1) ?_ ?_
  ·intro R q
   walk_at "ev"
   exact ⟨⟨_,SqL.of hlo4⟩,q⟩
  ·rintro i y _ H5 H6 hi ⟨hlo5,ga5,hdc5,hda5,k5,v,rfl⟩ k6 hy
   obtain ⟨q,hq,rfl⟩ : ∃ q,bad[i]? = some q∧y=kV q.1:=by
    rw [List.getElem?_map] at hy
    cases e:bad[i]? with
    | none=>rw [e] at hy;cases hy
    | some z=>rw [e] at hy;cases hy;exact ⟨z,rfl,rfl⟩
   have hda6:=k6 _ _ hda5 (by simp)
   have hlo6:=k6 _ _ hlo5 (by simp)
   have qa:q∈ka:=(List.mem_filter.mp (by rw [hbad];exact List.mem_of_getElem? hq)).1
   have qd:q∈dropAll ka (bad.take i):=by
    refine List.mem_filter.mpr ⟨qa,List.all_eq_true.mpr fun x hx=>decide_eq_true fun ex=>?_⟩
    obtain ⟨j,hj⟩:=List.mem_iff_getElem?.mp hx
    have hji:j < i:=by have:=(List.getElem?_eq_some_iff.mp hj).1;simp at this;omega
    rw [List.getElem?_take_of_lt hji] at hj
    have h1:(bad.map fun (x:Key × V)=>x.1)[j]? = some q.1:=by rw [List.getElem?_map,hj];exact congrArg some ex.symm
    have h2:(bad.map fun (x:Key × V)=>x.1)[i]? = some q.1:=by rw [List.getElem?_map,hq];rfl
    have:=nd_ix bnd h1 h2
    omega
   obtain ⟨v0,hv0⟩ : ∃ v0,valV (dropAll ka (bad.take i)) q.1=some v0:=Option.isSome_iff_exists.mp (by rw [←valV_any];exact List.any_eq_true.mpr ⟨q,qd,decide_eq_true rfl⟩)
   walk_at "rd"
   refine ⟨.inl ⟨_,.inl hda6⟩,_,hda6,q.1,rfl,v0,hv0,?_,(ga5.kp k6).setO hda6 naf,?_,?_,(k5.trans k6.of).young hda0,_,rfl⟩
   ·rw [upd_ne (ne_of hlo6 hda6 (by intro z;cases z))];exact hlo6
   ·rw [upd_ne nca];exact k6 _ _ hdc5 (by simp)
   ·rw [upd_same,List.take_add_one,hq]
    exact congrArg (fun x=>some (HO.dK x)) (dropAll_snoc ka (bad.take i) q).symm
  ·rintro _ H5 ⟨hlo5,ga5,hdc5,hda5,k5,v,rfl⟩
   rw [List.length_map,List.take_length,←hbad,dropAll_lost] at hda5
   have oks:CntOk SA SB p (strike SA SB p ka):=⟨oka.nd.sublist (List.filter_sublist.map _),fun q hq=>oka.all q (List.mem_filter.mp hq).1⟩
   have subs:∀ q∈strike SA SB p ka,q∈kc:=fun q hq=>sub q (List.mem_filter.mp hq).1
   have hlen:(strike SA SB p ka).length < ka.length:=by
    have h1:ka.length=(strike SA SB p ka).length+bad.length:=by
     rw [←hbad]
     unfold strike
     rw [←List.countP_eq_length_filter,←List.countP_eq_length_filter,List.length_eq_countP_add_countP (fun q:Key × V=>goodB SA SB p ka (keyN q.1))]
     congr 1
     apply List.countP_congr
     intro x _
     simp
    rw [List.length_map] at hl
    omega
   walk_at "rd"
   exact ⟨g,df,dk,dc,da,p,SA,SB,kf1,kc,strike SA SB p ka,kk,rfl,ga5,hdc5,hda5,nca,ndf,naf,ok,fu,subs,by omega,fun H6 lo6 k6 hlo6 h6=>⟨_,hlen,_,rfl,ga5.kp k6,k6 _ _ hdc5 (by simp),k6 _ _ hda5 (by simp),lo6,h6,k5.trans k6.of,oks,subs,by omega,Sup.strike oka sup,rfl,_,rfl⟩⟩
def UAt (K:Frag) (H:Hp) (u:Addr) (S:Struct) : Prop:=∃ (dx p lw:Addr) (fp:List Addr),H u=some (.ins (cA K "Truth") dx (fs_U (.ref p) (.int S.n) (.ref lw)))∧StrAt K H p S fp∧H lw=some (nats [1,S.n,S.n ^ 2,S.n ^ 3])∧S.n≤12
theorem UAt.kp {H H':Hp} {u:Addr} {S:Struct} (h:UAt K H u S) (k:Kp [] H H') : UAt K H' u S:=by
 obtain ⟨dx,p,lw,fp,a,b,c,d⟩:=h
 exact ⟨dx,p,lw,fp,k _ _ a (by simp),b.kp k,k _ _ c (by simp),d⟩
theorem pow_le {n d:Nat} (h:n≤12) (hd:d≤3) : n ^ d≤1728:=Nat.le_trans (Nat.pow_le_pow_left h d) (Nat.pow_le_pow_right (by decide) hd)
theorem ways_at {n d:Nat} (hd:d≤3) : ([1,n,n ^ 2,n ^ 3].map fun (z:Nat)=>V.int (z:Int))[d]? = some (.int ((n ^ d:Nat) : Int)):=by
 have:d=0∨d=1∨d=2∨d=3:=by omega
 rcases this with rfl | rfl | rfl | rfl <;> simp
def sp_U_init (K:Frag) : Sp:=fun vs H Q _=>∃ (u dx p:Addr) (S:Struct) (fp:List Addr),vs=[.ref u,.ref p]∧H u=some (.ins (cA K "Truth") dx [])∧StrAt K H p S fp∧S.n≤12∧∀ H',UAt K H' u S→Kp [u] H H'→Q .non H'
theorem ok_U_init (T:Txt P w K mg) : FM P w K mg base 1 "Truth" "__init__" ["self","structure"] (sp_U_init K):=by
 refine T.x_U_init.F.ok sc_U_init (fun _ _ _ _ h=>ex5 h fun _ _ _ _ _ e=>e.1▸rfl) fun _ _ _ s H vs Q E hr zh=>ex5 zh fun u dx p S fp yh=>an5 yh fun vz hu sa n12 kq=>?_
 clear zh yh;subst vz
 refine ⟨_,(pss_cons (ps_fld (pv 0) (pv 1) rfl)
   (pss_cons (ps_fld (pv 0) (pe_fld (pv 1) rfl) rfl)
   (pss_cons (ps_fld (pv 0) (pe_lst (pa_cons pe_int pa_nil)) rfl)
   (pss_one (ps_for PassesOwn.never rfl (pi_range2 rfl T.nb_range (pa_cons pe_int (pa_cons (pe_gint rfl T.g_MOST_DEPTH) pa_nil))) (pg_name (i:=2) sc_U_init.nd rfl (Or.inl rfl)) (pss_one (ps_expr (pe_bm PySem.F.plainAttrs_list PySem.F.slot_list_append PySem.F.type_list_append mt_append (pe_fld (pv 0) rfl) (pa_cons (pe_op op_mul (pe_ix ix_list (pe_fld (pv 0) rfl) (pe_un un_neg pe_int) (fun _ _=>rfl)) (pe_fld (pv 0) rfl)) pa_nil))))))))),?_⟩
 have npu:p≠u:=by
  obtain ⟨dx',la,lm,ra,rm,E,M,hp,_⟩:=sa
  exact ne_of hp hu (by intro z;injection z with _ _ z;cases z)
 have sk:∀ {H'},Kp [u] H H'→StrAt K H' p S fp:=fun k=>sa.kx k fun x hx=>by
  have:=List.mem_singleton.mp hx
  subst this
  exact ⟨npu,fun l e=>by rw [hu] at e;cases e⟩
 obtain ⟨ds,la,lm,hp,_⟩:=sa.arcs
 refine ⟨_,dx,_,hu,T.c_U.cl,T.n_U_structure,(show 0 < 1000 by decide),_,ds,_,(by rw [upd_ne npu];exact hp),T.c_S.cl,T.n_S_size,_,fs_S_size,_,dx,_,upd_same,T.c_U.cl,T.n_U_size,(show 1 < 1000 by decide),?_⟩
 generalize hH2:upd (upd H u _) u _=H2
 have hu2:H2 u=some (.ins (cA K "Truth") dx [("structure",.ref p),("size",.int S.n)]):=by rw [←hH2];exact upd_same
 have k2:Kp [u] H H2:=by rw [←hH2];exact ((Kp.refl _).set (by simp)).set (by simp)
 refine ⟨by decide,fun lw hlw=>⟨_,dx,_,upd_old hu2 hlw,T.c_U.cl,T.n_U_ways,(show 2 < 1000 by decide),?_⟩⟩
 have nlu:lw≠u:=(ne_of_none hu2 hlw).symm
 generalize hH3:upd (upd H2 lw _) u _=H3
 have hu3:H3 u=some (.ins (cA K "Truth") dx (fs_U (.ref p) (.int S.n) (.ref lw))):=by rw [←hH3];exact upd_same
 have hl3:H3 lw=some (nats [1]):=by rw [←hH3,upd_ne nlu];exact upd_same
 have k3:Kp [u] H H3:=by rw [←hH3];exact (k2.new hlw).set (by simp)
 have hlw0:H lw=none:=k2.free hlw (by simpa using nlu)
 walk_at "rd"
 refine tfor (J:=Itr 1 3) (H1:=H3) (n:=3) (fun _=>none) (fun i σ H'=>H' u=some (.ins (cA K "Truth") dx (fs_U (.ref p) (.int S.n) (.ref lw)))∧H' lw=some (nats ([1,S.n,S.n ^ 2,S.n ^ 3].take (i+1)))∧Kp [u] H H'∧∃ v,σ=[some (.ref u),some (.ref p),v]) ?_ turns_range ⟨hu3,hl3,k3,_,rfl⟩ (fun i σ H' h=>kp_nil) ?_ ?_
 ·intro R q
  exact ⟨1,4,rfl,⟨by decide,by decide,by decide,by decide⟩,q⟩
 ·rintro i _ _ H4 H5 hi ⟨hu4,hl4,k4,v,rfl⟩ k5 rfl
  have hu5:=k5 _ _ hu4 (by simp)
  have hl5:=k5 _ _ hl4 (by simp)
  walk_at "rd"
  simp only [hu5,T.c_U.cl,T.n_U_structure,T.n_U_size,T.n_U_ways,fs_U_structure,fs_U_size,fs_U_ways,hpL,V.int.injEq,V.ref.injEq]
  have i3:i=0∨i=1∨i=2:=by omega
  refine ⟨.inl ⟨rfl,_,SqL.of hl5⟩,_,SqL.of hl5,.int ((S.n ^ i:Nat) : Int),?_,_,rfl,.inr ⟨by omega,by omega⟩,_,hl5,?_,?_,?_,(k4.trans k5.of).young hlw0,_,rfl⟩
  ·rcases i3 with rfl | rfl | rfl <;> simp [atI,ixN]
  ·rw [List.length_map,sizeLine_eq,List.length_take];omega
  ·rw [upd_ne nlu.symm];exact hu5
  ·rw [upd_same]
   rcases i3 with rfl | rfl | rfl <;> simp [nats,Nat.pow_succ]
 ·rintro _ H4 ⟨hu4,hl4,k4,v,rfl⟩
  exact kq H4 ⟨dx,p,lw,fp,hu4,sk k4,hl4,n12⟩ k4
def sp_U_all_ways (K:Frag) : Sp:=fun vs H Q _=>∃ (u:Addr) (d:Nat) (S:Struct),vs=[.ref u,.int d]∧UAt K H u S∧d≤3∧Q (.int ((2 ^ S.n ^ d - 1:Nat) : Int)) H
theorem ok_U_all_ways (T:Txt P w K mg) : FM P w K mg base 1 "Truth" "all_ways" ["self","names"] (sp_U_all_ways K):=by
 refine T.x_U_all_ways.F.ok sc_U_all_ways (fun _ _ _ _ h=>ex3 h fun _ _ _ e=>e.1▸rfl) fun _ _ _ s H vs Q E hr zh=>ex3 zh fun u d S yh=>an4 yh fun vz z0 d3 kq=>?_
 clear zh yh;subst vz
 obtain ⟨dx,p,lw,fp,hu,sa,hl,n12⟩:=z0
 refine ⟨_,(pss_one (ps_ret (pe_op op_sub (pe_op op_shlB pe_int (pe_ix ix_list (pe_fld (pv 0) rfl) (pv 1) (fun _ _=>rfl))) pe_int))),?_⟩
 walk_at "rd"
 simp only [hu,T.c_U.cl,T.n_U_structure,T.n_U_size,T.n_U_ways,fs_U_structure,fs_U_size,fs_U_ways,hpL,V.int.injEq,V.ref.injEq]
 have pw:=pow_le n12 d3
 refine ⟨_,SqL.of hl,_,at_of (j:=d) rfl (ways_at d3),_,rfl,⟨by omega,by omega,1,by omega,by decide⟩,?_⟩
 rw [shl1]
 have:=Nat.two_pow_pos (S.n ^ d)
 rw [show ((2 ^ S.n ^ d:Nat) : Int) - 1=((2 ^ S.n ^ d - 1:Nat) : Int) by omega]
 exact kq
theorem orShift_snoc {w:Nat}:∀ (l:List Nat) (x m a:Nat),orShift w x (l ++ [a]) m=orShift w x l m ||| a*2 ^ ((x+l.length)*w)
 | [],x,m,a=>by simp [orShift]
 | b :: l,x,m,a=>by
  rw [List.cons_append,orShift,orShift,orShift_snoc l (x+1),List.length_cons,show x+1+l.length=x+(l.length+1) by omega]
def sp_U_joined (K:Frag) : Sp:=fun vs H Q _=>∃ (u t:Addr) (d:Nat) (S:Struct) (tab:List Nat),vs=[.ref u,.ref t,.int ((d+1:Nat) : Int)]∧UAt K H u S∧d≤3∧H t=some (nats tab)∧tab.length≤12∧(∀ a∈tab,a < 2 ^ S.n ^ d)∧∀ H',Kp [] H H'→Q (.int ((joinedN S.n d tab:Nat) : Int)) H'
theorem ok_U_joined (T:Txt P w K mg) : FM P w K mg base 1 "Truth" "joined" ["self","table","depth"] (sp_U_joined K):=by
 refine T.x_U_joined.F.ok sc_U_joined (fun _ _ _ _ h=>ex5 h fun _ _ _ _ _ e=>e.1▸rfl) fun _ _ _ s H vs Q E hr zh=>ex5 zh fun u t d S tab yh=>an7 yh fun vz ua d3 ht hl hb kq=>?_
 clear zh yh;subst vz
 refine ex4 ua fun dx p lw fp y=>an4 y fun hu sa hw n12=>?_
 have pw:=pow_le n12 d3
 refine ⟨_,(pss_cons (ps_set (i:=3) sc_U_joined.nd rfl (Or.inl rfl) pe_int)
   (pss_cons (ps_for PassesOwn.never rfl (pi_enum rfl T.nb_enumerate (pa_cons (pv 1) pa_nil)) (pg_tup rfl (pgs_cons (pg_name (i:=4) sc_U_joined.nd rfl (Or.inl rfl)) (pgs_cons (pg_name (i:=5) sc_U_joined.nd rfl (Or.inl rfl)) pgs_nil))) (pss_one (ps_aug (i:=3) sc_U_joined.nd rfl (Or.inl rfl) (pe_op op_shlB (pv 5) (pe_op op_mul (pv 4) (pe_ix ix_list (pe_fld (pv 0) rfl) (pe_op op_sub (pv 2) pe_int) (fun _ _=>rfl)))) ip_or)))
   (pss_one (ps_ret (pv 3))))),?_⟩
 walk_at "rd"
 refine tfor (J:=Ite K t) (H1:=H) (n:=tab.length) H (fun i σ H'=>Kp [] H H'∧∃ v w,σ=[some (.ref u),some (.ref t),some (.int ((d+1:Nat) : Int)),some (.int ((orShift (S.n ^ d) 0 (tab.take i) 0:Nat) : Int)),v,w]) ?_ (by have:=turns_enum (K:=K) (SqL.of ht);rwa [List.length_map] at this) ⟨Kp.refl _,_,_,rfl⟩ (fun i σ H' h=>h.1) ?_ ?_
 ·intro R q
  walk_at "ev"
  exact ⟨_,SqL.of ht,q⟩
 ·rintro i _ _ H2 H3 hi ⟨k2,v,w,rfl⟩ k3 ⟨Tp,y,rfl,hT,hy⟩
  obtain ⟨z,hz,rfl⟩ : ∃ z,tab[i]? = some z∧y=.int (z:Int):=by
   rw [List.getElem?_map] at hy
   cases e:tab[i]? with
   | none=>rw [e] at hy;cases hy
   | some z=>rw [e] at hy;cases hy;exact ⟨z,rfl,rfl⟩
  have zb:=hb z (List.mem_of_getElem? hz)
  refine ⟨Tp,[.int (i:Nat),.int (z:Int)],rfl,SqT.of hT,rfl,_,_,rfl,_,_,rfl,rfl,?_⟩
  have k03:=k2.trans k3
  have hu3:=k03 _ _ hu (by simp)
  have hw3:=k03 _ _ hw (by simp)
  walk_at "rd"
  simp only [hu3,T.c_U.cl,T.n_U_structure,T.n_U_size,T.n_U_ways,fs_U_structure,fs_U_size,fs_U_ways,hpL,V.int.injEq,V.ref.injEq]
  have xw:i*S.n ^ d≤12*1728:=Nat.mul_le_mul (by omega) pw
  have ej:(i:Int)*((S.n ^ d:Nat) : Int)=((i*S.n ^ d:Nat) : Int):=by simp
  refine ⟨_,SqL.of hw3,_,at_of (j:=d) (by omega) (ways_at d3),_,rfl,.inl ⟨by omega,by omega⟩,?_⟩
  rw [ej]
  refine ⟨⟨by omega,by omega,S.n ^ d,by omega,by simpa using zb⟩,k03,?_,_,rfl⟩
  rw [shlN,bor,List.take_add_one,hz,Option.toList_some,orShift_snoc,List.length_take,Nat.min_eq_left (by omega),Nat.zero_add]
 ·rintro _ H2 ⟨k2,v,w,rfl⟩
  walk_at "rd"
  have:=kq H2 k2
  rw [List.take_length]
  exact this
def sp_U_parted (K:Frag) : Sp:=fun vs H Q _=>∃ (u:Addr) (m d:Nat) (S:Struct),vs=[.ref u,.int m,.int d]∧UAt K H u S∧d≤4∧∀ H' D,Kp [] H H'→H D=none→H' D=some (nats (partedN S.n d m))→Q (.ref D) H'
theorem fU_all_ways {a b c:V}:(fs_U a b c).lookup ("all_ways" : Str)=none:=rfl
theorem fU_joined {a b c:V}:(fs_U a b c).lookup ("joined" : Str)=none:=rfl
theorem ok_U_parted (T:Txt P w K mg) : FM P w K mg base 2 "Truth" "parted" ["self","number","depth"] (sp_U_parted K):=by
 refine T.x_U_parted.F.ok sc_U_parted (fun _ _ _ _ h=>ex4 h fun _ _ _ _ e=>e.1▸rfl) fun _ _ _ s H vs Q E hr zh=>ex4 zh fun u m d S yh=>an4 yh fun vz ua d4 kq=>?_
 clear zh yh;subst vz
 refine ex4 ua fun dx p lw fp y=>an4 y fun hu sa hw n12=>?_
 refine ⟨_,(pss_cons (ps_if (pt_eq (pv 2) pe_int (nomark _)) (pss_one (ps_ret (pe_lst (pa_cons (pv 1) pa_nil)))) pss_nil)
   (pss_cons (ps_set (i:=3) sc_U_parted.nd rfl (Or.inr rfl) (pe_meth (pv 0) T.c_U.cl T.x_U_all_ways.m (ok_U_all_ways T) (hr.mono (by decide)) T.x_U_all_ways.b .nil pass0 (pa_cons (pe_op op_sub (pv 2) pe_int) pa_nil)))
   (pss_one (ps_ret (pe_lc rfl sc_U_parted.nd (pi_range1 rfl T.nb_range (pa_cons (pe_fld (pv 0) rfl) pa_nil)) (blkOk_by (own:=[("x",4)]) rfl) (fun _ _ _ _ _=>(pg_name (i:=4) sc_U_parted.nd rfl (Or.inl rfl))) (fun _ _ _ _ _=>pts_nil) (fun _ _ _ _ _=>(pe_op op_and (pe_op op_shr (pv 1) (pe_op op_mul (pv 4) (pe_ix (show IxR _ (rIxL K) from ix_list) (show PE _ _ (tFld K _ _) from pe_fld (pv 0) rfl) (pe_op op_sub (pv 2) pe_int) (fun _ _=>rfl)))) (pv 3)))))))),?_⟩
 walk_at "rd"
 cases d with
 | zero =>
  simp only [Int.natCast_zero,if_true]
  exact ⟨by decide,fun D hD=>kq _ D ((Kp.refl _).new hD) hD upd_same⟩
 | succ d =>
  have d3:d≤3:=by omega
  have pw:=pow_le n12 d3
  have e1:¬ (((d+1:Nat) : Int)=0):=by omega
  simp only [e1,if_false]
  simp only [hu,fU_all_ways,T.c_U.cl,T.n_U_structure,T.n_U_size,T.n_U_ways,fs_U_structure,fs_U_size,fs_U_ways,hpL,V.int.injEq,V.ref.injEq]
  refine ⟨u,d,S,by simp,ua,d3,?_⟩
  refine tlc_all (H1:=H) (J:=Itr 0 S.n) (n:=S.n) (fun x=>.int (((m / 2 ^ (x*S.n ^ d)) &&& (2 ^ S.n ^ d - 1) : Nat) : Int)) ?_ turns_range (by rw [sizeLine_eq];omega) gName_mono ?_ fun D H1 hD k1 h1=>kq H1 D k1 hD (by rw [h1,nats,partedN,List.map_map];rfl)
  ·intro R q
   walk_at "ev"
   simp only [hu,T.c_U.cl,T.n_U_structure,T.n_U_size,T.n_U_ways,fs_U_structure,fs_U_size,fs_U_ways,hpL,V.int.injEq,V.ref.injEq]
   exact ⟨by omega,by omega,q⟩
  ·rintro x _ H2 Q2 hx rfl k2 q
   refine ⟨rfl,?_⟩
   have hu2:=k2 _ _ hu (by simp)
   have hw2:=k2 _ _ hw (by simp)
   walk_at "rd"
   simp only [hu2,T.c_U.cl,T.n_U_structure,T.n_U_size,T.n_U_ways,fs_U_structure,fs_U_size,fs_U_ways,hpL,V.int.injEq,V.ref.injEq]
   have ej:((0:Int)+(x:Int))*((S.n ^ d:Nat) : Int)=((x*S.n ^ d:Nat) : Int):=by simp
   refine ⟨_,SqL.of hw2,_,at_of (j:=d) (by omega) (ways_at d3),_,rfl,.inr ⟨by omega,by omega⟩,?_⟩
   rw [ej]
   refine ⟨by omega,?_⟩
   rw [shrN,band]
   exact q H2 (Kp.refl _)
open Rc82 (arc)
def cs (c:Nat) : Str:=⟨#[c]⟩
theorem cs_eq {c d:Nat}:cs c=cs d↔c=d:=by
 constructor
 ·intro h
  unfold cs at h
  injection h with h
  injection h with h
  injection h
 ·rintro rfl;rfl
theorem cs_E {c:Nat}:(cs c=Str.ofString "E")=(c=69):=by rw [show Str.ofString "E" = cs 69 from rfl,cs_eq]
theorem cs_Q {c:Nat}:(cs c=Str.ofString "=")=(c=61):=by rw [show Str.ofString "=" = cs 61 from rfl,cs_eq]
theorem cs_P {c:Nat}:(cs c=Str.ofString "P")=(c=80):=by rw [show Str.ofString "P" = cs 80 from rfl,cs_eq]
def sp_U_related (K:Frag) : Sp:=fun vs H Q _=>∃ (u:Addr) (c x y:Nat) (S:Struct),vs=[.ref u,.str (cs c),.int x,.int y]∧UAt K H u S∧x < S.n∧y < S.n∧Q (.bl (relT S c x y)) H
theorem ok_U_related (T:Txt P w K mg) : FM P w K mg base 1 "Truth" "related" ["self","sign","x","y"] (sp_U_related K):=by
 refine T.x_U_related.F.ok sc_U_related (fun _ _ _ _ h=>ex5 h fun _ _ _ _ _ e=>e.1▸rfl) fun _ _ _ s H vs Q E hr zh=>ex5 zh fun u c x y S yh=>an5 yh fun vz z0 hx hy kq=>?_
 clear zh yh;subst vz
 obtain ⟨dx,p,lw,fp,hu,sa,hw,n12⟩:=z0
 obtain ⟨ds,la,lm,hp,⟨ra,hla,hA⟩,r0,r1,a0,a1,hlm,h0,h1,hM⟩:=sa.arcs
 refine ⟨_,(pss_cons (ps_if (pt_eq (pv 1) pe_str (nomark _)) (pss_one (ps_ret (pe_ix ix_list (pe_ix ix_list (pe_fld (pe_fld (pv 0) rfl) rfl) (pv 2) (fun _ _=>rfl)) (pv 3) (fun _ _=>rfl)))) pss_nil)
   (pss_cons (ps_if (pt_eq (pv 1) pe_str (nomark _)) (pss_one (ps_ret (pe_cmpR op_eq (pv 2) (pv 3) (nomark _)))) pss_nil)
   (pss_one (ps_ret (pe_ix ix_list (pe_ix ix_list (pe_fld (pe_fld (pv 0) rfl) rfl) (pe_ifExp (pt_eq (pv 1) pe_str (nomark _)) pe_int pe_int) (fun _ _=>rfl)) (pv 2) (fun _ _=>rfl)))))),?_⟩
 walk_at "rd"
 simp only [cs_E,cs_Q,cs_P,hu,hp,T.c_U.cl,T.n_U_structure,T.n_U_size,T.n_U_ways,fs_U_structure,fs_U_size,fs_U_ways,T.c_S.cl,T.n_S_arcs,T.n_S_marks,fs_S_arcs,fs_S_marks,hpL,V.int.injEq,V.ref.injEq]
 unfold relT at kq
 by_cases c1:c=69
 ·rw [if_pos c1] at kq ⊢
  obtain ⟨a,r,q1,q2,q3⟩:=hA x hx
  exact ⟨_,SqL.of hla,_,atI_nat q1,a,rfl,_,SqL.of q2,_,atI_nat (q3 y hy),kq⟩
 ·rw [if_neg c1] at kq ⊢
  by_cases c2:c=61
  ·rw [if_pos c2] at kq ⊢
   have:(x == y)=decide ((x:Int)=(y:Int)):=by
    rw [Bool.eq_iff_iff,beq_iff_eq,decide_eq_true_eq];omega
   rw [this] at kq
   exact kq
  ·rw [if_neg c2] at kq ⊢
   by_cases c3:c=80
   ·rw [if_pos c3] at kq ⊢
    exact ⟨_,SqL.of hlm,_,atI_nat (j:=0) rfl,a0,rfl,_,SqL.of h0,_,atI_nat (hM x hx).1,kq⟩
   ·rw [if_neg c3] at kq ⊢
    exact ⟨_,SqL.of hlm,_,atI_nat (j:=1) rfl,a1,rfl,_,SqL.of h1,_,atI_nat (hM x hx).2,kq⟩
def StepAt (K:Frag) (H:Hp) (st:Addr) (q:StepP) : Prop:=∃ (dx la:Addr),H st=some (.ins (cA K "Step") dx (fs_P (.str (cs q.1)) (.int q.2.1) (.ref la)))∧H la=some (nats q.2.2)
theorem StepAt.kp {H H':Hp} {st:Addr} {q:StepP} (h:StepAt K H st q) (k:Kp [] H H') : StepAt K H' st q:=by
 obtain ⟨dx,la,a,b⟩:=h
 exact ⟨dx,la,k _ _ a (by simp),k _ _ b (by simp)⟩
def LvOk (lv:List Nat) (i j:Nat) : Prop:=(lv=[i]∧j=i)∨lv=[i,j]
theorem LvOk.fst {lv:List Nat} {i j:Nat} (h:LvOk lv i j) : atI (lv.map fun (z:Nat)=>V.int (z:Int)) 0=some (.int (i:Int)):=by
 rcases h with ⟨rfl,rfl⟩ | rfl <;> simp [atI,ixN]
theorem LvOk.lst {lv:List Nat} {i j:Nat} (h:LvOk lv i j) : atI (lv.map fun (z:Nat)=>V.int (z:Int)) (-1)=some (.int (j:Int)):=by
 rcases h with ⟨rfl,rfl⟩ | rfl <;> simp [atI,ixN]
theorem fU_related {a b c:V}:(fs_U a b c).lookup ("related" : Str)=none:=rfl
theorem fU_related_to {a b c:V}:(fs_U a b c).lookup ("related_to" : Str)=none:=rfl
theorem fU_ways_with {a b c:V}:(fs_U a b c).lookup ("ways_with" : Str)=none:=rfl
theorem fU_row_of {a b c:V}:(fs_U a b c).lookup ("row_of" : Str)=none:=rfl
def sp_U_related_to (K:Frag) : Sp:=fun vs H Q _=>∃ (u st:Addr) (c D i j x:Nat) (lv:List Nat) (S:Struct),vs=[.ref u,.ref st,.int x]∧UAt K H u S∧StepAt K H st (c,D,lv)∧LvOk lv i j∧x < S.n ∧
 ∀ H' Dl,Kp [] H H'→H Dl=none→H' Dl=some (nats ((List.range S.n).filter fun y=>if i < j then relT S c y x else relT S c x y))→Q (.ref Dl) H'
theorem ok_U_related_to (T:Txt P w K mg) : FM P w K mg base 2 "Truth" "related_to" ["self","step","inner_point"] (sp_U_related_to K):=by
 refine T.x_U_related_to.F.ok sc_U_related_to (fun _ _ _ _ h=>ex9 h fun _ _ _ _ _ _ _ _ _ e=>e.1▸rfl) fun _ _ _ s H vs Q E hr zh=>ex9 zh fun u st c D i j x lv S yh=>an6 yh fun vz ua sta lo hx kq=>?_
 clear zh yh;subst vz
 refine ex4 ua fun dx p lw fp y=>an4 y fun hu sa hw n12=>?_
 obtain ⟨dp,la,hst,hla⟩:=id sta
 refine ⟨_,(pss_cons (ps_if (pt_lt (pe_ix ix_list (pe_fld (pv 1) rfl) pe_int (fun _ _=>rfl)) (pe_ix ix_list (pe_fld (pv 1) rfl) (pe_un un_neg pe_int) (fun _ _=>rfl)) (nomark _)) (pss_one (ps_ret (pe_lc rfl sc_U_related_to.nd (pi_range1 rfl T.nb_range (pa_cons (pe_fld (pv 0) rfl) pa_nil)) (blkOk_by (own:=[("x",3)]) rfl) (fun _ _ _ _ _=>(pg_name (i:=3) sc_U_related_to.nd rfl (Or.inl rfl))) (fun _ _ _ _ _=>(pts_one (pt_val (pe_meth (pv 0) T.c_U.cl T.x_U_related.m (ok_U_related T) (hr.mono (by decide)) T.x_U_related.b .nil pass0 (pa_cons (show PE _ _ (tFld K _ _) from pe_fld (pv 1) rfl) (pa_cons (pv 3) (pa_cons (pv 2) pa_nil))))))) (fun _ _ _ _ _=>(pv 3))))) pss_nil)
   (pss_one (ps_ret (pe_lc rfl sc_U_related_to.nd (pi_range1 rfl T.nb_range (pa_cons (pe_fld (pv 0) rfl) pa_nil)) (blkOk_by (own:=[("y",4)]) rfl) (fun _ _ _ _ _=>(pg_name (i:=4) sc_U_related_to.nd rfl (Or.inl rfl))) (fun _ _ _ _ _=>(pts_one (pt_val (pe_meth (pv 0) T.c_U.cl T.x_U_related.m (ok_U_related T) (hr.mono (by decide)) T.x_U_related.b .nil pass0 (pa_cons (show PE _ _ (tFld K _ _) from pe_fld (pv 1) rfl) (pa_cons (pv 2) (pa_cons (pv 4) pa_nil))))))) (fun _ _ _ _ _=>(pv 4)))))),?_⟩
 walk_at "rd"
 simp only [hst,T.c_P.cl,T.n_P_sign,T.n_P_depth,T.n_P_levels,fs_P_sign,fs_P_depth,fs_P_levels,hpL,V.int.injEq,V.ref.injEq]
 refine ⟨_,SqL.of hla,_,lo.fst,_,SqL.of hla,_,lo.lst,_,rfl,_,rfl,?_⟩
 have nm:∀ {f:Nat→Bool},((List.range S.n).filter f).map (fun (y:Nat)=>V.int ((0:Int)+(y:Int)))=((List.range S.n).filter f).map fun (y:Nat)=>V.int (y:Int):=fun {f}=>by congr 1;funext y;simp
 by_cases e:i < j
 ·simp only [show (i:Int) < (j:Int) by omega,e,if_true] at kq ⊢
  refine tlc_if (H1:=H) (J:=Itr 0 S.n) (n:=S.n) (fun y=>relT S c y x) (fun y=>.int (0+(y:Int))) ?_ turns_range (by rw [sizeLine_eq];omega) ?_ fun Dl H1 hD k1 h1=>kq H1 Dl k1 hD (by rw [h1,nm];rfl)
  ·intro R q
   walk_at "ev"
   simp only [hu,T.c_U.cl,T.n_U_structure,T.n_U_size,T.n_U_ways,fs_U_structure,fs_U_size,fs_U_ways,hpL,V.int.injEq,V.ref.injEq]
   exact ⟨by omega,by omega,q⟩
  ·rintro y _ H2 Q2 N2 hy rfl k2 q1 q2
   refine ⟨rfl,?_⟩
   have hu2:=k2 _ _ hu (by simp)
   have hst2:=k2 _ _ hst (by simp)
   walk_at "rd"
   simp only [hu2,hst2,fU_related,T.c_U.cl,T.n_U_structure,T.n_U_size,T.n_U_ways,fs_U_structure,fs_U_size,fs_U_ways,T.c_P.cl,T.n_P_sign,T.n_P_depth,T.n_P_levels,fs_P_sign,fs_P_depth,fs_P_levels,hpL,V.int.injEq,V.ref.injEq]
   refine ⟨u,c,y,x,S,by simp,ua.kp k2,hy,hx,_,rfl,?_⟩
   by_cases t:relT S c y x=true
   ·rw [if_pos t];exact q1 t H2 (Kp.refl _)
   ·rw [if_neg t];exact q2 (by simpa using t) H2 (Kp.refl _)
 ·simp only [show ¬ ((i:Int) < (j:Int)) by omega,e,if_false] at kq ⊢
  refine tlc_if (H1:=H) (J:=Itr 0 S.n) (n:=S.n) (fun y=>relT S c x y) (fun y=>.int (0+(y:Int))) ?_ turns_range (by rw [sizeLine_eq];omega) ?_ fun Dl H1 hD k1 h1=>kq H1 Dl k1 hD (by rw [h1,nm];rfl)
  ·intro R q
   walk_at "ev"
   simp only [hu,T.c_U.cl,T.n_U_structure,T.n_U_size,T.n_U_ways,fs_U_structure,fs_U_size,fs_U_ways,hpL,V.int.injEq,V.ref.injEq]
   exact ⟨by omega,by omega,q⟩
  ·rintro y _ H2 Q2 N2 hy rfl k2 q1 q2
   refine ⟨rfl,?_⟩
   have hu2:=k2 _ _ hu (by simp)
   have hst2:=k2 _ _ hst (by simp)
   walk_at "rd"
   simp only [hu2,hst2,fU_related,T.c_U.cl,T.n_U_structure,T.n_U_size,T.n_U_ways,fs_U_structure,fs_U_size,fs_U_ways,T.c_P.cl,T.n_P_sign,T.n_P_depth,T.n_P_levels,fs_P_sign,fs_P_depth,fs_P_levels,hpL,V.int.injEq,V.ref.injEq]
   refine ⟨u,c,x,y,S,by simp,ua.kp k2,hx,hy,_,rfl,?_⟩
   by_cases t:relT S c x y=true
   ·rw [if_pos t];exact q1 t H2 (Kp.refl _)
   ·rw [if_neg t];exact q2 (by simpa using t) H2 (Kp.refl _)
theorem waysN_snoc {n d:Nat}:∀ (l:List Nat) (m a:Nat),waysN n d (l ++ [a]) m=waysN n d l m ||| (2 ^ n ^ d - 1)*2 ^ (a*n ^ d)
 | [],m,a=>rfl
 | b :: l,m,a=>by rw [List.cons_append,waysN,waysN,waysN_snoc l]
theorem rep_nats (n m:Nat) : HO.lst (List.replicate ((n:Int).toNat) [V.int (m:Int)]).flatten=nats (List.replicate n m):=by
 rw [List.flatten_replicate_singleton,nats,List.map_replicate,Int.toNat_natCast]
def sp_U_ways_with (K:Frag) : Sp:=fun vs H Q _=>∃ (u M:Addr) (l k:Nat) (mem:List Nat) (S:Struct),vs=[.ref u,.ref M,.int l,.int k]∧UAt K H u S∧H M=some (nats mem)∧mem.length≤12∧(∀ x∈mem,x < S.n)∧l+1≤k∧k≤3 ∧
 ∀ H' m,Kp [] H H'→Num S.n k m (fun v=>mem.contains (v l))→Q (.int ((m:Nat) : Int)) H'
theorem ok_U_ways_with (T:Txt P w K mg) : FM P w K mg base 2 "Truth" "ways_with" ["self","members","level","names"] (sp_U_ways_with K):=by
 refine T.x_U_ways_with.F.ok sc_U_ways_with (fun _ _ _ _ h=>ex6 h fun _ _ _ _ _ _ e=>e.1▸rfl) fun _ _ _ s H vs Q E hr zh=>ex6 zh fun u M l k mem S yh=>an8 yh fun vz ua hM ml mn lk k3 kq=>?_
 clear zh yh;subst vz
 refine ex4 ua fun dx p lw fp y=>an4 y fun hu sa hw n12=>?_
 have l3:l≤3:=by omega
 have pw:=pow_le n12 l3
 have dep:∀ {d},l < d→Dep d fun v=>mem.contains (v l):=fun h v v' e=>by show mem.contains (v l)=mem.contains (v' l);rw [e l h]
 refine ⟨_,(pss_cons (ps_set (i:=4) sc_U_ways_with.nd rfl (Or.inl rfl) pe_int)
   (pss_cons (ps_for PassesOwn.never rfl (pi_list (pv 1)) (pg_name (i:=5) sc_U_ways_with.nd rfl (Or.inl rfl)) (pss_one (ps_aug (i:=4) sc_U_ways_with.nd rfl (Or.inl rfl) (pe_op op_shlB (pe_meth (pv 0) T.c_U.cl T.x_U_all_ways.m (ok_U_all_ways T) (hr.mono (by decide)) T.x_U_all_ways.b .nil pass0 (pa_cons (pv 2) pa_nil)) (pe_op op_mul (pv 5) (pe_ix ix_list (pe_fld (pv 0) rfl) (pv 2) (fun _ _=>rfl)))) ip_or)))
   (pss_cons (ps_for PassesOwn.never rfl (pi_range2 rfl T.nb_range (pa_cons (pe_op op_add (pv 2) pe_int) (pa_cons (pe_op op_add (pv 3) pe_int) pa_nil))) (pg_name (i:=6) sc_U_ways_with.nd rfl (Or.inl rfl)) (pss_one (ps_set (i:=4) sc_U_ways_with.nd rfl (Or.inl rfl) (pe_meth (pv 0) T.c_U.cl T.x_U_joined.m (ok_U_joined T) (hr.mono (by decide)) T.x_U_joined.b .nil pass0 (pa_cons (pe_op op_rep (pe_lst (pa_cons (pv 4) pa_nil)) (pe_fld (pv 0) rfl)) (pa_cons (pv 6) pa_nil))))))
   (pss_one (ps_ret (pv 4)))))),?_⟩
 walk_at "rd"
 refine tfor (J:=Itl K M) (H1:=H) (n:=(mem.map fun (z:Nat)=>V.int (z:Int)).length) H (fun i σ H'=>Kp [] H H'∧∃ v,σ=[some (.ref u),some (.ref M),some (.int l),some (.int k),some (.int ((waysN S.n l (mem.take i) 0:Nat) : Int)),v,none]) ?_ (turns_list (SqL.of hM)) ⟨Kp.refl _,_,rfl⟩ (fun i σ H' h=>h.1) ?_ ?_
 ·intro R q
  walk_at "ev"
  exact ⟨⟨_,SqL.of hM⟩,q⟩
 ·rintro i y _ H2 H3 hi ⟨k2,v,rfl⟩ k3' hy
  obtain ⟨z,hz,rfl⟩ : ∃ z,mem[i]? = some z∧y=.int (z:Int):=by
   rw [List.getElem?_map] at hy
   cases e:mem[i]? with
   | none=>rw [e] at hy;cases hy
   | some z=>rw [e] at hy;cases hy;exact ⟨z,rfl,rfl⟩
  have zn:=mn z (List.mem_of_getElem? hz)
  have k03:=k2.trans k3'
  have hu3:=k03 _ _ hu (by simp)
  have hw3:=k03 _ _ hw (by simp)
  walk_at "rd"
  simp only [hu3,fU_all_ways,T.c_U.cl,T.n_U_structure,T.n_U_size,T.n_U_ways,fs_U_structure,fs_U_size,fs_U_ways,hpL,V.int.injEq,V.ref.injEq]
  refine ⟨u,l,S,rfl,ua.kp k03,l3,?_⟩
  simp only [hu3,T.c_U.cl,T.n_U_structure,T.n_U_size,T.n_U_ways,fs_U_structure,fs_U_size,fs_U_ways,hpL,V.int.injEq,V.ref.injEq]
  have xw:z*S.n ^ l≤12*1728:=Nat.mul_le_mul (by omega) pw
  have ej:(z:Int)*((S.n ^ l:Nat) : Int)=((z*S.n ^ l:Nat) : Int):=by simp
  refine ⟨_,SqL.of hw3,_,at_of (j:=l) rfl (ways_at l3),_,rfl,.inl ⟨by omega,by omega⟩,?_⟩
  rw [ej]
  have tp:=Nat.two_pow_pos (S.n ^ l)
  refine ⟨⟨by omega,by omega,S.n ^ l,by omega,by rw [Int.natAbs_natCast];omega⟩,k03,?_,_,rfl⟩
  rw [shlN,bor,List.take_add_one,hz,Option.toList_some,waysN_snoc]
 ·rintro _ H2 ⟨k2,v,rfl⟩
  rw [List.length_map,List.take_length]
  walk_at "rd"
  have n0:=waysN_num (n:=S.n) (d:=l) mem 0 _ mn (Num.zero S.n (l+1))
  simp only [Bool.false_or] at n0
  refine tfor (J:=Itr ((l+2:Nat) : Int) (k - l - 1)) (H1:=H2) (n:=k - l - 1) H (fun i σ H'=>Kp [] H H'∧∃ m:Nat,Num S.n (l+1+i) m (fun v=>mem.contains (v l))∧∃ w,σ=[some (.ref u),some (.ref M),some (.int l),some (.int k),some (.int (m:Int)),v,w]) ?_ turns_range ⟨k2,_,n0,_,rfl⟩ (fun i σ H' h=>h.1) ?_ ?_
  ·intro R q
   refine ⟨_,_,rfl,⟨by omega,by omega,by omega,by omega⟩,?_⟩
   rw [show ((k:Int)+1 - ((l:Int)+2)).toNat=k - l - 1 by omega]
   exact q
  ·rintro i _ _ H3 H4 hi ⟨k3',m,nm,w,rfl⟩ k4 rfl
   have k04:=k3'.trans k4
   have hu4:=k04 _ _ hu (by simp)
   walk_at "rd"
   simp only [hu4,fU_joined,T.c_U.cl,T.n_U_structure,T.n_U_size,T.n_U_ways,fs_U_structure,fs_U_size,fs_U_ways,hpL,V.int.injEq,V.ref.injEq]
   refine ⟨by decide,fun q1 hq1=>?_⟩
   have hu5:=upd_old (o:=.lst [.int (m:Int)]) hu4 hq1
   simp only [hu5,T.c_U.cl,T.n_U_structure,T.n_U_size,T.n_U_ways,fs_U_structure,fs_U_size,fs_U_ways,hpL,V.int.injEq,V.ref.injEq]
   refine ⟨_,upd_same,by omega,by omega,by rw [sizeLine_eq];simp;omega,fun q2 hq2=>?_⟩
   rw [rep_nats]
   have k46:Kp [] H4 (upd (upd H4 q1 (.lst [.int (m:Int)])) q2 (nats (List.replicate S.n m))):=((Kp.refl _).new hq1).new hq2
   have k06:=k04.trans k46
   refine ⟨u,q2,l+1+i,S,List.replicate S.n m,by rw [show ((l+2:Nat) : Int)+(i:Int)=((l+1+i+1:Nat) : Int) by omega],ua.kp k06,by omega,upd_same,by simp;omega,fun a ha=>by rw [(List.mem_replicate.mp ha).2];exact nm.lt,fun H7 k7=>⟨k06.trans k7,_,Tab.joined (nm.rep (dep (by omega))),rfl,_,rfl⟩⟩
  ·rintro _ H3 ⟨k3',m,nm,w,rfl⟩
   rw [show l+1+(k - l - 1)=k by omega] at nm
   exact kq H3 m k3' nm
def sp_U_row_of (K:Frag) : Sp:=fun vs H Q _=>∃ (u st:Addr) (c D i j x:Nat) (lv:List Nat) (S:Struct),vs=[.ref u,.ref st,.int x]∧UAt K H u S∧StepAt K H st (c,D,lv)∧LvOk lv i j∧i≤3∧j≤3∧x < S.n ∧
 ∀ H' m,Kp [] H H'→Num S.n (max i j) m (fun v=>relT S c (setv v (max i j) x i) (setv v (max i j) x j))→Q (.int ((m:Nat) : Int)) H'
theorem LvOk.min {lv:List Nat} {i j:Nat} (h:LvOk lv i j) : ∃ ns:List Int,ns=lv.map (fun (z:Nat)=>(z:Int))∧0 < ns.length∧((Nat.min i j:Nat) : Int)∈ns∧(∀ y∈ns,((Nat.min i j:Nat) : Int)≤y)∧((max i j:Nat) : Int)∈ns∧∀ y∈ns,y≤((max i j:Nat) : Int):=by
 refine ⟨_,rfl,?_⟩
 rcases h with ⟨rfl,rfl⟩ | rfl
 ·simp [Nat.min_def]
 ·simp only [List.map_cons,List.map_nil,List.length_cons,List.length_nil,List.mem_cons,List.not_mem_nil,or_false]
  have e1:Nat.min i j=if i≤j then i else j:=Nat.min_def
  have e2:max i j=if i≤j then j else i:=Nat.max_def
  rw [e1,e2]
  split <;> refine ⟨by omega,by simp,fun y hy=>by omega,by simp,fun y hy=>by omega⟩
theorem ok_U_row_of (T:Txt P w K mg) : FM P w K mg base 3 "Truth" "row_of" ["self","step","inner_point"] (sp_U_row_of K):=by
 refine T.x_U_row_of.F.ok sc_U_row_of (fun _ _ _ _ h=>ex9 h fun _ _ _ _ _ _ _ _ _ e=>e.1▸rfl) fun _ _ _ s H vs Q E hr zh=>ex9 zh fun u st c D i j x lv S yh=>an8 yh fun vz ua sta lo i3 j3 hx kq=>?_
 clear zh yh;subst vz
 refine ex4 ua fun dx p lw fp y=>an4 y fun hu sa hw n12=>?_
 obtain ⟨dp,la,hst,hla⟩:=id sta
 obtain ⟨ns,en,h0,m1,m2,x1,x2⟩:=lo.min
 have hla':SqL K H la (ns.map V.int):=by
  have:=SqL.of (K:=K) hla
  rwa [en,List.map_map]
 refine ⟨_,(pss_cons (ps_set (i:=3) sc_U_row_of.nd rfl (Or.inl rfl) (pe_callB (cr_min rfl) (by rfl) T.nb_min bt_min (pa_cons (pe_fld (pv 1) rfl) pa_nil)))
   (pss_cons (ps_set (i:=4) sc_U_row_of.nd rfl (Or.inl rfl) (pe_callB (cr_max rfl) (by rfl) T.nb_max bt_max (pa_cons (pe_fld (pv 1) rfl) pa_nil)))
   (pss_cons (ps_if (pt_lt (pv 3) (pv 4) (nomark _)) (pss_one (ps_ret (pe_meth (pv 0) T.c_U.cl T.x_U_ways_with.m (ok_U_ways_with T) (hr.mono (by decide)) T.x_U_ways_with.b .nil pass0 (pa_cons (pe_meth (pv 0) T.c_U.cl T.x_U_related_to.m (ok_U_related_to T) (hr.mono (by decide)) T.x_U_related_to.b .nil pass0 (pa_cons (pv 1) (pa_cons (pv 2) pa_nil))) (pa_cons (pv 3) (pa_cons (pv 4) pa_nil)))))) pss_nil)
   (pss_cons (ps_if (pt_val (pe_meth (pv 0) T.c_U.cl T.x_U_related.m (ok_U_related T) (hr.mono (by decide)) T.x_U_related.b .nil pass0 (pa_cons (pe_fld (pv 1) rfl) (pa_cons (pv 2) (pa_cons (pv 2) pa_nil))))) (pss_one (ps_ret (pe_meth (pv 0) T.c_U.cl T.x_U_all_ways.m (ok_U_all_ways T) (hr.mono (by decide)) T.x_U_all_ways.b .nil pass0 (pa_cons (pv 4) pa_nil)))) pss_nil)
   (pss_one (ps_ret pe_int)))))),?_⟩
 walk_at "rd"
 simp only [hst,T.c_P.cl,T.n_P_sign,T.n_P_depth,T.n_P_levels,fs_P_sign,fs_P_depth,fs_P_levels,hpL,V.int.injEq,V.ref.injEq]
 refine ⟨la,ns,rfl,hla',h0,fun m hm hle=>?_⟩
 have em:m=((Nat.min i j:Nat) : Int):=by have:=hle _ m1;have:=m2 m hm;omega
 subst em
 refine ⟨_,_,_,hst,T.c_P.cl,T.n_P_levels,_,fs_P_levels,la,ns,rfl,hla',h0,fun m' hm' hge=>?_⟩
 have em':m'=((max i j:Nat) : Int):=by have:=hge _ x1;have:=x2 m' hm';omega
 subst em'
 refine ⟨_,rfl,_,rfl,?_⟩
 have en1:Nat.min i j=if i≤j then i else j:=Nat.min_def
 have ex1:max i j=if i≤j then j else i:=Nat.max_def
 by_cases e:Nat.min i j < max i j
 ·rw [if_pos (by omega)]
  refine ⟨_,_,hu,fU_ways_with,_,_,hu,fU_related_to,u,st,c,D,i,j,x,lv,S,rfl,ua,sta,lo,hx,fun H1 Dl k1 hD h1=>⟨u,Dl,Nat.min i j,max i j,_,S,rfl,ua.kp k1,h1,?_,fun y hy=>List.mem_range.mp (List.mem_filter.mp hy).1,by omega,by omega,fun H2 m k2 nm=>kq H2 m (k1.trans k2) (nm.congr fun v hv=>?_)⟩⟩
  ·refine Nat.le_trans (List.length_filter_le _ _) ?_
   rw [List.length_range];exact n12
  ·have vl:=hv _ e
   rw [Bool.eq_iff_iff,List.contains_iff_mem,List.mem_filter,List.mem_range]
   by_cases ij:i < j
   ·have a1:Nat.min i j=i:=by rw [en1,if_pos (by omega)]
    have a2:max i j=j:=by rw [ex1,if_pos (by omega)]
    rw [a1] at vl ⊢
    rw [a2,if_pos ij,setv_at,setv_ne (by omega)]
    exact ⟨fun h=>h.2,fun h=>⟨vl,h⟩⟩
   ·have a1:Nat.min i j=j:=by rw [en1];split <;> omega
    have a2:max i j=i:=by rw [ex1];split <;> omega
    rw [a1] at vl ⊢
    rw [a2,if_neg ij,setv_at,setv_ne (by omega)]
    exact ⟨fun h=>h.2,fun h=>⟨vl,h⟩⟩
 ·rw [if_neg (by omega)]
  have eij:i=j:=by
   rw [en1,ex1] at e
   split at e <;> omega
  have em:max i j=i:=by rw [ex1];split <;> omega
  have rel:∀ v:Vl,relT S c (setv v (max i j) x i) (setv v (max i j) x j)=relT S c x x:=fun v=>by rw [←eij,show max i i=i by omega,setv_at]
  refine ⟨_,_,hu,fU_related,_,_,_,hst,T.c_P.cl,T.n_P_sign,_,fs_P_sign,u,c,x,x,S,rfl,ua,hx,hx,_,rfl,?_⟩
  by_cases t:relT S c x x=true
  ·rw [if_pos t]
   exact ⟨_,_,hu,fU_all_ways,u,max i j,S,rfl,ua,by omega,kq H _ (Kp.refl _) ((Num.ones S.n (max i j)).congr fun v _=>by rw [rel,t])⟩
  ·rw [if_neg t]
   exact kq H 0 (Kp.refl _) ((Num.zero S.n (max i j)).congr fun v _=>by rw [rel];simpa using t)
def sp_U_table_of (K:Frag) : Sp:=fun vs H Q _=>∃ (u st:Addr) (c D i j:Nat) (lv:List Nat) (S:Struct),vs=[.ref u,.ref st]∧UAt K H u S∧StepAt K H st (c,D,lv)∧LvOk lv i j∧i < D∧j < D∧D≤4 ∧
 ∀ H' Dl tab,Kp [] H H'→H Dl=none→H' Dl=some (nats tab)→Tab S.n D tab (fun v=>relT S c (v i) (v j))→Q (.ref Dl) H'
theorem ints_of {ys:List V} {P:Nat→Nat→Prop} (h:∀ (i:Nat) y,ys[i]? = some y→∃ m:Nat,y=.int (m:Int)∧P i m) : ∃ l:List Nat,ys=l.map (fun (z:Nat)=>V.int (z:Int))∧∀ (i:Nat) m,l[i]? = some m→P i m:=by
 refine ⟨ys.map fun v=>match v with | .int a=>a.toNat | _=>0,?_,fun i a ha=>?_⟩
 ·rw [List.map_map]
  symm
  apply List.ext_getElem?
  intro i
  rw [List.getElem?_map]
  cases e:ys[i]? with
  | none=>rfl
  | some y =>
   obtain ⟨a,rfl,_⟩:=h i y e
   simp
 ·rw [List.getElem?_map] at ha
  cases e:ys[i]? with
  | none=>rw [e] at ha;cases ha
  | some y =>
   rw [e] at ha
   obtain ⟨b,rfl,q⟩:=h i y e
   simp at ha
   rw [←ha];exact q
theorem ok_U_table_of (T:Txt P w K mg) : FM P w K mg base 4 "Truth" "table_of" ["self","step"] (sp_U_table_of K):=by
 refine T.x_U_table_of.F.ok sc_U_table_of (fun _ _ _ _ h=>ex8 h fun _ _ _ _ _ _ _ _ e=>e.1▸rfl) fun _ _ _ s H vs Q E hr zh=>ex8 zh fun u st c D i j lv S yh=>an8 yh fun vz ua sta lo iD jD D4 kq=>?_
 clear zh yh;subst vz
 refine ex4 ua fun dx p lw fp y=>an4 y fun hu sa hw n12=>?_
 obtain ⟨dp,la,hst,hla⟩:=id sta
 obtain ⟨ns,en,h0,m1,m2,x1,x2⟩:=lo.min
 have hla':SqL K H la (ns.map V.int):=by
  have:=SqL.of (K:=K) hla
  rwa [en,List.map_map]
 have dep:∀ {d},max i j < d→Dep d fun v=>relT S c (v i) (v j):=fun h v v' e=>by show relT S c (v i) (v j)=relT S c (v' i) (v' j);rw [e i (by omega),e j (by omega)]
 refine ⟨_,(pss_cons (ps_set (i:=2) sc_U_table_of.nd rfl (Or.inl rfl) (pe_op op_add (pe_callB (cr_max rfl) (by rfl) T.nb_max bt_max (pa_cons (pe_fld (pv 1) rfl) pa_nil)) pe_int))
   (pss_cons (ps_setLc (i:=3) rfl sc_U_table_of.nd rfl rfl (sw_true rfl rfl rfl rfl) (pi_range1 rfl T.nb_range (pa_cons (pe_fld (pv 0) rfl) pa_nil)) (blkOk_by (own:=[("x",4)]) rfl) (fun _ _ _ _ _=>(pg_name (i:=4) sc_U_table_of.nd rfl (Or.inl rfl))) (fun _ _ _ _ _=>pts_nil) (fun _ _ _ _ _=>(pe_meth (pv 0) T.c_U.cl T.x_U_row_of.m (ok_U_row_of T) (hr.mono (by decide)) T.x_U_row_of.b .nil pass0 (pa_cons (pv 1) (pa_cons (pv 4) pa_nil)))))
   (pss_cons (ps_for PassesOwn.never rfl (pi_range2 rfl T.nb_range (pa_cons (pv 2) (pa_cons (pe_fld (pv 1) rfl) pa_nil))) (pg_name (i:=5) sc_U_table_of.nd rfl (Or.inl rfl)) (pss_one (ps_set (i:=3) sc_U_table_of.nd rfl (Or.inl rfl) (pe_op op_rep (pe_lst (pa_cons (pe_meth (pv 0) T.c_U.cl T.x_U_joined.m (ok_U_joined T) (hr.mono (by decide)) T.x_U_joined.b .nil pass0 (pa_cons (pv 3) (pa_cons (pv 5) pa_nil))) pa_nil)) (pe_fld (pv 0) rfl)))))
   (pss_one (ps_ret (pv 3)))))),?_⟩
 walk_at "rd"
 simp only [hst,T.c_P.cl,T.n_P_sign,T.n_P_depth,T.n_P_levels,fs_P_sign,fs_P_depth,fs_P_levels,hpL,V.int.injEq,V.ref.injEq]
 refine ⟨la,ns,rfl,hla',h0,fun m' hm' hge=>?_⟩
 have em':m'=((max i j:Nat) : Int):=by have:=hge _ x1;have:=x2 m' hm';omega
 subst em'
 refine ⟨_,rfl,?_⟩
 refine tlc_ref (H1:=H) (J:=Itr 0 S.n) (n:=S.n) (fun _ x v _=>∃ m:Nat,v=.int (m:Int)∧Num S.n (max i j) m fun v=>relT S c (setv v (max i j) x i) (setv v (max i j) x j)) ?_ turns_range (by rw [sizeLine_eq];omega) gName_mono (fun _ _ _ _ _ h _=>h) ?_ fun D1 H1 ys hD1 k1 h1 n1 r1=>?_
 ·intro R q
  walk_at "ev"
  simp only [hu,T.c_U.cl,T.n_U_structure,T.n_U_size,T.n_U_ways,fs_U_structure,fs_U_size,fs_U_ways,hpL,V.int.injEq,V.ref.injEq]
  exact ⟨by omega,by omega,q⟩
 ·rintro D2 x _ H2 Q2 hx rfl hD k2 _ q
  have hu2:=k2 _ _ hu (by simp)
  refine ⟨rfl,?_⟩
  walk_at "rd"
  simp only [hu2,fU_row_of,T.c_U.cl,T.n_U_structure,T.n_U_size,T.n_U_ways,fs_U_structure,fs_U_size,fs_U_ways,hpL,V.int.injEq,V.ref.injEq]
  exact ⟨u,st,c,D,i,j,x,lv,S,by simp,ua.kp k2,sta.kp k2,lo,by omega,by omega,hx,fun H3 m k3 nm=>q _ H3 k3 ⟨m,rfl,nm⟩⟩
 obtain ⟨tab,et,ht⟩:=ints_of r1
 have t1:Tab S.n (max i j+1) tab fun v=>relT S c (v i) (v j):=⟨by rw [←n1,et,List.length_map],fun x m hm=>ht x m hm⟩
 rw [et] at h1
 have hst1:=k1 _ _ hst (by simp)
 refine tfor (J:=Itr ((max i j:Nat)+1:Int) (D - max i j - 1)) (H1:=H1) (n:=D - max i j - 1) H (fun t σ H'=>Kp [] H H'∧∃ tab Dl,H' Dl=some (nats tab)∧H Dl=none∧Tab S.n (max i j+1+t) tab (fun v=>relT S c (v i) (v j))∧∃ w,σ=[some (.ref u),some (.ref st),some (.int ((max i j:Nat)+1:Int)),some (.ref Dl),none,w]) ?_ turns_range ⟨k1,tab,D1,h1,hD1,t1,_,rfl⟩ (fun i σ H' h=>h.1) ?_ ?_
 ·intro R q
  refine ⟨_,dp,_,hst1,T.c_P.cl,T.n_P_depth,_,fs_P_depth,_,_,rfl,⟨by omega,by omega,(show -(2 ^ 62)≤(D:Int) by omega),(show (D:Int) < 2 ^ 62 by omega)⟩,?_⟩
  rw [show ((D:Int) - ((max i j:Nat)+1:Int)).toNat=D - max i j - 1 by omega]
  exact q
 ·rintro t _ _ H3 H4 hi ⟨k3,tab,Dl,hDl,hDl0,tb,w,rfl⟩ k4 rfl
  have k04:=k3.trans k4
  have hu4:=k04 _ _ hu (by simp)
  have hD4:=k4 _ _ hDl (by simp)
  walk_at "rd"
  simp only [hu4,fU_joined,T.c_U.cl,T.n_U_structure,T.n_U_size,T.n_U_ways,fs_U_structure,fs_U_size,fs_U_ways,hpL,V.int.injEq,V.ref.injEq]
  have td:max i j+1+t=(max i j+t)+1:=by omega
  rw [td] at tb
  refine ⟨u,Dl,max i j+t,S,tab,by rw [show ((max i j:Nat)+1:Int)+(t:Int)=((max i j+t+1:Nat) : Int) by omega],ua.kp k04,by omega,hD4,by rw [tb.1];exact n12,fun a ha=>?_,fun H5 k5=>?_⟩
  ·obtain ⟨x,hx⟩:=List.mem_iff_getElem?.mp ha
   exact (tb.2 x a hx).lt
  have nj:=Tab.joined tb
  refine ⟨by decide,fun q1 hq1=>?_⟩
  have hu5:=upd_old (o:=.lst [.int ((joinedN S.n (max i j+t) tab:Nat) : Int)]) (k5 _ _ hu4 (by simp)) hq1
  simp only [hu5,T.c_U.cl,T.n_U_structure,T.n_U_size,T.n_U_ways,fs_U_structure,fs_U_size,fs_U_ways,hpL,V.int.injEq,V.ref.injEq]
  refine ⟨_,upd_same,by omega,by omega,by rw [sizeLine_eq];simp;omega,fun q2 hq2=>?_⟩
  rw [rep_nats]
  have k46:Kp [] H5 (upd (upd H5 q1 (.lst [.int ((joinedN S.n (max i j+t) tab:Nat) : Int)])) q2 (nats (List.replicate S.n (joinedN S.n (max i j+t) tab)))):=((Kp.refl _).new hq1).new hq2
  refine ⟨(k04.trans k5).trans k46,_,q2,upd_same,(k04.trans k5).free ?_ (by simp),?_,rfl,_,rfl⟩
  ·cases e:H5 q2 with
   | none=>rfl
   | some o=>rw [upd_old e hq1] at hq2;cases hq2
  ·rw [show max i j+1+(t+1)=max i j+t+1+1 by omega]
   exact nj.rep (dep (by omega))
 ·rintro _ H3 ⟨k3,tab,Dl,hDl,hDl0,tb,w,rfl⟩
  rw [show max i j+1+(D - max i j - 1)=D by omega] at tb
  exact kq H3 Dl tab k3 hDl0 hDl tb
theorem fU_parted {a b c:V}:(fs_U a b c).lookup ("parted" : Str)=none:=rfl
theorem fU_table_of {a b c:V}:(fs_U a b c).lookup ("table_of" : Str)=none:=rfl
theorem fU_opposite {a b c:V}:(fs_U a b c).lookup ("opposite" : Str)=none:=rfl
theorem fU_over_points {a b c:V}:(fs_U a b c).lookup ("over_points" : Str)=none:=rfl
theorem fU_work {a b c:V}:(fs_U a b c).lookup ("work" : Str)=none:=rfl
theorem Tab.small {n d:Nat} {tab:List Nat} {φ:Vl→Bool} (h:Tab n d tab φ) (hn:n≤12) : tab.length≤12:=by
 cases d with
 | zero=>obtain ⟨m,rfl,_⟩:=h;simp
 | succ d=>rw [h.1];exact hn
def sp_U_opposite (K:Frag) : Sp:=fun vs H Q _=>∃ (u t:Addr) (d:Nat) (S:Struct) (tab:List Nat) (φ:Vl→Bool),vs=[.ref u,.ref t,.int d]∧UAt K H u S∧d≤4∧H t=some (nats tab)∧Tab S.n d tab φ ∧
 ∀ H' Dl tab',Kp [] H H'→H Dl=none→H' Dl=some (nats tab')→Tab S.n d tab' (fun v=>!φ v)→Q (.ref Dl) H'
theorem ok_U_opposite (T:Txt P w K mg) : FM P w K mg base 2 "Truth" "opposite" ["self","table","depth"] (sp_U_opposite K):=by
 refine T.x_U_opposite.F.ok sc_U_opposite (fun _ _ _ _ h=>ex6 h fun _ _ _ _ _ _ e=>e.1▸rfl) fun _ _ _ s H vs Q E hr zh=>ex6 zh fun u t d S tab φ yh=>an6 yh fun vz ua d4 ht tb kq=>?_
 clear zh yh;subst vz
 refine ex4 ua fun dx p lw fp y=>an4 y fun hu sa hw n12=>?_
 have hl:=tb.small n12
 refine ⟨_,(pss_cons (ps_set (i:=3) sc_U_opposite.nd rfl (Or.inr rfl) (pe_meth (pv 0) T.c_U.cl T.x_U_all_ways.m (ok_U_all_ways T) (hr.mono (by decide)) T.x_U_all_ways.b .nil pass0 (pa_cons (pe_callB (call_max2 rfl) (by rfl) T.nb_max bt_max (pa_cons (pe_op op_sub (pv 2) pe_int) (pa_cons pe_int pa_nil))) pa_nil)))
   (pss_one (ps_ret (pe_lc rfl sc_U_opposite.nd (pi_list (pv 1)) (blkOk_by (own:=[("part",4)]) rfl) (fun _ _ _ _ _=>(pg_name (i:=4) sc_U_opposite.nd rfl (Or.inl rfl))) (fun _ _ _ _ _=>pts_nil) (fun _ _ _ _ _=>(pe_op op_xor (pv 3) (pv 4))))))),?_⟩
 walk_at "rd"
 simp only [hu,fU_all_ways,T.c_U.cl,T.n_U_structure,T.n_U_size,T.n_U_ways,fs_U_structure,fs_U_size,fs_U_ways,hpL,V.int.injEq,V.ref.injEq]
 refine ⟨u,d - 1,S,?_,ua,by omega,?_⟩
 ·congr 3
  split <;> omega
 refine tlc_all (H1:=H) (J:=Itl K t) (n:=(tab.map fun (z:Nat)=>V.int (z:Int)).length) (fun i=>.int (((2 ^ S.n ^ (d - 1) - 1) ^^^ tab.getD i 0:Nat) : Int)) ?_ (turns_list (SqL.of ht)) (by rw [List.length_map,sizeLine_eq];omega) gName_mono ?_ fun Dl H1 hD k1 h1=>kq H1 Dl _ k1 hD ?_ (tb.opp fun _=>rfl)
 ·intro R q
  walk_at "ev"
  exact ⟨⟨_,SqL.of ht⟩,q⟩
 ·intro i y H2 Q2 hi hy k2 q
  obtain ⟨z,hz,rfl⟩ : ∃ z,tab[i]? = some z∧y=.int (z:Int):=by
   rw [List.getElem?_map] at hy
   cases e:tab[i]? with
   | none=>rw [e] at hy;cases hy
   | some z=>rw [e] at hy;cases hy;exact ⟨z,rfl,rfl⟩
  refine ⟨rfl,?_⟩
  walk_at "rd"
  rw [bxor]
  have:=q H2 (Kp.refl _)
  simpa [List.getD,hz] using this
 ·rw [h1,List.length_map]
  unfold nats
  congr 2
  apply List.ext_getElem?
  intro i
  rw [List.getElem?_map,List.map_map,List.getElem?_map]
  by_cases hi:i < tab.length
  ·simp [List.getElem?_range hi,List.getElem?_eq_getElem hi,List.getD]
  ·simp [hi,List.getElem?_eq_none (Nat.le_of_not_lt hi)]
theorem foldl_snoc {f:Nat→Nat→Nat} {l:List Nat} {i z m:Nat} (h:l[i]? = some z) : (l.take (i+1)).foldl f m=f ((l.take i).foldl f m) z:=by
 rw [List.take_add_one,h,Option.toList_some,List.foldl_append];rfl
def sp_U_over_points (K:Frag) : Sp:=fun vs H Q _=>∃ (u st t:Addr) (c d:Nat) (S:Struct) (tab:List Nat) (φ:Vl→Bool),vs=[.ref u,.ref st,.ref t]∧UAt K H u S∧StepAt K H st (c,d+1,[])∧d≤3∧(c=65∨c=83)∧H t=some (nats tab)∧Tab S.n (d+1) tab φ ∧
 ∀ H' Dl tab',Kp [] H H'→H Dl=none→H' Dl=some (nats tab')→Tab S.n d tab' (fun v=>if c=65 then (List.range S.n).all fun x=>φ (setv v d x) else (List.range S.n).any fun x=>φ (setv v d x))→Q (.ref Dl) H'
theorem cs_A {c:Nat}:(cs c=Str.ofString "A")=(c=65):=by rw [show Str.ofString "A" = cs 65 from rfl,cs_eq]
theorem ok_U_over_points (T:Txt P w K mg) : FM P w K mg base 3 "Truth" "over_points" ["self","step","table"] (sp_U_over_points K):=by
 refine T.x_U_over_points.F.ok sc_U_over_points (fun _ _ _ _ h=>ex8 h fun _ _ _ _ _ _ _ _ e=>e.1▸rfl) fun _ _ _ s H vs Q E hr zh=>ex8 zh fun u st t c d S tab φ yh=>an8 yh fun vz ua sta d3 hc ht tb kq=>?_
 clear zh yh;subst vz
 refine ex4 ua fun dx p lw fp y=>an4 y fun hu sa hw n12=>?_
 obtain ⟨dp,la,hst,hla⟩:=id sta
 have hl:=tb.small n12
 have fin:∀ {H' m w},Kp [] H H'→Num S.n d m (fun v=>if c=65 then (List.range S.n).all fun x=>φ (setv v d x) else (List.range S.n).any fun x=>φ (setv v d x)) →
   tMeth (cA K "Truth") "parted" (sp_U_parted K) [] E0 (tVar 0) (tCons (tVar 3) (tCons (tOp (rI0 fun i j=>.int (i - j)) (tFld K (tVar 1) "depth") (tC (.int 1))) tNil)) [some (.ref u),some (.ref st),some (.ref t),some (.int ((m:Nat) : Int)),w] H' Q:=fun {H' m w} k nm=>by
  refine ⟨dx,_,k _ _ hu (by simp),fU_parted,_,dp,_,k _ _ hst (by simp),T.c_P.cl,T.n_P_depth,_,fs_P_depth,u,m,d,S,?_,ua.kp k,by omega,fun H2 Dl k2 hD h2=>kq H2 Dl _ (k.trans k2) (k.free hD (by simp)) h2 nm.parted⟩
  show [V.ref u,V.int (m:Int),V.int (((d+1:Nat) : Int) - 1)]=_
  rw [show ((d+1:Nat) : Int) - 1=(d:Int) by omega]
 refine ⟨_,(pss_cons (ps_if (pt_cmpR op_eq (pe_fld (pv 1) rfl) pe_str (nomark _)) (pss_cons (ps_set (i:=3) sc_U_over_points.nd rfl (Or.inl rfl) (pe_meth (pv 0) T.c_U.cl T.x_U_all_ways.m (ok_U_all_ways T) (hr.mono (by decide)) T.x_U_all_ways.b .nil pass0 (pa_cons (pe_op op_sub (pe_fld (pv 1) rfl) pe_int) pa_nil)))
   (pss_one (ps_for PassesOwn.never rfl (pi_list (pv 2)) (pg_name (i:=4) sc_U_over_points.nd rfl (Or.inl rfl)) (pss_one (ps_aug (i:=3) sc_U_over_points.nd rfl (Or.inl rfl) (pv 4) ip_and))))) (pss_cons (ps_set (i:=3) sc_U_over_points.nd rfl (Or.inl rfl) pe_int)
   (pss_one (ps_for PassesOwn.never rfl (pi_list (pv 2)) (pg_name (i:=4) sc_U_over_points.nd rfl (Or.inl rfl)) (pss_one (ps_aug (i:=3) sc_U_over_points.nd rfl (Or.inl rfl) (pv 4) ip_or))))))
   (pss_one (ps_ret (pe_meth (pv 0) T.c_U.cl T.x_U_parted.m (ok_U_parted T) (hr.mono (by decide)) T.x_U_parted.b .nil pass0 (pa_cons (pv 3) (pa_cons (pe_op op_sub (pe_fld (pv 1) rfl) pe_int) pa_nil)))))),?_⟩
 walk_at "rd"
 simp only [cs_A,hst,T.c_P.cl,T.n_P_sign,T.n_P_depth,T.n_P_levels,fs_P_sign,fs_P_depth,fs_P_levels,V.str.injEq,hpL,V.int.injEq,V.ref.injEq]
 refine ⟨rfl,?_⟩
 by_cases ca:c=65
 ·rw [if_pos ca]
  refine ⟨_,_,hu,fU_all_ways,u,d,S,by rw [show ((d+1:Nat) : Int) - 1=(d:Int) by omega],ua,d3,?_⟩
  refine tfor (J:=Itl K t) (H1:=H) (n:=(tab.map fun (z:Nat)=>V.int (z:Int)).length) H (fun i σ H'=>Kp [] H H'∧∃ w,σ=[some (.ref u),some (.ref st),some (.ref t),some (.int (((tab.take i).foldl (· &&& ·) (2 ^ S.n ^ d - 1) : Nat) : Int)),w]) ?_ (turns_list (SqL.of ht)) ⟨Kp.refl _,_,rfl⟩ (fun i σ H' h=>h.1) ?_ ?_
  ·intro R q
   walk_at "ev"
   exact ⟨⟨_,SqL.of ht⟩,q⟩
  ·rintro i y _ H2 H3 hi ⟨k2,w,rfl⟩ k3 hy
   obtain ⟨z,hz,rfl⟩ : ∃ z,tab[i]? = some z∧y=.int (z:Int):=by
    rw [List.getElem?_map] at hy
    cases e:tab[i]? with
    | none=>rw [e] at hy;cases hy
    | some z=>rw [e] at hy;cases hy;exact ⟨z,rfl,rfl⟩
   walk_at "rd"
   refine ⟨k2.trans k3,?_,_,rfl⟩
   rw [band,foldl_snoc hz]
  ·rintro _ H2 ⟨k2,w,rfl⟩
   rw [List.length_map,List.take_length]
   exact fin k2 (tb.all.congr fun v _=>by rw [if_pos ca])
 ·rw [if_neg ca]
  refine tfor (J:=Itl K t) (H1:=H) (n:=(tab.map fun (z:Nat)=>V.int (z:Int)).length) H (fun i σ H'=>Kp [] H H'∧∃ w,σ=[some (.ref u),some (.ref st),some (.ref t),some (.int (((tab.take i).foldl (· ||| ·) 0:Nat) : Int)),w]) ?_ (turns_list (SqL.of ht)) ⟨Kp.refl _,_,rfl⟩ (fun i σ H' h=>h.1) ?_ ?_
  ·intro R q
   walk_at "ev"
   exact ⟨⟨_,SqL.of ht⟩,q⟩
  ·rintro i y _ H2 H3 hi ⟨k2,w,rfl⟩ k3 hy
   obtain ⟨z,hz,rfl⟩ : ∃ z,tab[i]? = some z∧y=.int (z:Int):=by
    rw [List.getElem?_map] at hy
    cases e:tab[i]? with
    | none=>rw [e] at hy;cases hy
    | some z=>rw [e] at hy;cases hy;exact ⟨z,rfl,rfl⟩
   walk_at "rd"
   refine ⟨k2.trans k3,?_,_,rfl⟩
   rw [bor,foldl_snoc hz]
  ·rintro _ H2 ⟨k2,w,rfl⟩
   rw [List.length_map,List.take_length]
   exact fin k2 (tb.any.congr fun v _=>by rw [if_neg ca])
def StkAt (H:Hp) (n:Nat) (rs:List Addr) (stk:List Sem) : Prop:=rs.length=stk.length∧∀ (i:Nat) r q,rs[i]? = some r→stk[i]? = some q→∃ tab,H r=some (nats tab)∧Tab n q.1 tab q.2
theorem StkAt.keep {H H':Hp} {n:Nat} {rs:List Addr} {stk:List Sem} {tb:Addr} (h:StkAt H n rs stk) (k:Kp [tb] H H') (nt:tb∉rs) : StkAt H' n rs stk :=
 ⟨h.1,fun i r q hr hq=>let ⟨tab,a,b⟩:=h.2 i r q hr hq;⟨tab,k r _ a (by simp only [List.mem_singleton];rintro rfl;exact nt (List.mem_of_getElem? hr)),b⟩⟩
theorem StkAt.push {H:Hp} {n D:Nat} {rs:List Addr} {stk:List Sem} {r:Addr} {tab:List Nat} {φ:Vl→Bool} (h:StkAt H n rs stk) (hr:H r=some (nats tab)) (ht:Tab n D tab φ) : StkAt H n (rs ++ [r]) (stk ++ [(D,φ)]):=by
 refine ⟨by simp [h.1],fun i s q hs hq=>?_⟩
 by_cases e:i < rs.length
 ·rw [List.getElem?_append_left e] at hs
  rw [List.getElem?_append_left (by rw [←h.1];exact e)] at hq
  exact h.2 i s q hs hq
 ·have:i=rs.length:=by have:=(List.getElem?_eq_some_iff.mp hs).1;simp at this;omega
  subst this
  simp at hs
  rw [h.1] at hq
  simp at hq
  subst hs hq
  exact ⟨tab,hr,ht⟩
theorem StkAt.pop {H:Hp} {n:Nat} {rs:List Addr} {stk:List Sem} {q:Sem} (h:StkAt H n rs (stk ++ [q])) : ∃ rs' r tab,rs=rs' ++ [r]∧StkAt H n rs' stk∧H r=some (nats tab)∧Tab n q.1 tab q.2:=by
 have hl:=h.1
 rw [List.length_append,List.length_singleton] at hl
 have hne:rs≠[]:=by intro e;rw [e] at hl;simp at hl
 have er:=(List.dropLast_concat_getLast hne).symm
 generalize hg:rs.getLast hne=r at er
 generalize hd:rs.dropLast=rs' at er
 subst er
 have l':rs'.length=stk.length:=by simp at hl;exact hl
 obtain ⟨tab,a,b⟩:=h.2 rs'.length r q (by simp) (by rw [l'];simp)
 refine ⟨rs',r,tab,rfl,⟨l',fun i s x hs hx=>h.2 i s x ?_ ?_⟩,a,b⟩
 ·rw [List.getElem?_append_left (List.getElem?_eq_some_iff.mp hs).1];exact hs
 ·rw [List.getElem?_append_left (List.getElem?_eq_some_iff.mp hx).1];exact hx
theorem kp_base {tb:Addr} {Hb H H':Hp} (k:Kp [] Hb H) (k':Kp [tb] H H') (h:Hb tb=none) : Kp [] Hb H':=fun b o e _=>k' b o (k b o e (by simp)) (by simp only [List.mem_singleton];rintro rfl;rw [h] at e;cases e)
theorem last_at {l:List Addr} {r:Addr}:((l ++ [r]).map V.ref)[((l ++ [r]).map V.ref).length - 1]? = some (.ref r)∧((l ++ [r]).map V.ref).dropLast=l.map V.ref:=by simp
theorem vs_ex {c:Nat}:(V.str (cs c)=V.str (Str.ofString "!"))=(c=33):=by rw [V.str.injEq,show Str.ofString "!" = cs 33 from rfl,cs_eq]
theorem vs_am {c:Nat}:(V.str (cs c)=V.str (Str.ofString "&"))=(c=38):=by rw [V.str.injEq,show Str.ofString "&" = cs 38 from rfl,cs_eq]
theorem vs_or {c:Nat}:(V.str (cs c)=V.str (Str.ofString "|"))=(c=124):=by rw [V.str.injEq,show Str.ofString "|" = cs 124 from rfl,cs_eq]
def sp_U_work (K:Frag) : Sp:=fun vs H Q _=>∃ (u st tb:Addr) (Hb:Hp) (q:StepP) (S:Struct) (rs:List Addr) (a b:List Sem),vs=[.ref u,.ref st,.ref tb]∧Kp [] Hb H∧Hb tb=none∧UAt K Hb u S∧StepAt K Hb st q∧H tb=some (.lst (rs.map V.ref))∧StkAt H S.n rs a∧tb∉rs∧rs.length≤1000∧AStep S q a b ∧
 ∀ H' rs',Kp [tb] H H'→H' tb=some (.lst (rs'.map V.ref))→StkAt H' S.n rs' b→tb∉rs'→rs'.length≤rs.length+1→Q .non H'
theorem ok_U_work (T:Txt P w K mg) : FM P w K mg base 5 "Truth" "work" ["self","step","tables"] (sp_U_work K):=by
 refine T.x_U_work.F.ok sc_U_work (fun _ _ _ _ h=>ex9 h fun _ _ _ _ _ _ _ _ _ e=>e.1▸rfl) fun _ _ _ s H vs Q E hr zh=>ex9 zh fun u st tb Hb q S rs a b yh=>an11 yh fun vz kb hb ua sta htb sk nt rl as kq=>?_
 clear zh yh;subst vz
 have ua0:=ua.kp kb
 have st0:=sta.kp kb
 refine ex4 ua0 fun dx p lw fp y=>an4 y fun hu sa hw n12=>?_
 obtain ⟨dp,la,hst,hla⟩:=id st0
 have back:∀ {H'},Kp [tb] H H'→UAt K H' u S∧StepAt K H' st q:=fun k=>⟨ua.kp (kp_base kb k hb),sta.kp (kp_base kb k hb)⟩
 have fin:∀ {H1 H2:Hp} {rs':List Addr} {stk:List Sem} {Dl:Addr} {tab:List Nat} {D:Nat} {φ:Vl→Bool},Kp [tb] H H1→H1 tb=some (.lst (rs'.map V.ref))→StkAt H1 S.n rs' stk→tb∉rs'→rs'.length≤rs.length→Kp [] H1 H2→H1 Dl=none→H2 Dl=some (nats tab)→Tab S.n D tab φ→b=stk ++ [(D,φ)] →
   ∃ x,H2 tb=some (.lst x)∧x.length < sizeLine∧Q .non (upd H2 tb (.lst (x ++ [.ref Dl]))):=fun {H1 H2 rs' stk Dl tab D φ} k1 h1 s1 n1 l1 k2 hD h2 tbl eb=>by
  have nd:tb≠Dl:=ne_of_none h1 hD
  refine ⟨_,k2 _ _ h1 (by simp),by rw [List.length_map,sizeLine_eq];omega,kq _ (rs' ++ [Dl]) ((k1.trans k2.of).set (by simp)) (by rw [upd_same];simp) ?_ (by simp only [List.mem_append,List.mem_singleton,not_or];exact ⟨n1,nd⟩) (by simp;omega)⟩
  rw [eb]
  exact ((s1.keep k2.of n1).push h2 tbl).keep (tb:=tb) ((Kp.refl _).set (by simp)) (by simp only [List.mem_append,List.mem_singleton,not_or];exact ⟨n1,nd⟩)
 refine ⟨_,(pss_cons (ps_if (pt_cmpR op_gt (pe_callB call_len_seq (by rfl) T.nb_len PySem.boot_len (pa_cons (pe_fld (pv 1) rfl) pa_nil)) pe_int (nomark _)) (pss_cons (ps_expr (pe_bm PySem.F.plainAttrs_list PySem.F.slot_list_append PySem.F.type_list_append mt_append (pv 2) (pa_cons (pe_meth (pv 0) T.c_U.cl T.x_U_table_of.m (ok_U_table_of T) (hr.mono (by decide)) T.x_U_table_of.b .nil pass0 (pa_cons (pv 1) pa_nil)) pa_nil)))
   (pss_one ps_retN)) pss_nil)
   (pss_cons (ps_set (i:=3) sc_U_work.nd rfl (Or.inl rfl) (pe_bm0 PySem.F.plainAttrs_list PySem.F.slot_list_pop PySem.F.type_list_pop mt_pop (pv 2)))
   (pss_one (ps_if (pt_cmpR op_eq (pe_fld (pv 1) rfl) pe_str (nomark _)) (pss_one (ps_expr (pe_bm PySem.F.plainAttrs_list PySem.F.slot_list_append PySem.F.type_list_append mt_append (pv 2) (pa_cons (pe_meth (pv 0) T.c_U.cl T.x_U_opposite.m (ok_U_opposite T) (hr.mono (by decide)) T.x_U_opposite.b .nil pass0 (pa_cons (pv 3) (pa_cons (pe_fld (pv 1) rfl) pa_nil))) pa_nil)))) (pss_one (ps_if (pt_cmpR op_eq (pe_fld (pv 1) rfl) pe_str (nomark _)) (pss_one (ps_expr (pe_bm PySem.F.plainAttrs_list PySem.F.slot_list_append PySem.F.type_list_append mt_append (pv 2) (pa_cons (pe_lc rfl sc_U_work.nd (pi_zip rfl T.nb_zip (pa_cons (pe_bm0 PySem.F.plainAttrs_list PySem.F.slot_list_pop PySem.F.type_list_pop mt_pop (pv 2)) (pa_cons (pv 3) pa_nil))) (blkOk_by (own:=[("part",4),("other",5)]) rfl) (fun _ _ _ _ _=>(show PG _ _ (gTup K 2 _) from pg_tup rfl (pgs_cons (pg_name (i:=4) sc_U_work.nd rfl (Or.inl rfl)) (pgs_cons (pg_name (i:=5) sc_U_work.nd rfl (Or.inl rfl)) pgs_nil)))) (fun _ _ _ _ _=>pts_nil) (fun _ _ _ _ _=>(pe_op op_and (pv 4) (pv 5)))) pa_nil)))) (pss_one (ps_if (pt_cmpR op_eq (pe_fld (pv 1) rfl) pe_str (nomark _)) (pss_one (ps_expr (pe_bm PySem.F.plainAttrs_list PySem.F.slot_list_append PySem.F.type_list_append mt_append (pv 2) (pa_cons (pe_lc rfl sc_U_work.nd (pi_zip rfl T.nb_zip (pa_cons (pe_bm0 PySem.F.plainAttrs_list PySem.F.slot_list_pop PySem.F.type_list_pop mt_pop (pv 2)) (pa_cons (pv 3) pa_nil))) (blkOk_by (own:=[("part",4),("other",5)]) rfl) (fun _ _ _ _ _=>(show PG _ _ (gTup K 2 _) from pg_tup rfl (pgs_cons (pg_name (i:=4) sc_U_work.nd rfl (Or.inl rfl)) (pgs_cons (pg_name (i:=5) sc_U_work.nd rfl (Or.inl rfl)) pgs_nil)))) (fun _ _ _ _ _=>pts_nil) (fun _ _ _ _ _=>(pe_op op_or (pv 4) (pv 5)))) pa_nil)))) (pss_one (ps_expr (pe_bm PySem.F.plainAttrs_list PySem.F.slot_list_append PySem.F.type_list_append mt_append (pv 2) (pa_cons (pe_meth (pv 0) T.c_U.cl T.x_U_over_points.m (ok_U_over_points T) (hr.mono (by decide)) T.x_U_over_points.b .nil pass0 (pa_cons (pv 1) (pa_cons (pv 3) pa_nil))) pa_nil)))))))))))),?_⟩
 walk_at "rd"
 simp only [hst,T.c_P.cl,T.n_P_sign,T.n_P_depth,T.n_P_levels,fs_P_sign,fs_P_depth,fs_P_levels,hpL,V.int.injEq,V.ref.injEq]
 refine ⟨_,.inl (SqL.of hla),?_⟩
 have ty:∀ {H' xs},H' tb=some (.lst xs)→tyV K "list" (.ref tb) H':=fun {H' xs} h=>.inl ⟨rfl,xs,SqL.of h⟩
 cases as with
 | @atom1 c D i stk hc iD D4 =>
  rw [if_pos (by simp)]
  exact ⟨ty htb,_,_,hu,fU_table_of,u,st,c,D,i,i,[i],S,rfl,ua0,st0,.inl ⟨rfl,rfl⟩,iD,iD,D4,fun H' Dl tab k1 hD h1 t1=>fin (Kp.refl _) htb sk nt (Nat.le_refl _) k1 hD h1 t1 rfl⟩
 | @atom2 c D i j stk hc iD jD D4 =>
  rw [if_pos (by simp)]
  exact ⟨ty htb,_,_,hu,fU_table_of,u,st,c,D,i,j,[i,j],S,rfl,ua0,st0,.inr rfl,iD,jD,D4,fun H' Dl tab k1 hD h1 t1=>fin (Kp.refl _) htb sk nt (Nat.le_refl _) k1 hD h1 t1 rfl⟩
 | @not D φ stk D4 =>
  obtain ⟨rs',r,tab,rfl,sk',hr',tbl⟩:=sk.pop
  simp only [List.mem_append,List.mem_singleton,not_or] at nt
  rw [if_neg (by simp)]
  refine ⟨ty htb,_,htb,_,last_at.1,?_⟩
  rw [last_at.2]
  have k1:Kp [tb] H (upd H tb (.lst (rs'.map V.ref))):=(Kp.refl _).set (by simp)
  have h1:upd H tb (.lst (rs'.map V.ref)) tb=some (.lst (rs'.map V.ref)):=upd_same
  generalize upd H tb (.lst (rs'.map V.ref))=H1 at k1 h1
  obtain ⟨ua1,dp1,la1,hst1,hla1⟩:=back k1
  obtain ⟨dx1,p1,lw1,fp1,hu1,_⟩:=id ua1
  have hr1:H1 r=some (nats tab):=k1 r _ hr' (by simp only [List.mem_singleton];exact Ne.symm nt.2)
  refine ⟨_,_,_,hst1,T.c_P.cl,T.n_P_sign,_,fs_P_sign,rfl,?_⟩
  rw [if_pos (by rw [vs_ex])]
  exact ⟨ty h1,_,_,hu1,fU_opposite,_,_,_,hst1,T.c_P.cl,T.n_P_depth,_,fs_P_depth,u,r,D,S,tab,φ,rfl,ua1,D4,hr1,tbl,fun H' Dl tab' k2 hD h2 t2=>fin k1 h1 (sk'.keep k1 nt.1) nt.1 (by simp) k2 hD h2 t2 rfl⟩
 | @both D φ ψ stk D4 =>
  rw [List.append_cons] at sk
  obtain ⟨rs',r2,tab2,rfl,sk',hr2,tbl2⟩:=sk.pop
  obtain ⟨rs'',r1,tab1,rfl,sk'',hr1,tbl1⟩:=sk'.pop
  simp only [List.mem_append,List.mem_singleton,not_or] at nt
  obtain ⟨⟨nt0,nt1⟩,nt2⟩:=nt
  rw [if_neg (by simp)]
  refine ⟨ty htb,_,htb,_,last_at.1,?_⟩
  rw [last_at.2]
  have k1:Kp [tb] H (upd H tb (.lst ((rs'' ++ [r1]).map V.ref))):=(Kp.refl _).set (by simp)
  have h1:upd H tb (.lst ((rs'' ++ [r1]).map V.ref)) tb=some (.lst ((rs'' ++ [r1]).map V.ref)):=upd_same
  generalize upd H tb (.lst ((rs'' ++ [r1]).map V.ref))=H1 at k1 h1
  obtain ⟨ua1,dp1,la1,hst1,hla1⟩:=back k1
  have k2:Kp [tb] H (upd H1 tb (.lst (rs''.map V.ref))):=k1.set (by simp)
  have h2:upd H1 tb (.lst (rs''.map V.ref)) tb=some (.lst (rs''.map V.ref)):=upd_same
  have e2:upd H1 tb (.lst ((rs'' ++ [r1]).map V.ref).dropLast)=upd H1 tb (.lst (rs''.map V.ref)):=by rw [last_at.2]
  have hr1':SqL K (upd H1 tb (.lst (rs''.map V.ref))) r1 (tab1.map fun (z:Nat)=>V.int (z:Int)):=SqL.of (k2 _ _ hr1 (by simp only [List.mem_singleton];exact Ne.symm nt1))
  have hr2':SqL K (upd H1 tb (.lst (rs''.map V.ref))) r2 (tab2.map fun (z:Nat)=>V.int (z:Int)):=SqL.of (k2 _ _ hr2 (by simp only [List.mem_singleton];exact Ne.symm nt2))
  have le:tab1.length=tab2.length:=tbl1.len tbl2
  have l12:=tbl1.small n12
  refine ⟨_,_,_,hst1,T.c_P.cl,T.n_P_sign,_,fs_P_sign,rfl,?_⟩
  rw [if_neg (by rw [vs_ex];simp)]
  refine ⟨_,_,_,hst1,T.c_P.cl,T.n_P_sign,_,fs_P_sign,rfl,?_⟩
  rw [if_pos (by rw [vs_am])]
  refine ⟨ty h1,tlc_all (H1:=upd H1 tb (.lst (rs''.map V.ref))) (J:=Itz K r1 r2) (n:=(tab1.map fun (z:Nat)=>V.int (z:Int)).length) (fun i=>.int ((tab1.getD i 0 &&& tab2.getD i 0:Nat) : Int)) ?_ (turns_zip hr1' hr2' (by simp [le])) (by rw [List.length_map,sizeLine_eq];omega) gTup2_mono ?_ fun Dl H3 hD k3 h3=>fin k2 h2 (sk''.keep k2 nt0) nt0 (by simp) k3 hD (tab:=List.zipWith (· &&& ·) tab1 tab2) ?_ (Tab.zip (fun d a b φ ψ=>Num.and) tbl1 tbl2) rfl⟩
  ·intro R qq
   rw [←e2] at qq
   exact ⟨ty h1,_,h1,_,last_at.1,r1,r2,_,_,rfl,by rw [e2];exact hr1',by rw [e2];exact hr2',qq⟩
  ·rintro i _ H4 Q4 hi ⟨Tp,y,z,rfl,hT,hy,hz⟩ k4 q
   obtain ⟨m1,hm1,rfl⟩ : ∃ m,tab1[i]? = some m∧y=.int (m:Int):=by
    rw [List.getElem?_map] at hy
    cases e:tab1[i]? with
    | none=>rw [e] at hy;cases hy
    | some z=>rw [e] at hy;cases hy;exact ⟨z,rfl,rfl⟩
   obtain ⟨m2,hm2,rfl⟩ : ∃ m,tab2[i]? = some m∧z=.int (m:Int):=by
    rw [List.getElem?_map] at hz
    cases e:tab2[i]? with
    | none=>rw [e] at hz;cases hz
    | some z=>rw [e] at hz;cases hz;exact ⟨z,rfl,rfl⟩
   refine ⟨Tp,[.int (m1:Int),.int (m2:Int)],rfl,SqT.of hT,rfl,_,_,rfl,_,_,rfl,rfl,rfl,?_⟩
   show Q4 (V.int (Builtin.bitAnd (m1:Int) (m2:Int))) H4
   rw [band]
   have:=q H4 (Kp.refl _)
   simpa [List.getD,hm1,hm2] using this
  ·rw [h3,List.length_map]
   unfold nats
   congr 2
   apply List.ext_getElem?
   intro i
   rw [List.getElem?_map,List.getElem?_map,List.getElem?_zipWith]
   by_cases hi:i < tab1.length
   ·simp [List.getElem?_range hi,List.getElem?_eq_getElem hi,List.getElem?_eq_getElem (show i < tab2.length by omega),List.getD]
   ·simp [hi,List.getElem?_eq_none (Nat.le_of_not_lt hi)]
 | @either D φ ψ stk D4 =>
  rw [List.append_cons] at sk
  obtain ⟨rs',r2,tab2,rfl,sk',hr2,tbl2⟩:=sk.pop
  obtain ⟨rs'',r1,tab1,rfl,sk'',hr1,tbl1⟩:=sk'.pop
  simp only [List.mem_append,List.mem_singleton,not_or] at nt
  obtain ⟨⟨nt0,nt1⟩,nt2⟩:=nt
  rw [if_neg (by simp)]
  refine ⟨ty htb,_,htb,_,last_at.1,?_⟩
  rw [last_at.2]
  have k1:Kp [tb] H (upd H tb (.lst ((rs'' ++ [r1]).map V.ref))):=(Kp.refl _).set (by simp)
  have h1:upd H tb (.lst ((rs'' ++ [r1]).map V.ref)) tb=some (.lst ((rs'' ++ [r1]).map V.ref)):=upd_same
  generalize upd H tb (.lst ((rs'' ++ [r1]).map V.ref))=H1 at k1 h1
  obtain ⟨ua1,dp1,la1,hst1,hla1⟩:=back k1
  have k2:Kp [tb] H (upd H1 tb (.lst (rs''.map V.ref))):=k1.set (by simp)
  have h2:upd H1 tb (.lst (rs''.map V.ref)) tb=some (.lst (rs''.map V.ref)):=upd_same
  have e2:upd H1 tb (.lst ((rs'' ++ [r1]).map V.ref).dropLast)=upd H1 tb (.lst (rs''.map V.ref)):=by rw [last_at.2]
  have hr1':SqL K (upd H1 tb (.lst (rs''.map V.ref))) r1 (tab1.map fun (z:Nat)=>V.int (z:Int)):=SqL.of (k2 _ _ hr1 (by simp only [List.mem_singleton];exact Ne.symm nt1))
  have hr2':SqL K (upd H1 tb (.lst (rs''.map V.ref))) r2 (tab2.map fun (z:Nat)=>V.int (z:Int)):=SqL.of (k2 _ _ hr2 (by simp only [List.mem_singleton];exact Ne.symm nt2))
  have le:tab1.length=tab2.length:=tbl1.len tbl2
  have l12:=tbl1.small n12
  refine ⟨_,_,_,hst1,T.c_P.cl,T.n_P_sign,_,fs_P_sign,rfl,?_⟩
  rw [if_neg (by rw [vs_ex];simp)]
  refine ⟨_,_,_,hst1,T.c_P.cl,T.n_P_sign,_,fs_P_sign,rfl,?_⟩
  rw [if_neg (by rw [vs_am];simp)]
  refine ⟨_,_,_,hst1,T.c_P.cl,T.n_P_sign,_,fs_P_sign,rfl,?_⟩
  rw [if_pos (by rw [vs_or])]
  refine ⟨ty h1,tlc_all (H1:=upd H1 tb (.lst (rs''.map V.ref))) (J:=Itz K r1 r2) (n:=(tab1.map fun (z:Nat)=>V.int (z:Int)).length) (fun i=>.int ((tab1.getD i 0 ||| tab2.getD i 0:Nat) : Int)) ?_ (turns_zip hr1' hr2' (by simp [le])) (by rw [List.length_map,sizeLine_eq];omega) gTup2_mono ?_ fun Dl H3 hD k3 h3=>fin k2 h2 (sk''.keep k2 nt0) nt0 (by simp) k3 hD (tab:=List.zipWith (· ||| ·) tab1 tab2) ?_ (Tab.zip (fun d a b φ ψ=>Num.or) tbl1 tbl2) rfl⟩
  ·intro R qq
   rw [←e2] at qq
   exact ⟨ty h1,_,h1,_,last_at.1,r1,r2,_,_,rfl,by rw [e2];exact hr1',by rw [e2];exact hr2',qq⟩
  ·rintro i _ H4 Q4 hi ⟨Tp,y,z,rfl,hT,hy,hz⟩ k4 q
   obtain ⟨m1,hm1,rfl⟩ : ∃ m,tab1[i]? = some m∧y=.int (m:Int):=by
    rw [List.getElem?_map] at hy
    cases e:tab1[i]? with
    | none=>rw [e] at hy;cases hy
    | some z=>rw [e] at hy;cases hy;exact ⟨z,rfl,rfl⟩
   obtain ⟨m2,hm2,rfl⟩ : ∃ m,tab2[i]? = some m∧z=.int (m:Int):=by
    rw [List.getElem?_map] at hz
    cases e:tab2[i]? with
    | none=>rw [e] at hz;cases hz
    | some z=>rw [e] at hz;cases hz;exact ⟨z,rfl,rfl⟩
   refine ⟨Tp,[.int (m1:Int),.int (m2:Int)],rfl,SqT.of hT,rfl,_,_,rfl,_,_,rfl,rfl,rfl,?_⟩
   show Q4 (V.int (Builtin.bitOr (m1:Int) (m2:Int))) H4
   rw [bor]
   have:=q H4 (Kp.refl _)
   simpa [List.getD,hm1,hm2] using this
  ·rw [h3,List.length_map]
   unfold nats
   congr 2
   apply List.ext_getElem?
   intro i
   rw [List.getElem?_map,List.getElem?_map,List.getElem?_zipWith]
   by_cases hi:i < tab1.length
   ·simp [List.getElem?_range hi,List.getElem?_eq_getElem hi,List.getElem?_eq_getElem (show i < tab2.length by omega),List.getD]
   ·simp [hi,List.getElem?_eq_none (Nat.le_of_not_lt hi)]
 | @all D φ stk D4 =>
  obtain ⟨rs',r,tab,rfl,sk',hr',tbl⟩:=sk.pop
  simp only [List.mem_append,List.mem_singleton,not_or] at nt
  rw [if_neg (by simp)]
  refine ⟨ty htb,_,htb,_,last_at.1,?_⟩
  rw [last_at.2]
  have k1:Kp [tb] H (upd H tb (.lst (rs'.map V.ref))):=(Kp.refl _).set (by simp)
  have h1:upd H tb (.lst (rs'.map V.ref)) tb=some (.lst (rs'.map V.ref)):=upd_same
  generalize upd H tb (.lst (rs'.map V.ref))=H1 at k1 h1
  obtain ⟨ua1,st1⟩:=back k1
  obtain ⟨dp1,la1,hst1,hla1⟩:=id st1
  obtain ⟨dx1,p1,lw1,fp1,hu1,_⟩:=id ua1
  have hr1:H1 r=some (nats tab):=k1 r _ hr' (by simp only [List.mem_singleton];exact Ne.symm nt.2)
  refine ⟨_,_,_,hst1,T.c_P.cl,T.n_P_sign,_,fs_P_sign,rfl,?_⟩
  rw [if_neg (by rw [vs_ex];simp)]
  refine ⟨_,_,_,hst1,T.c_P.cl,T.n_P_sign,_,fs_P_sign,rfl,?_⟩
  rw [if_neg (by rw [vs_am];simp)]
  refine ⟨_,_,_,hst1,T.c_P.cl,T.n_P_sign,_,fs_P_sign,rfl,?_⟩
  rw [if_neg (by rw [vs_or];simp)]
  exact ⟨ty h1,_,_,hu1,fU_over_points,u,st,r,65,D,S,tab,φ,rfl,ua1,st1,by omega,by decide,hr1,tbl,fun H' Dl tab' k2 hD h2 t2=>fin k1 h1 (sk'.keep k1 nt.1) nt.1 (by simp) k2 hD h2 (t2.congr fun v _=>by rw [if_pos rfl]) rfl⟩
 | @some D φ stk D4 =>
  obtain ⟨rs',r,tab,rfl,sk',hr',tbl⟩:=sk.pop
  simp only [List.mem_append,List.mem_singleton,not_or] at nt
  rw [if_neg (by simp)]
  refine ⟨ty htb,_,htb,_,last_at.1,?_⟩
  rw [last_at.2]
  have k1:Kp [tb] H (upd H tb (.lst (rs'.map V.ref))):=(Kp.refl _).set (by simp)
  have h1:upd H tb (.lst (rs'.map V.ref)) tb=some (.lst (rs'.map V.ref)):=upd_same
  generalize upd H tb (.lst (rs'.map V.ref))=H1 at k1 h1
  obtain ⟨ua1,st1⟩:=back k1
  obtain ⟨dp1,la1,hst1,hla1⟩:=id st1
  obtain ⟨dx1,p1,lw1,fp1,hu1,_⟩:=id ua1
  have hr1:H1 r=some (nats tab):=k1 r _ hr' (by simp only [List.mem_singleton];exact Ne.symm nt.2)
  refine ⟨_,_,_,hst1,T.c_P.cl,T.n_P_sign,_,fs_P_sign,rfl,?_⟩
  rw [if_neg (by rw [vs_ex];simp)]
  refine ⟨_,_,_,hst1,T.c_P.cl,T.n_P_sign,_,fs_P_sign,rfl,?_⟩
  rw [if_neg (by rw [vs_am];simp)]
  refine ⟨_,_,_,hst1,T.c_P.cl,T.n_P_sign,_,fs_P_sign,rfl,?_⟩
  rw [if_neg (by rw [vs_or];simp)]
  exact ⟨ty h1,_,_,hu1,fU_over_points,u,st,r,83,D,S,tab,φ,rfl,ua1,st1,by omega,by decide,hr1,tbl,fun H' Dl tab' k2 hD h2 t2=>fin k1 h1 (sk'.keep k1 nt.1) nt.1 (by simp) k2 hD h2 (t2.congr fun v _=>by rw [if_neg (by decide)]) rfl⟩
theorem post_len :∀ (f:Rc82.Form) (sc:List Nat),(post sc f).length≤(Rc82.written f).length:=by
 intro f
 induction f with
 | arc x y=>intro sc;simp [post,Rc82.written]
 | same x y=>intro sc;simp [post,Rc82.written]
 | first x=>intro sc;simp [post,Rc82.written]
 | second x=>intro sc;simp [post,Rc82.written]
 | not_ f ih=>intro sc;have:=ih sc;simp [post,Rc82.written];omega
 | both f g i j=>intro sc;have:=i sc;have:=j sc;simp [post,Rc82.written];omega
 | either f g i j=>intro sc;have:=i sc;have:=j sc;simp [post,Rc82.written];omega
 | all_ x f ih=>intro sc;have:=ih ((117+x) :: sc);simp [post,Rc82.written];omega
 | some_ x f ih=>intro sc;have:=ih ((117+x) :: sc);simp [post,Rc82.written];omega
def SenAt (K:Frag) (H:Hp) (s:Addr) (f:Rc82.Form) : Prop:=∃ (dx lc ls:Addr) (as:List Addr),H s=some (.ins (cA K "Sentence") dx (fs_N (.ref lc) (.int (Rc82.rank f:Int)) (.ref ls)))∧H lc=some (nats (Rc82.written f))∧H ls=some (.lst (as.map V.ref))∧as.length=(post [] f).length∧(∀ (i:Nat) a q,as[i]? = some a→(post [] f)[i]? = some q→StepAt K H a q)∧Rc82.sentence (Rc82.written f)=some f∧(Rc82.written f).length≤256
theorem SenAt.kp {H H':Hp} {s:Addr} {f:Rc82.Form} (h:SenAt K H s f) (k:Kp [] H H') : SenAt K H' s f:=by
 obtain ⟨dx,lc,ls,as,a,b,c,d,e,g⟩:=h
 exact ⟨dx,lc,ls,as,k _ _ a (by simp),k _ _ b (by simp),k _ _ c (by simp),d,fun i x q h1 h2=>(e i x q h1 h2).kp k,g⟩
theorem made_kp {H H1:Hp} {x dx C:Addr} (hx:H x=none) (hd:H dx=none) (k:Kp [x] (upd (upd H dx (.own x)) x (.ins C dx [])) H1) : Kp [] H H1:=fun b o e _=>by
 have nx:b≠x:=ne_of_none e hx
 have nd:b≠dx:=ne_of_none e hd
 exact k b o (by rw [upd_ne nx,upd_ne nd];exact e) (by simpa using nx)
def sp_is_so (K:Frag) : Sp:=fun vs H Q _=>∃ (s p:Addr) (f:Rc82.Form) (S:Struct) (fp:List Addr),vs=[.ref s,.ref p]∧SenAt K H s f∧StrAt K H p S fp∧S.n≤12∧∀ H',Kp [] H H'→Q (.bl (Rc82.holds S f)) H'
theorem ok_is_so (T:Txt P w K mg) : FF P w K mg base 6 "is_so" ["sentence","structure"] (sp_is_so K):=by
 refine T.x_is_so.F.ok sc_is_so (fun _ _ _ _ h=>ex5 h fun _ _ _ _ _ e=>e.1▸rfl) fun _ _ _ s H vs Q E hr zh=>ex5 zh fun s p f S fp yh=>an5 yh fun vz sen sa n12 kq=>?_
 clear zh yh;subst vz
 refine ⟨_,(pss_cons (ps_set (i:=2) sc_is_so.nd rfl (Or.inl rfl) (pe_make T.c_U.mkr (ok_U_init T) (hr.mono (by decide)) rfl T.c_U.c T.x_U_init.b .nil pass0 (pa_cons (pv 1) pa_nil)))
   (pss_cons (ps_set (i:=3) sc_is_so.nd rfl (Or.inl rfl) (pe_lst pa_nil))
   (pss_cons (ps_for PassesOwn.never rfl (pi_list (pe_fld (pv 0) rfl)) (pg_name (i:=4) sc_is_so.nd rfl (Or.inl rfl)) (pss_one (ps_expr (pe_meth (pv 2) T.c_U.cl T.x_U_work.m (ok_U_work T) (hr.mono (by decide)) T.x_U_work.b .nil pass0 (pa_cons (pv 4) (pa_cons (pv 3) pa_nil))))))
   (pss_one (ps_ret (pe_cmpR (op_eqD hr.units) (pe_ix ix_list (pv 3) pe_int (fun _ _=>rfl)) (pe_lst (pa_cons pe_int pa_nil)) (nomark _))))))),?_⟩
 walk_at "rd"
 intro u du hu0 hd0 hne
 refine ⟨u,du,p,S,fp,rfl,upd_same,?_,n12,fun H1 ua k1=>?_⟩
 ·exact sa.kp (((Kp.refl _).new hd0).new (by rw [upd_ne (Ne.symm hne)];exact hu0))
 have kH1:=made_kp hu0 hd0 k1
 refine ⟨rfl,Nat.zero_le _,fun tb htb=>?_⟩
 obtain ⟨dx,lc,ls,as,hs,hlc,hls,hal,hst,hsen,h256⟩:=sen.kp kH1
 obtain ⟨φ,ev,hφ⟩:=eval_sen (S:=S) hsen
 have pl:=post_len f []
 have k12:Kp [] H1 (upd H1 tb (.lst [])):=(Kp.refl _).new htb
 refine tfor (J:=Itl K ls) (H1:=upd H1 tb (.lst [])) (n:=(as.map V.ref).length) H1 (fun i σ H'=>Kp [] H1 H'∧(∃ rs a,H' tb=some (.lst (rs.map V.ref))∧StkAt H' S.n rs a∧tb∉rs∧rs.length≤i∧AEval S ((post [] f).drop i) a [(0,φ)])∧∃ w,σ=[some (.ref s),some (.ref p),some (.ref u),some (.ref tb),w]) ?_ (turns_list (SqL.of hls)) ⟨k12,⟨[],[],upd_same,⟨rfl,fun i r q h=>by simp at h⟩,by simp,Nat.le_refl _,ev⟩,_,rfl⟩ (fun i σ H' h=>h.1) ?_ ?_
 ·intro R q
  have hs2:=k12 _ _ hs (by simp)
  exact ⟨_,dx,_,hs2,T.c_N.cl,T.n_N_steps,_,fs_N_steps,ls,rfl,⟨_,SqL.of (k12 _ _ hls (by simp))⟩,q⟩
 ·rintro i y _ H2 H3 hi ⟨k2,⟨rs,a,h2,st2,n2,l2,ev2⟩,w,rfl⟩ k3 hy
  rw [List.length_map] at hi
  obtain ⟨x,hx,rfl⟩ : ∃ x,as[i]? = some x∧y=.ref x:=by
   rw [List.getElem?_map] at hy
   cases e:as[i]? with
   | none=>rw [e] at hy;cases hy
   | some z=>rw [e] at hy;cases hy;exact ⟨z,rfl,rfl⟩
  have hip:i < (post [] f).length:=by omega
  rw [List.drop_eq_getElem_cons hip] at ev2
  have hq:(post [] f)[i]? = some (post [] f)[i]:=List.getElem?_eq_getElem hip
  generalize (post [] f)[i]=q at ev2 hq
  cases ev2 with
  | @cons _ _ _ b _ as1 ev3 =>
   have k03:=k2.trans k3
   have ua3:=ua.kp k03
   obtain ⟨dx3,p3,lw3,fp3,hu3,_⟩:=id ua3
   walk_at "rd"
   simp only [hu3,fU_work,T.c_U.cl,T.n_U_structure,T.n_U_size,T.n_U_ways,fs_U_structure,fs_U_size,fs_U_ways,hpL,V.int.injEq,V.ref.injEq]
   exact ⟨u,x,tb,H1,q,S,rs,a,b,rfl,k03,htb,ua,hst i x q hx hq,k3 _ _ h2 (by simp),st2.keep (tb:=tb) k3.of n2,n2,by omega,as1,fun H4 rs' k4 h4 st4 n4 l4=>⟨kp_base k03 k4 htb,⟨rs',h4,b,st4,n4,by omega,ev3⟩,_,rfl⟩⟩
 ·rintro _ H2 ⟨k2,⟨rs,a,h2,st2,n2,l2,ev2⟩,w,rfl⟩
  rw [List.length_map,hal,List.drop_length] at ev2
  cases ev2
  obtain ⟨rs',r,tab,rfl,st3,hr',tbl⟩:=StkAt.pop (stk:=[]) st2
  have:rs'=[]:=List.length_eq_zero_iff.mp st3.1
  subst this
  have et:tab=[if φ (fun _=>0)=true then 1 else 0]:=tab_zero tbl (fun _=>0)
  rw [hφ] at et
  walk_at "rd"
  refine ⟨_,SqL.of h2,_,atI_nat (j:=0) rfl,by decide,fun l1 hl1=>?_⟩
  refine ⟨.list [.int ((if Rc82.holds S f=true then 1 else 0:Nat) : Int)],.list [.int 1],.lst (SqL.of (upd_old hr' hl1)) (by rw [et];exact .cons (.int _) .nil),.lst (SqL.of upd_same) (.cons (.int _) .nil),rfl,rfl,?_⟩
  have:=kq _ ((kH1.trans k2).new (o:=.lst [V.int 1]) hl1)
  revert this
  cases Rc82.holds S f <;> exact id
structure RdX (K:Frag) (H0 H:Hp) (r dx ls le lsc lb lr ld:Addr) (n dp:Int) (vs ve vc vb vl:List V) (ds:List Addr) (dn:List StepP) : Prop where
 hr:H r=some (.ins (cA K "Reader") dx (fs_R (.ref ls) (.int n) (.ref le) (.ref lsc) (.int dp) (.ref lb) (.ref lr) (.ref ld)))
 hs:H ls=some (.lst vs)
 he:H le=some (.lst ve)
 hc:H lsc=some (.lst vc)
 hb:H lb=some (.lst vb)
 hl:H lr=some (.lst vl)
 hd:H ld=some (.lst (ds.map V.ref))
 st:ds.length=dn.length∧∀ (i:Nat) d q,ds[i]? = some d→dn[i]? = some q→∃ dy la,H d=some (.ins (cA K "Step") dy (fs_P (.str (cs q.1)) (.int q.2.1) (.ref la)))∧H la=some (nats q.2.2)∧la∉[ls,le,lsc,lb,lr,ld]∧H0 la=none∧H0 d=none
 nd : [ls,le,lsc,lb,lr,ld].Nodup
 fr:∀ x∈[r,ls,le,lsc,lb,lr,ld],H0 x=none
 kp:Kp [] H0 H
section
variable {H0 H H':Hp} {r dx ls le lsc lb lr ld:Addr} {n dp:Int} {vs ve vc vb vl:List V} {ds:List Addr} {dn:List StepP}
theorem RdX.kp' (h:RdX K H0 H r dx ls le lsc lb lr ld n dp vs ve vc vb vl ds dn) (k:Kp [] H H') : RdX K H0 H' r dx ls le lsc lb lr ld n dp vs ve vc vb vl ds dn :=
 ⟨k _ _ h.hr (by simp),k _ _ h.hs (by simp),k _ _ h.he (by simp),k _ _ h.hc (by simp),k _ _ h.hb (by simp),k _ _ h.hl (by simp),k _ _ h.hd (by simp),⟨h.st.1,fun i d q hd hq=>let ⟨dy,la,a,b,c⟩:=h.st.2 i d q hd hq;⟨dy,la,k _ _ a (by simp),k _ _ b (by simp),c⟩⟩,h.nd,h.fr,h.kp.trans k⟩
theorem RdX.obj (h:RdX K H0 H r dx ls le lsc lb lr ld n dp vs ve vc vb vl ds dn) (n' dp':Int) : RdX K H0 (upd H r (.ins (cA K "Reader") dx (fs_R (.ref ls) (.int n') (.ref le) (.ref lsc) (.int dp') (.ref lb) (.ref lr) (.ref ld)))) r dx ls le lsc lb lr ld n' dp' vs ve vc vb vl ds dn:=by
 have k:∀ b xs,H b=some (.lst xs)→upd H r (.ins (cA K "Reader") dx (fs_R (.ref ls) (.int n') (.ref le) (.ref lsc) (.int dp') (.ref lb) (.ref lr) (.ref ld))) b=some (.lst xs):=fun b xs e=>by rw [upd_ne (ne_of e h.hr (by intro z;cases z))];exact e
 refine ⟨upd_same,k _ _ h.hs,k _ _ h.he,k _ _ h.hc,k _ _ h.hb,k _ _ h.hl,k _ _ h.hd,⟨h.st.1,fun i d q hd hq=>?_⟩,h.nd,h.fr,h.kp.young (h.fr _ (by simp))⟩
 obtain ⟨dy,la,a1,a2,a3⟩:=h.st.2 i d q hd hq
 exact ⟨dy,la,by rw [upd_ne (ne_of a1 h.hr (by intro z;injection z with _ _ z;cases z))];exact a1,k _ _ a2,a3⟩
theorem RdX.setE (h:RdX K H0 H r dx ls le lsc lb lr ld n dp vs ve vc vb vl ds dn) (v':List V) : RdX K H0 (upd H le (.lst v')) r dx ls le lsc lb lr ld n dp vs v' vc vb vl ds dn:=by
 have nd:=h.nd
 simp only [List.nodup_cons,List.mem_cons,List.not_mem_nil,or_false,not_or,List.nodup_nil,and_true,not_false_eq_true] at nd
 obtain ⟨⟨n1,n2,n3,n4,n5⟩,⟨n6,n7,n8,n9⟩,⟨n10,n11,n12⟩,⟨n13,n14⟩,n15⟩:=nd
 refine ⟨by rw [upd_ne (ne_of h.hr h.he (by intro z;cases z))];exact h.hr,by rw [upd_ne n1];exact h.hs,upd_same,by rw [upd_ne (Ne.symm n6)];exact h.hc,by rw [upd_ne (Ne.symm n7)];exact h.hb,by rw [upd_ne (Ne.symm n8)];exact h.hl,by rw [upd_ne (Ne.symm n9)];exact h.hd,⟨h.st.1,fun i d q hd hq=>?_⟩,h.nd,h.fr,h.kp.young (h.fr _ (by simp))⟩
 obtain ⟨dy,la,a1,a2,a3⟩:=h.st.2 i d q hd hq
 exact ⟨dy,la,by rw [upd_ne (ne_of a1 h.he (by intro z;cases z))];exact a1,by rw [upd_ne (fun z=>a3.1 (by rw [z];simp))];exact a2,a3⟩
theorem RdX.setC (h:RdX K H0 H r dx ls le lsc lb lr ld n dp vs ve vc vb vl ds dn) (v':List V) : RdX K H0 (upd H lsc (.lst v')) r dx ls le lsc lb lr ld n dp vs ve v' vb vl ds dn:=by
 have nd:=h.nd
 simp only [List.nodup_cons,List.mem_cons,List.not_mem_nil,or_false,not_or,List.nodup_nil,and_true,not_false_eq_true] at nd
 obtain ⟨⟨n1,n2,n3,n4,n5⟩,⟨n6,n7,n8,n9⟩,⟨n10,n11,n12⟩,⟨n13,n14⟩,n15⟩:=nd
 refine ⟨by rw [upd_ne (ne_of h.hr h.hc (by intro z;cases z))];exact h.hr,by rw [upd_ne n2];exact h.hs,by rw [upd_ne n6];exact h.he,upd_same,by rw [upd_ne (Ne.symm n10)];exact h.hb,by rw [upd_ne (Ne.symm n11)];exact h.hl,by rw [upd_ne (Ne.symm n12)];exact h.hd,⟨h.st.1,fun i d q hd hq=>?_⟩,h.nd,h.fr,h.kp.young (h.fr _ (by simp))⟩
 obtain ⟨dy,la,a1,a2,a3⟩:=h.st.2 i d q hd hq
 exact ⟨dy,la,by rw [upd_ne (ne_of a1 h.hc (by intro z;cases z))];exact a1,by rw [upd_ne (fun z=>a3.1 (by rw [z];simp))];exact a2,a3⟩
theorem RdX.setB (h:RdX K H0 H r dx ls le lsc lb lr ld n dp vs ve vc vb vl ds dn) (v':List V) : RdX K H0 (upd H lb (.lst v')) r dx ls le lsc lb lr ld n dp vs ve vc v' vl ds dn:=by
 have nd:=h.nd
 simp only [List.nodup_cons,List.mem_cons,List.not_mem_nil,or_false,not_or,List.nodup_nil,and_true,not_false_eq_true] at nd
 obtain ⟨⟨n1,n2,n3,n4,n5⟩,⟨n6,n7,n8,n9⟩,⟨n10,n11,n12⟩,⟨n13,n14⟩,n15⟩:=nd
 refine ⟨by rw [upd_ne (ne_of h.hr h.hb (by intro z;cases z))];exact h.hr,by rw [upd_ne n3];exact h.hs,by rw [upd_ne n7];exact h.he,by rw [upd_ne n10];exact h.hc,upd_same,by rw [upd_ne (Ne.symm n13)];exact h.hl,by rw [upd_ne (Ne.symm n14)];exact h.hd,⟨h.st.1,fun i d q hd hq=>?_⟩,h.nd,h.fr,h.kp.young (h.fr _ (by simp))⟩
 obtain ⟨dy,la,a1,a2,a3⟩:=h.st.2 i d q hd hq
 exact ⟨dy,la,by rw [upd_ne (ne_of a1 h.hb (by intro z;cases z))];exact a1,by rw [upd_ne (fun z=>a3.1 (by rw [z];simp))];exact a2,a3⟩
theorem RdX.setL (h:RdX K H0 H r dx ls le lsc lb lr ld n dp vs ve vc vb vl ds dn) (v':List V) : RdX K H0 (upd H lr (.lst v')) r dx ls le lsc lb lr ld n dp vs ve vc vb v' ds dn:=by
 have nd:=h.nd
 simp only [List.nodup_cons,List.mem_cons,List.not_mem_nil,or_false,not_or,List.nodup_nil,and_true,not_false_eq_true] at nd
 obtain ⟨⟨n1,n2,n3,n4,n5⟩,⟨n6,n7,n8,n9⟩,⟨n10,n11,n12⟩,⟨n13,n14⟩,n15⟩:=nd
 refine ⟨by rw [upd_ne (ne_of h.hr h.hl (by intro z;cases z))];exact h.hr,by rw [upd_ne n4];exact h.hs,by rw [upd_ne n8];exact h.he,by rw [upd_ne n11];exact h.hc,by rw [upd_ne n13];exact h.hb,upd_same,by rw [upd_ne (Ne.symm n15)];exact h.hd,⟨h.st.1,fun i d q hd hq=>?_⟩,h.nd,h.fr,h.kp.young (h.fr _ (by simp))⟩
 obtain ⟨dy,la,a1,a2,a3⟩:=h.st.2 i d q hd hq
 exact ⟨dy,la,by rw [upd_ne (ne_of a1 h.hl (by intro z;cases z))];exact a1,by rw [upd_ne (fun z=>a3.1 (by rw [z];simp))];exact a2,a3⟩
end
open Rc82 (isName)
noncomputable def okc :List Nat:=[33,38,40,41,61,65,69,80,81,83,117,118,119,120,121,122,124]
def sg (c:Nat) : Str:=if c∈okc then cs c else Str.ofString ""
theorem sig_at :∀ c:Fin 256,(valV kv_SIGNS (.inl ((c.val:Nat) : Int))).getD (.str (Str.ofString ""))=.str (sg c.val):=by decide +kernel
noncomputable def partS :Part→Str
 | .form=>"formula" | .join=>"join" | .close=>"close" | .bind=>"binder" | .leave=>"leave" | .name=>"name" | .fin=>"end"
def strsV (l:List Str) : List V:=l.map V.str
def RdAt (K:Frag) (H0 H:Hp) (r:Addr) (t:List Nat) (n:Nat) (E:List Part) (sc bg lv:List Nat) (dn:List StepP) (dp:Nat) : Prop:=∃ dx ls le lsc lb lr ld ds,RdX K H0 H r dx ls le lsc lb lr ld n dp (strsV (t.map sg) ++ [.str (Str.ofString "")]) (strsV (E.reverse.map partS)) (strsV (sc.reverse.map cs)) (strsV (bg.reverse.map cs)) (lv.map fun (z:Nat)=>V.int (z:Int)) ds dn
def sp_R_init (K:Frag) : Sp:=fun vs H Q _=>∃ (r dx lc:Addr) (H0:Hp) (t:List Nat),vs=[.ref r,.ref lc]∧H r=some (.ins (cA K "Reader") dx [])∧H lc=some (nats t)∧t.length≤256∧(∀ c∈t,c < 256)∧H0 r=none∧Kp [] H0 H∧∀ H',RdAt K H0 H' r t 0 [.form] [] [] [] [] 0→Q .non H'
theorem ok_R_init (T:Txt P w K mg) : FM P w K mg base 1 "Reader" "__init__" ["self","codes"] (sp_R_init K):=by
 refine T.x_R_init.F.ok sc_R_init (fun _ _ _ _ h=>ex5 h fun _ _ _ _ _ e=>e.1▸rfl) fun _ _ _ s H vs Q E hr zh=>ex5 zh fun r dx lc H0 t yh=>an8 yh fun vz hr' hlc tl tb h0r k0 kq=>?_
 clear zh yh;subst vz
 refine ⟨_,(pss_cons (ps_fld (pv 0) (pe_op op_cat (pe_lc rfl sc_R_init.nd (pi_list (pv 1)) (blkOk_by (own:=[("code",2)]) rfl) (fun _ _ _ _ _=>(pg_name (i:=2) sc_R_init.nd rfl (Or.inl rfl))) (fun _ _ _ _ _=>pts_nil) (fun _ _ _ _ _=>(pe_gget2 T.d_SIGNS (pe_gref rfl T.g_SIGNS) (pv 2) pe_str ⟨rfl,rfl,rfl,rfl⟩))) (pe_lst (pa_cons pe_str pa_nil))) rfl)
   (pss_cons (ps_fld (pv 0) pe_int rfl)
   (pss_cons (ps_fld (pv 0) (pe_lst (pa_cons pe_str pa_nil)) rfl)
   (pss_cons (ps_fld (pv 0) (pe_lst pa_nil) rfl)
   (pss_cons (ps_fld (pv 0) pe_int rfl)
   (pss_cons (ps_fld (pv 0) (pe_lst pa_nil) rfl)
   (pss_cons (ps_fld (pv 0) (pe_lst pa_nil) rfl)
   (pss_one (ps_fld (pv 0) (pe_lst pa_nil) rfl))))))))),?_⟩
 dsimp only [tSeq,sFld,tOp]
 refine tlc_all (H1:=H) (J:=Itl K lc) (n:=(t.map fun (z:Nat)=>V.int (z:Int)).length) (fun i=>.str (sg (t.getD i 0))) ?_ (turns_list (SqL.of hlc)) (by rw [List.length_map,sizeLine_eq];omega) gName_mono ?_ fun D1 H1 hD1 k1 h1=>?_
 ·intro R q
  exact ⟨lc,rfl,⟨_,SqL.of hlc⟩,q⟩
 ·intro i y H2 Q2 hi hy k2 q
  obtain ⟨z,hz,rfl⟩ : ∃ z,t[i]? = some z∧y=.int (z:Int):=by
   rw [List.getElem?_map] at hy
   cases e:t[i]? with
   | none=>rw [e] at hy;cases hy
   | some z=>rw [e] at hy;cases hy;exact ⟨z,rfl,rfl⟩
  have zb:=tb z (List.mem_of_getElem? hz)
  refine ⟨rfl,.inl (z:Int),rfl,?_⟩
  have e1:=sig_at ⟨z,zb⟩
  rw [e1]
  have:=q H2 (Kp.refl _)
  simpa [List.getD,hz] using this
 have es:(List.range (t.map fun (z:Nat)=>V.int (z:Int)).length).map (fun i=>V.str (sg (t.getD i 0)))=strsV (t.map sg):=by
  rw [List.length_map]
  unfold strsV
  apply List.ext_getElem?
  intro i
  rw [List.getElem?_map,List.map_map,List.getElem?_map]
  by_cases hi:i < t.length
  ·simp [List.getElem?_range hi,List.getElem?_eq_getElem hi,List.getD]
  ·simp [hi,List.getElem?_eq_none (Nat.le_of_not_lt hi)]
 rw [es] at h1
 have hr1:=k1 _ _ hr' (by simp)
 refine ⟨by decide,fun D2 hD2=>⟨D1,D2,_,_,rfl,rfl,upd_old h1 hD2,upd_same,?_,fun ls hls=>⟨_,dx,_,upd_old (upd_old hr1 hD2) hls,T.c_R.cl,T.n_R_signs,(show 0 < 1000 by decide),?_⟩⟩⟩
 ·rw [sizeLine_eq];simp [strsV];omega
 generalize hH2:upd (upd (upd H1 D2 _) ls _) r _=H2
 have k2:Kp [r] H H2:=by rw [←hH2];exact (((k1.of).new hD2).new hls).set (by simp)
 have nlr:ls≠r:=(ne_of_none (upd_old (o:=.lst [.str (Str.ofString "")]) hr1 hD2) hls).symm
 have hls2:H2 ls=some (.lst (strsV (t.map sg) ++ [.str (Str.ofString "")])):=by rw [←hH2,upd_ne nlr];exact upd_same
 have hr2:H2 r=some (.ins (cA K "Reader") dx [("signs",.ref ls)]):=by rw [←hH2];exact upd_same
 have fls:H ls=none:=k1.free (Kp.free (xs:=[]) ((Kp.refl _).new hD2) hls (by simp)) (by simp)
 refine ⟨_,dx,_,hr2,T.c_R.cl,T.n_R_at,(show 1 < 1000 by decide),?_⟩
 generalize hH3:upd H2 r _=H3
 have kl3:∀ {b xs},H2 b=some (.lst xs)→H3 b=some (.lst xs):=fun {b xs} e=>by rw [←hH3,upd_ne (ne_of e hr2 (by intro z;cases z))];exact e
 have k3:Kp [r] H H3:=by rw [←hH3];exact k2.set (by simp)
 have hr3:H3 r=some (.ins (cA K "Reader") dx [("signs",.ref ls),("at",.int 0)]):=by rw [←hH3];exact upd_same
 have hls3:=kl3 hls2
 refine ⟨by decide,fun le hle=>⟨_,dx,_,upd_old hr3 hle,T.c_R.cl,T.n_R_expected,(show 2 < 1000 by decide),?_⟩⟩
 have nle:le≠r:=(ne_of_none hr3 hle).symm
 generalize hH4:upd (upd H3 le _) r _=H4
 have kl4:∀ {b xs},H3 b=some (.lst xs)→H4 b=some (.lst xs):=fun {b xs} e=>by rw [←hH4,upd_ne (ne_of e hr3 (by intro z;cases z))];exact upd_old e hle
 have k4:Kp [r] H H4:=by rw [←hH4];exact (k3.new hle).set (by simp)
 have hr4:H4 r=some (.ins (cA K "Reader") dx [("signs",.ref ls),("at",.int 0),("expected",.ref le)]):=by rw [←hH4];exact upd_same
 have hle4:H4 le=some (.lst [.str (Str.ofString "formula")]):=by rw [←hH4,upd_ne nle];exact upd_same
 have fle:H le=none:=k3.free hle (by simpa using nle)
 have d_ls_le:ls≠le:=ne_of_none hls3 hle
 have hls4:=kl4 hls3
 refine ⟨Nat.zero_le _,fun lsc hlsc=>⟨_,dx,_,upd_old hr4 hlsc,T.c_R.cl,T.n_R_scope,(show 3 < 1000 by decide),?_⟩⟩
 have nlsc:lsc≠r:=(ne_of_none hr4 hlsc).symm
 generalize hH5:upd (upd H4 lsc _) r _=H5
 have kl5:∀ {b xs},H4 b=some (.lst xs)→H5 b=some (.lst xs):=fun {b xs} e=>by rw [←hH5,upd_ne (ne_of e hr4 (by intro z;cases z))];exact upd_old e hlsc
 have k5:Kp [r] H H5:=by rw [←hH5];exact (k4.new hlsc).set (by simp)
 have hr5:H5 r=some (.ins (cA K "Reader") dx [("signs",.ref ls),("at",.int 0),("expected",.ref le),("scope",.ref lsc)]):=by rw [←hH5];exact upd_same
 have hlsc5:H5 lsc=some (.lst []):=by rw [←hH5,upd_ne nlsc];exact upd_same
 have flsc:H lsc=none:=k4.free hlsc (by simpa using nlsc)
 have d_ls_lsc:ls≠lsc:=ne_of_none hls4 hlsc
 have d_le_lsc:le≠lsc:=ne_of_none hle4 hlsc
 have hls5:=kl5 hls4
 have hle5:=kl5 hle4
 refine ⟨_,dx,_,hr5,T.c_R.cl,T.n_R_deepest,(show 4 < 1000 by decide),?_⟩
 generalize hH6:upd H5 r _=H6
 have kl6:∀ {b xs},H5 b=some (.lst xs)→H6 b=some (.lst xs):=fun {b xs} e=>by rw [←hH6,upd_ne (ne_of e hr5 (by intro z;cases z))];exact e
 have k6:Kp [r] H H6:=by rw [←hH6];exact k5.set (by simp)
 have hr6:H6 r=some (.ins (cA K "Reader") dx [("signs",.ref ls),("at",.int 0),("expected",.ref le),("scope",.ref lsc),("deepest",.int 0)]):=by rw [←hH6];exact upd_same
 have hls6:=kl6 hls5
 have hle6:=kl6 hle5
 have hlsc6:=kl6 hlsc5
 refine ⟨Nat.zero_le _,fun lb hlb=>⟨_,dx,_,upd_old hr6 hlb,T.c_R.cl,T.n_R_begun,(show 5 < 1000 by decide),?_⟩⟩
 have nlb:lb≠r:=(ne_of_none hr6 hlb).symm
 generalize hH7:upd (upd H6 lb _) r _=H7
 have kl7:∀ {b xs},H6 b=some (.lst xs)→H7 b=some (.lst xs):=fun {b xs} e=>by rw [←hH7,upd_ne (ne_of e hr6 (by intro z;cases z))];exact upd_old e hlb
 have k7:Kp [r] H H7:=by rw [←hH7];exact (k6.new hlb).set (by simp)
 have hr7:H7 r=some (.ins (cA K "Reader") dx [("signs",.ref ls),("at",.int 0),("expected",.ref le),("scope",.ref lsc),("deepest",.int 0),("begun",.ref lb)]):=by rw [←hH7];exact upd_same
 have hlb7:H7 lb=some (.lst []):=by rw [←hH7,upd_ne nlb];exact upd_same
 have flb:H lb=none:=k6.free hlb (by simpa using nlb)
 have d_ls_lb:ls≠lb:=ne_of_none hls6 hlb
 have d_le_lb:le≠lb:=ne_of_none hle6 hlb
 have d_lsc_lb:lsc≠lb:=ne_of_none hlsc6 hlb
 have hls7:=kl7 hls6
 have hle7:=kl7 hle6
 have hlsc7:=kl7 hlsc6
 refine ⟨Nat.zero_le _,fun lr hlr=>⟨_,dx,_,upd_old hr7 hlr,T.c_R.cl,T.n_R_read_levels,(show 6 < 1000 by decide),?_⟩⟩
 have nlr:lr≠r:=(ne_of_none hr7 hlr).symm
 generalize hH8:upd (upd H7 lr _) r _=H8
 have kl8:∀ {b xs},H7 b=some (.lst xs)→H8 b=some (.lst xs):=fun {b xs} e=>by rw [←hH8,upd_ne (ne_of e hr7 (by intro z;cases z))];exact upd_old e hlr
 have k8:Kp [r] H H8:=by rw [←hH8];exact (k7.new hlr).set (by simp)
 have hr8:H8 r=some (.ins (cA K "Reader") dx [("signs",.ref ls),("at",.int 0),("expected",.ref le),("scope",.ref lsc),("deepest",.int 0),("begun",.ref lb),("read_levels",.ref lr)]):=by rw [←hH8];exact upd_same
 have hlr8:H8 lr=some (.lst []):=by rw [←hH8,upd_ne nlr];exact upd_same
 have flr:H lr=none:=k7.free hlr (by simpa using nlr)
 have d_ls_lr:ls≠lr:=ne_of_none hls7 hlr
 have d_le_lr:le≠lr:=ne_of_none hle7 hlr
 have d_lsc_lr:lsc≠lr:=ne_of_none hlsc7 hlr
 have d_lb_lr:lb≠lr:=ne_of_none hlb7 hlr
 have hls8:=kl8 hls7
 have hle8:=kl8 hle7
 have hlsc8:=kl8 hlsc7
 have hlb8:=kl8 hlb7
 refine ⟨Nat.zero_le _,fun ld hld=>⟨_,dx,_,upd_old hr8 hld,T.c_R.cl,T.n_R_done,(show 7 < 1000 by decide),?_⟩⟩
 have nld:ld≠r:=(ne_of_none hr8 hld).symm
 generalize hH9:upd (upd H8 ld _) r _=H9
 have kl9:∀ {b xs},H8 b=some (.lst xs)→H9 b=some (.lst xs):=fun {b xs} e=>by rw [←hH9,upd_ne (ne_of e hr8 (by intro z;cases z))];exact upd_old e hld
 have k9:Kp [r] H H9:=by rw [←hH9];exact (k8.new hld).set (by simp)
 have hr9:H9 r=some (.ins (cA K "Reader") dx [("signs",.ref ls),("at",.int 0),("expected",.ref le),("scope",.ref lsc),("deepest",.int 0),("begun",.ref lb),("read_levels",.ref lr),("done",.ref ld)]):=by rw [←hH9];exact upd_same
 have hld9:H9 ld=some (.lst []):=by rw [←hH9,upd_ne nld];exact upd_same
 have fld:H ld=none:=k8.free hld (by simpa using nld)
 have d_ls_ld:ls≠ld:=ne_of_none hls8 hld
 have d_le_ld:le≠ld:=ne_of_none hle8 hld
 have d_lsc_ld:lsc≠ld:=ne_of_none hlsc8 hld
 have d_lb_ld:lb≠ld:=ne_of_none hlb8 hld
 have d_lr_ld:lr≠ld:=ne_of_none hlr8 hld
 have hls9:=kl9 hls8
 have hle9:=kl9 hle8
 have hlsc9:=kl9 hlsc8
 have hlb9:=kl9 hlb8
 have hlr9:=kl9 hlr8
 refine kq H9 ⟨dx,ls,le,lsc,lb,lr,ld,[],hr9,hls9,hle9,hlsc9,hlb9,hlr9,hld9,⟨rfl,fun i d q h=>by simp at h⟩,by simp [d_ls_le,d_ls_lsc,d_ls_lb,d_ls_lr,d_ls_ld,d_le_lsc,d_le_lb,d_le_lr,d_le_ld,d_lsc_lb,d_lsc_lr,d_lsc_ld,d_lb_lr,d_lb_ld,d_lr_ld],fun x hx=>?_,fun b o e _=>k9 b o (k0 b o e (by simp)) (by simp only [List.mem_singleton];rintro rfl;rw [h0r] at e;cases e)⟩
 simp only [List.mem_cons,List.not_mem_nil,or_false] at hx
 rcases hx with rfl | rfl | rfl | rfl | rfl | rfl | rfl
 ·exact h0r
 all_goals exact k0.free (by assumption) (by simp)
open Rc82 (isName)
def RPost (K:Frag) (H0:Hp) (r:Addr) (t:List Nat) (n:Nat) (E:List Part) (sc bg lv:List Nat) (dn:List StepP) (dp:Nat) (Q:Hp→Prop) : Prop:=∀ H',RdAt K H0 H' r t n E sc bg lv dn dp→Q H'
def sp_R_at_end (K:Frag) : Sp:=fun vs H Q _=>∃ (r:Addr) (H0:Hp) (t:List Nat) (n:Nat) (E:List Part) (sc bg lv:List Nat) (dn:List StepP) (dp:Nat),vs=[.ref r]∧RdAt K H0 H r t n E sc bg lv dn dp∧Q (.bl (decide (n=t.length))) H
theorem ok_R_at_end (T:Txt P w K mg) : FM P w K mg base 1 "Reader" "at_end" ["self"] (sp_R_at_end K):=by
 refine T.x_R_at_end.F.ok sc_R_at_end (fun _ _ _ _ h=>ex10 h fun _ _ _ _ _ _ _ _ _ _ e=>e.1▸rfl) fun _ _ _ s H vs Q E hr zh=>ex10 zh fun r H0 t n E sc bg lv dn dp yh=>an3 yh fun vz z0 kq=>?_
 clear zh yh;subst vz
 obtain ⟨dx,ls,le,lsc,lb,lr,ld,ds,h⟩:=z0
 refine ⟨_,(pss_one (ps_ret (pe_cmpR op_eq (pe_fld (pv 0) rfl) (pe_op op_sub (pe_callB call_len_seq (by rfl) T.nb_len PySem.boot_len (pa_cons (pe_fld (pv 0) rfl) pa_nil)) pe_int) (nomark _)))),?_⟩
 walk_at "rd"
 simp only [h.hr,T.c_R.cl,nR T,fs_R_signs,fs_R_at,fs_R_expected,fs_R_scope,fs_R_deepest,fs_R_begun,fs_R_read_levels,fs_R_done,hpL,V.int.injEq,V.ref.injEq]
 refine ⟨_,.inl (SqL.of h.hs),?_⟩
 have e:(((strsV (t.map sg) ++ [V.str (Str.ofString "")]).length:Nat) : Int) - 1=(t.length:Int):=by simp [strsV]
 rw [e]
 have:decide ((n:Int)=(t.length:Int))=decide (n=t.length):=by rw [decide_eq_decide];omega
 rw [this]
 exact ⟨rfl,kq⟩
theorem sg_ok {c:Nat} (h:c∈okc) : sg c=cs c:=if_pos h
theorem sg_cs {c d:Nat} (hd:d≠c) : cs d≠sg c:=fun e=>by
 unfold sg at e
 split at e
 ·exact hd (cs_eq.mp e)
 ·unfold cs at e
  exact absurd (congrArg (fun (s:Str)=>s.cps.size) e) (by show ¬ (1=0);decide)
theorem fol_ok {c:Nat} {ps:List Part} (h:fol c=some ps) : c∈okc:=by
 unfold fol at h
 repeat' split at h
 all_goals first | cases h | skip
 all_goals (rename_i hc;first | (rcases hc with rfl | rfl <;> decide) | (subst hc;decide))
theorem fol_at (T:Txt P w K mg) (c:Nat) : (fol c=none∧valV (kv_FOLLOWING K) (.inr (sg c))=none)∨∃ ps a,fol c=some ps∧valV (kv_FOLLOWING K) (.inr (sg c))=some (.ref a)∧∀ H:Hp,SqT K H a (strsV (ps.map partS)):=by
 cases e:fol c with
 | some ps =>
  right
  have hk:=fol_ok e
  rw [sg_ok hk]
  unfold fol at e
  repeat' split at e
  all_goals first | cases e | skip
  all_goals (rename_i hc;first | (rcases hc with rfl | rfl) | subst hc)
  ·exact ⟨_,_,rfl,rfl,T.x_FOLLOWING_0⟩
  ·exact ⟨_,_,rfl,rfl,T.x_FOLLOWING_3⟩
  ·exact ⟨_,_,rfl,rfl,T.x_FOLLOWING_1⟩
  ·exact ⟨_,_,rfl,rfl,T.x_FOLLOWING_2⟩
  ·exact ⟨_,_,rfl,rfl,T.x_FOLLOWING_4⟩
  ·exact ⟨_,_,rfl,rfl,T.x_FOLLOWING_5⟩
  ·exact ⟨_,_,rfl,rfl,T.x_FOLLOWING_6⟩
  ·exact ⟨_,_,rfl,rfl,T.x_FOLLOWING_7⟩
 | none =>
  refine .inl ⟨rfl,?_⟩
  have ne:∀ d,fol d≠none→(Sum.inr (cs d) : Key)≠.inr (sg c):=fun d hd z=>by
   injection z with z
   exact sg_cs (fun q=>hd (by rw [q];exact e)) z
  unfold kv_FOLLOWING
  rw [valV_neg (ne 69 (by decide)),valV_neg (ne 80 (by decide)),valV_neg (ne 81 (by decide)),valV_neg (ne 61 (by decide)),valV_neg (ne 33 (by decide)),valV_neg (ne 40 (by decide)),valV_neg (ne 65 (by decide)),valV_neg (ne 83 (by decide))]
  rfl
def sp_R_begin_formula (K:Frag) : Sp:=fun vs H Q _=>∃ (r:Addr) (H0:Hp) (t:List Nat) (n:Nat) (E:List Part) (sc bg lv:List Nat) (dn:List StepP) (dp c:Nat),vs=[.ref r,.str (sg c)]∧RdAt K H0 H r t n E sc bg lv dn dp∧E.length≤5000∧bg.length≤5000 ∧
 (∀ ps,fol c=some ps→RPost K H0 r t n (ps ++ E) sc (c :: bg) lv dn dp (Q (.bl true)))∧(fol c=none→∀ H',Kp [] H0 H'→Q (.bl false) H')
theorem ok_R_begin_formula (T:Txt P w K mg) : FM P w K mg base 1 "Reader" "begin_formula" ["self","sign"] (sp_R_begin_formula K):=by
 refine T.x_R_begin_formula.F.ok sc_R_begin_formula (fun _ _ _ _ h=>ex11 h fun _ _ _ _ _ _ _ _ _ _ _ e=>e.1▸rfl) fun _ _ _ s H vs Q E hr zh=>ex11 zh fun r H0 t n E sc bg lv dn dp c yh=>an6 yh fun vz z0 El bl q1 q2=>?_
 clear zh yh;subst vz
 obtain ⟨dx,ls,le,lsc,lb,lr,ld,ds,h⟩:=z0
 refine ⟨_,(pss_cons (ps_if (pt_cmp (pc_gnotin T.d_FOLLOWING (pv 1) (pe_gref rfl T.g_FOLLOWING))) (pss_one (ps_ret pe_bl)) pss_nil)
   (pss_cons (ps_expr (pe_bm PySem.F.plainAttrs_list PySem.F.slot_list_append PySem.F.type_list_append mt_append (pe_fld (pv 0) rfl) (pa_cons (pv 1) pa_nil)))
   (pss_cons (ps_for PassesOwn.never rfl (pi_reversedT rfl T.nb_reversed (pa_cons (pe_gget T.d_FOLLOWING (pe_gref rfl T.g_FOLLOWING) (pv 1) (fun _ _=>rfl)) pa_nil)) (pg_name (i:=2) sc_R_begin_formula.nd rfl (Or.inl rfl)) (pss_one (ps_expr (pe_bm PySem.F.plainAttrs_list PySem.F.slot_list_append PySem.F.type_list_append mt_append (pe_fld (pv 0) rfl) (pa_cons (pv 2) pa_nil)))))
   (pss_one (ps_ret pe_bl))))),?_⟩
 walk_at "rd"
 refine ⟨.inr (sg c),rfl,?_⟩
 rcases fol_at T c with ⟨e,hv⟩ | ⟨ps,a,e,hv,hsq⟩
 ·rw [hv]
  rw [if_pos (by rfl)]
  exact q2 e H h.kp
 ·rw [hv]
  rw [if_neg (by simp)]
  simp only [h.hr,T.c_R.cl,nR T,fs_R_signs,fs_R_at,fs_R_expected,fs_R_scope,fs_R_deepest,fs_R_begun,fs_R_read_levels,fs_R_done,hpL,V.int.injEq,V.ref.injEq]
  refine ⟨.inl ⟨rfl,_,SqL.of h.hb⟩,_,h.hb,by rw [sizeLine_eq];simp [strsV];omega,?_⟩
  have h2:=h.setB (strsV (bg.reverse.map cs) ++ [.str (sg c)])
  generalize hH2:upd H lb _=H2 at h2 ⊢
  have pl:ps.length≤5:=by
   unfold fol at e
   repeat' split at e
   all_goals first | (cases e;decide) | cases e
  refine tfor (J:=ItvT K a (strsV (ps.map partS)).length) (H1:=H2) (n:=(strsV (ps.map partS)).length) (fun _=>none) (fun i σ H'=>RdX K H0 H' r dx ls le lsc lb lr ld n dp (strsV (t.map sg) ++ [.str (Str.ofString "")]) (strsV (E.reverse.map partS) ++ (strsV (ps.map partS)).reverse.take i) (strsV (sc.reverse.map cs)) (strsV (bg.reverse.map cs) ++ [.str (sg c)]) (lv.map fun (z:Nat)=>V.int (z:Int)) ds dn∧∃ v,σ=[some (.ref r),some (.str (sg c)),v]) ?_ (turns_revT hsq) ⟨by rw [List.take_zero,List.append_nil];exact h2,_,rfl⟩ (fun i σ H' h=>kp_nil) ?_ ?_
  ·intro R q
   refine ⟨.inr (sg c),_,rfl,hv,a,_,rfl,hsq _,q⟩
  ·rintro i y _ H3 H4 hi ⟨h3,v,rfl⟩ k4 hy
   have h4:=h3.kp' k4
   walk_at "rd"
   simp only [h4.hr,T.c_R.cl,nR T,fs_R_signs,fs_R_at,fs_R_expected,fs_R_scope,fs_R_deepest,fs_R_begun,fs_R_read_levels,fs_R_done,hpL,V.int.injEq,V.ref.injEq]
   refine ⟨.inl ⟨rfl,_,SqL.of h4.he⟩,_,h4.he,?_,?_,_,rfl⟩
   ·rw [sizeLine_eq]
    simp only [List.length_append,List.length_take,strsV,List.length_map,List.length_reverse]
    omega
   ·rw [List.append_assoc,show (strsV (ps.map partS)).reverse.take i ++ [y]=(strsV (ps.map partS)).reverse.take (i+1) by rw [List.take_add_one,hy];rfl]
    exact h4.setE _
  ·rintro _ H3 ⟨h3,v,rfl⟩
   rw [←List.length_reverse,List.take_length] at h3
   walk_at "rd"
   refine q1 ps e H3 ⟨dx,ls,le,lsc,lb,lr,ld,ds,?_⟩
   have e1:strsV ((ps ++ E).reverse.map partS)=strsV (E.reverse.map partS) ++ (strsV (ps.map partS)).reverse:=by simp [strsV]
   have e2:strsV ((c :: bg).reverse.map cs)=strsV (bg.reverse.map cs) ++ [.str (sg c)]:=by rw [sg_ok (fol_ok e)];simp [strsV]
   rw [e1,e2]
   exact h3
open Rc82 (isName)
def sp_P_init (K:Frag) : Sp:=fun vs H Q _=>∃ (x dx:Addr) (a b c:V),vs=[.ref x,a,b,c]∧H x=some (.ins (cA K "Step") dx [])∧∀ H',H' x=some (.ins (cA K "Step") dx (fs_P a b c))→Kp [x] H H'→Q .non H'
theorem ok_P_init (T:Txt P w K mg) : FM P w K mg base 1 "Step" "__init__" ["self","sign","depth","levels"] (sp_P_init K):=by
 refine T.x_P_init.F.ok sc_P_init (fun _ _ _ _ h=>ex5 h fun _ _ _ _ _ e=>e.1▸rfl) fun _ _ _ s H vs Q E hr zh=>ex5 zh fun x dx a b c yh=>an3 yh fun vz hx kq=>?_
 clear zh yh;subst vz
 refine ⟨_,(pss_cons (ps_fld (pv 0) (pv 1) rfl)
   (pss_cons (ps_fld (pv 0) (pv 2) rfl)
   (pss_one (ps_fld (pv 0) (pv 3) rfl)))),?_⟩
 refine ⟨_,dx,_,hx,T.c_P.cl,T.n_P_sign,(show 0 < 1000 by decide),_,dx,_,upd_same,T.c_P.cl,T.n_P_depth,(show 1 < 1000 by decide),_,dx,_,upd_same,T.c_P.cl,T.n_P_levels,(show 2 < 1000 by decide),?_⟩
 exact kq _ upd_same ((((Kp.refl _).set (by simp)).set (by simp)).set (by simp))
def sp_N_init (K:Frag) : Sp:=fun vs H Q _=>∃ (x dx:Addr) (a b c:V),vs=[.ref x,a,b,c]∧H x=some (.ins (cA K "Sentence") dx [])∧∀ H',H' x=some (.ins (cA K "Sentence") dx (fs_N a b c))→Kp [x] H H'→Q .non H'
theorem ok_N_init (T:Txt P w K mg) : FM P w K mg base 1 "Sentence" "__init__" ["self","codes","depth","steps"] (sp_N_init K):=by
 refine T.x_N_init.F.ok sc_N_init (fun _ _ _ _ h=>ex5 h fun _ _ _ _ _ e=>e.1▸rfl) fun _ _ _ s H vs Q E hr zh=>ex5 zh fun x dx a b c yh=>an3 yh fun vz hx kq=>?_
 clear zh yh;subst vz
 refine ⟨_,(pss_cons (ps_fld (pv 0) (pv 1) rfl)
   (pss_cons (ps_fld (pv 0) (pv 2) rfl)
   (pss_one (ps_fld (pv 0) (pv 3) rfl)))),?_⟩
 refine ⟨_,dx,_,hx,T.c_N.cl,T.n_N_codes,(show 0 < 1000 by decide),_,dx,_,upd_same,T.c_N.cl,T.n_N_depth,(show 1 < 1000 by decide),_,dx,_,upd_same,T.c_N.cl,T.n_N_steps,(show 2 < 1000 by decide),?_⟩
 exact kq _ upd_same ((((Kp.refl _).set (by simp)).set (by simp)).set (by simp))
theorem RdX.fin {H0 H:Hp} {r dx ls le lsc lb lr ld:Addr} {n dp:Int} {vs ve vc vb:List V} {lv:List Nat} {ds:List Addr} {dn:List StepP} {x dy l2:Addr} {c D:Nat} (h:RdX K H0 H r dx ls le lsc lb lr ld n dp vs ve vc vb (lv.map fun (z:Nat)=>V.int (z:Int)) ds dn)
  (hx:H x=some (.ins (cA K "Step") dy (fs_P (.str (cs c)) (.int D) (.ref lr)))) (h2:upd H ld (.lst ((ds ++ [x]).map V.ref)) l2=none) (h0x:H0 x=none) :
  RdX K H0 (upd (upd (upd H ld (.lst ((ds ++ [x]).map V.ref))) l2 (.lst [])) r (.ins (cA K "Reader") dx (fs_R (.ref ls) (.int n) (.ref le) (.ref lsc) (.int dp) (.ref lb) (.ref l2) (.ref ld)))) r dx ls le lsc lb l2 ld n dp vs ve vc vb [] (ds ++ [x]) (dn ++ [(c,D,lv)]):=by
 have nd:=h.nd
 simp only [List.nodup_cons,List.mem_cons,List.not_mem_nil,or_false,not_or,List.nodup_nil,and_true,not_false_eq_true] at nd
 obtain ⟨⟨n1,n2,n3,n4,n5⟩,⟨n6,n7,n8,n9⟩,⟨n10,n11,n12⟩,⟨n13,n14⟩,n15⟩:=nd
 have nrl:r≠ld:=ne_of h.hr h.hd (by intro z;cases z)
 have hr1:upd H ld (.lst ((ds ++ [x]).map V.ref)) r=_:=(upd_ne nrl).trans h.hr
 have hd1:upd H ld (.lst ((ds ++ [x]).map V.ref)) ld=some (.lst ((ds ++ [x]).map V.ref)):=upd_same
 have keepl:∀ {a xs},H a=some (.lst xs)→a≠ld→upd (upd (upd H ld (.lst ((ds ++ [x]).map V.ref))) l2 (.lst [])) r (.ins (cA K "Reader") dx (fs_R (.ref ls) (.int n) (.ref le) (.ref lsc) (.int dp) (.ref lb) (.ref l2) (.ref ld))) a=some (.lst xs):=fun {a xs} e ne=>by
  rw [upd_ne (ne_of e h.hr (by intro z;cases z))]
  exact upd_old ((upd_ne ne).trans e) h2
 have keepi:∀ {a dq:Addr} {fq:V × V × V},H a=some (.ins (cA K "Step") dq (fs_P fq.1 fq.2.1 fq.2.2))→upd (upd (upd H ld (.lst ((ds ++ [x]).map V.ref))) l2 (.lst [])) r (.ins (cA K "Reader") dx (fs_R (.ref ls) (.int n) (.ref le) (.ref lsc) (.int dp) (.ref lb) (.ref l2) (.ref ld))) a=some (.ins (cA K "Step") dq (fs_P fq.1 fq.2.1 fq.2.2)):=fun {a dq fq} e=>by
  rw [upd_ne (ne_of e h.hr (by intro z;injection z with _ _ z;cases z))]
  exact upd_old ((upd_ne (ne_of e h.hd (by intro z;cases z))).trans e) h2
 have nl2:∀ {a o},H a=some o→a≠ld→a≠l2:=fun {a o} e ne=>ne_of_none ((upd_ne ne).trans e) h2
 have m1:=nl2 h.hs n5
 have m2:=nl2 h.he n9
 have m3:=nl2 h.hc n12
 have m4:=nl2 h.hb n14
 have m5:=nl2 h.hl n15
 have m6:ld≠l2:=ne_of_none hd1 h2
 have nr2:l2≠r:=(ne_of_none hr1 h2).symm
 refine ⟨upd_same,keepl h.hs n5,keepl h.he n9,keepl h.hc n12,keepl h.hb n14,by rw [upd_ne nr2];exact upd_same,by rw [upd_ne (Ne.symm nrl)];exact upd_old hd1 h2,⟨by simp [h.st.1],fun i d q hd hq=>?_⟩,?_,fun y hy=>?_,?_⟩
 ·by_cases e:i < ds.length
  ·rw [List.getElem?_append_left e] at hd
   rw [List.getElem?_append_left (by rw [←h.st.1];exact e)] at hq
   obtain ⟨dq,la,a1,a2,a3,a4⟩:=h.st.2 i d q hd hq
   simp only [List.mem_cons,List.not_mem_nil,or_false,not_or] at a3
   obtain ⟨b1,b2,b3,b4,b5,b6⟩:=a3
   exact ⟨dq,la,keepi (fq:=(_,_,_)) a1,keepl a2 b6,by simp only [List.mem_cons,List.not_mem_nil,or_false,not_or];exact ⟨b1,b2,b3,b4,nl2 a2 b6,b6⟩,a4⟩
  ·have:i=ds.length:=by have:=(List.getElem?_eq_some_iff.mp hd).1;simp at this;omega
   subst this
   simp at hd
   rw [h.st.1] at hq
   simp at hq
   subst hd hq
   exact ⟨dy,lr,keepi (fq:=(_,_,_)) hx,keepl h.hl n15,by simp only [List.mem_cons,List.not_mem_nil,or_false,not_or];exact ⟨Ne.symm n4,Ne.symm n8,Ne.symm n11,Ne.symm n13,m5,n15⟩,h.fr _ (by simp),h0x⟩
 ·simp only [List.nodup_cons,List.mem_cons,List.not_mem_nil,or_false,not_or,List.nodup_nil,and_true,not_false_eq_true]
  exact ⟨⟨n1,n2,n3,m1,n5⟩,⟨n6,n7,m2,n9⟩,⟨n10,m3,n12⟩,⟨m4,n14⟩,Ne.symm m6⟩
 ·simp only [List.mem_cons,List.not_mem_nil,or_false] at hy
  rcases hy with rfl | rfl | rfl | rfl | rfl | rfl | rfl
  ·exact h.fr _ (by simp)
  ·exact h.fr _ (by simp)
  ·exact h.fr _ (by simp)
  ·exact h.fr _ (by simp)
  ·exact h.fr _ (by simp)
  ·refine h.kp.free ?_ (by simp)
   rw [upd_ne (Ne.symm m6)] at h2
   exact h2
  ·exact h.fr _ (by simp)
 ·exact ((h.kp.young (h.fr _ (by simp))).new h2).young (h.fr _ (by simp))
def sp_R_end_formula (K:Frag) : Sp:=fun vs H Q _=>∃ (r:Addr) (H0:Hp) (t:List Nat) (n:Nat) (E:List Part) (sc bg lv:List Nat) (dn:List StepP) (dp c:Nat),vs=[.ref r]∧RdAt K H0 H r t n E sc (c :: bg) lv dn dp∧dn.length≤5000∧RPost K H0 r t n E sc bg [] (dn ++ [(c,sc.length,lv)]) dp (Q .non)
theorem ok_R_end_formula (T:Txt P w K mg) : FM P w K mg base 3 "Reader" "end_formula" ["self"] (sp_R_end_formula K):=by
 refine T.x_R_end_formula.F.ok sc_R_end_formula (fun _ _ _ _ h=>ex11 h fun _ _ _ _ _ _ _ _ _ _ _ e=>e.1▸rfl) fun _ _ _ s H vs Q E hr zh=>ex11 zh fun r H0 t n E sc bg lv dn dp c yh=>an4 yh fun vz z0 dl kq=>?_
 clear zh yh;subst vz
 obtain ⟨dx,ls,le,lsc,lb,lr,ld,ds,h⟩:=z0
 refine ⟨_,(pss_cons (ps_expr (pe_bm PySem.F.plainAttrs_list PySem.F.slot_list_append PySem.F.type_list_append mt_append (pe_fld (pv 0) rfl) (pa_cons (pe_make T.c_P.mkr (ok_P_init T) (hr.mono (by decide)) rfl T.c_P.c T.x_P_init.b .nil pass0 (pa_cons (pe_bm0 PySem.F.plainAttrs_list PySem.F.slot_list_pop PySem.F.type_list_pop mt_pop (pe_fld (pv 0) rfl)) (pa_cons (pe_callB call_len_seq (by rfl) T.nb_len PySem.boot_len (pa_cons (pe_fld (pv 0) rfl) pa_nil)) (pa_cons (pe_fld (pv 0) rfl) pa_nil)))) pa_nil)))
   (pss_one (ps_fld (pv 0) (pe_lst pa_nil) rfl))),?_⟩
 walk_at "rd"
 simp only [h.hr,T.c_R.cl,nR T,fs_R_signs,fs_R_at,fs_R_expected,fs_R_scope,fs_R_deepest,fs_R_begun,fs_R_read_levels,fs_R_done,hpL,V.int.injEq,V.ref.injEq]
 have ev:strsV ((c :: bg).reverse.map cs)=strsV (bg.reverse.map cs) ++ [.str (cs c)]:=by simp [strsV]
 rw [ev] at h
 refine ⟨.inl ⟨rfl,_,SqL.of h.hd⟩,.inl ⟨rfl,_,SqL.of h.hb⟩,_,h.hb,.str (cs c),by simp,?_⟩
 rw [List.dropLast_concat]
 have h1:=h.setB (strsV (bg.reverse.map cs))
 generalize upd H lb _=H1 at h1 ⊢
 simp only [h1.hr,T.c_R.cl,nR T,fs_R_signs,fs_R_at,fs_R_expected,fs_R_scope,fs_R_deepest,fs_R_begun,fs_R_read_levels,fs_R_done,hpL,V.int.injEq,V.ref.injEq]
 refine ⟨_,.inl (SqL.of h1.hc),fun x dx2 hx hdx hne=>⟨x,dx2,_,_,_,rfl,upd_same,fun H3 hx3 k3=>⟨rfl,?_⟩⟩⟩
 have h3:=h1.kp' (made_kp hx hdx k3)
 have el:(strsV (sc.reverse.map cs)).length=sc.length:=by simp [strsV]
 rw [el] at hx3
 refine ⟨_,h3.hd,by rw [List.length_map,h3.st.1,sizeLine_eq];omega,Nat.zero_le _,fun l2 hl2=>?_⟩
 rw [show ds.map V.ref ++ [V.ref x]=(ds ++ [x]).map V.ref by simp] at hl2 ⊢
 have h4:=h3.fin hx3 hl2 (h1.kp.free hx (by simp))
 have nrl:r≠ld:=ne_of h3.hr h3.hd (by intro z;cases z)
 exact ⟨_,_,_,upd_old ((upd_ne nrl).trans h3.hr) hl2,T.c_R.cl,T.n_R_read_levels,(show 8 < 1000 by decide),kq _ ⟨dx,ls,le,lsc,lb,l2,ld,_,h4⟩⟩
theorem name_in :∀ c:Fin 256,inV (.str (sg c.val)) [.str (Str.ofString "u"),.str (Str.ofString "v"),.str (Str.ofString "w"),.str (Str.ofString "x"),.str (Str.ofString "y"),.str (Str.ofString "z")]=isName c.val:=by decide +kernel
theorem name_ok {c:Nat} (h:isName c=true) : sg c=cs c:=by
 unfold isName at h
 simp only [Bool.and_eq_true,decide_eq_true_eq] at h
 refine sg_ok ?_
 have:c=117∨c=118∨c=119∨c=120∨c=121∨c=122:=by omega
 rcases this with rfl | rfl | rfl | rfl | rfl | rfl <;> decide
def sp_R_bind (K:Frag) : Sp:=fun vs H Q _=>∃ (r:Addr) (H0:Hp) (t:List Nat) (n:Nat) (E:List Part) (sc bg lv:List Nat) (dn:List StepP) (dp c:Nat),vs=[.ref r,.str (sg c)]∧RdAt K H0 H r t n E sc bg lv dn dp∧c < 256∧sc.length≤4 ∧
 (isName c=true→sc.length < 4→RPost K H0 r t n E (c :: sc) bg lv dn (max dp (sc.length+1)) (Q (.bl true)))∧(¬ (isName c=true∧sc.length < 4)→∀ H',Kp [] H0 H'→Q (.bl false) H')
theorem ok_R_bind (T:Txt P w K mg) : FM P w K mg base 1 "Reader" "bind" ["self","sign"] (sp_R_bind K):=by
 refine T.x_R_bind.F.ok sc_R_bind (fun _ _ _ _ h=>ex11 h fun _ _ _ _ _ _ _ _ _ _ _ e=>e.1▸rfl) fun _ _ _ s H vs Q E hr zh=>ex11 zh fun r H0 t n E sc bg lv dn dp c yh=>an6 yh fun vz z0 c256 s4 q1 q2=>?_
 clear zh yh;subst vz
 obtain ⟨dx,ls,le,lsc,lb,lr,ld,ds,h⟩:=z0
 refine ⟨_,(pss_cons (ps_if (PW.pt (pw_or (pt_cmpR op_notIn_seq (pv 1) (pe_gref rfl T.g_NAMES) (by with_unfolding_all rfl)) (pw_or1 (pt_eq (pe_callB call_len_seq (by rfl) T.nb_len PySem.boot_len (pa_cons (pe_fld (pv 0) rfl) pa_nil)) (pe_gint rfl T.g_MOST_DEPTH) (nomark _))))) (pss_one (ps_ret pe_bl)) pss_nil)
   (pss_cons (ps_expr (pe_bm PySem.F.plainAttrs_list PySem.F.slot_list_append PySem.F.type_list_append mt_append (pe_fld (pv 0) rfl) (pa_cons (pv 1) pa_nil)))
   (pss_cons (ps_fld (pv 0) (pe_callB (call_max2 rfl) (by rfl) T.nb_max bt_max (pa_cons (pe_fld (pv 0) rfl) (pa_cons (pe_callB call_len_seq (by rfl) T.nb_len PySem.boot_len (pa_cons (pe_fld (pv 0) rfl) pa_nil)) pa_nil))) rfl)
   (pss_one (ps_ret pe_bl))))),?_⟩
 walk_at "rd"
 have el:(strsV (sc.reverse.map cs)).length=sc.length:=by simp [strsV]
 refine ⟨_,.inr (T.t_NAMES H),rfl,rfl,?_⟩
 have nm:=name_in ⟨c,c256⟩
 rw [nm]
 by_cases e1:isName c=true
 ·rw [if_neg (by simp [e1])]
  simp only [h.hr,T.c_R.cl,nR T,fs_R_signs,fs_R_at,fs_R_expected,fs_R_scope,fs_R_deepest,fs_R_begun,fs_R_read_levels,fs_R_done,hpL,V.int.injEq,V.ref.injEq]
  refine ⟨_,.inl (SqL.of h.hc),?_⟩
  rw [el]
  by_cases e2:sc.length < 4
  ·have e3:¬ ((sc.length:Int)=4):=by omega
   simp only [e3,if_false]
   refine ⟨.inl ⟨rfl,_,SqL.of h.hc⟩,_,h.hc,by rw [sizeLine_eq,el];omega,?_⟩
   have h1:=h.setC (strsV (sc.reverse.map cs) ++ [.str (sg c)])
   generalize upd H lsc _=H1 at h1 ⊢
   refine ⟨_,_,_,h1.hr,T.c_R.cl,T.n_R_deepest,_,fs_R_deepest,_,_,_,h1.hr,T.c_R.cl,T.n_R_scope,_,fs_R_scope,lsc,rfl,_,.inl (SqL.of h1.hc),_,rfl,_,_,_,h1.hr,T.c_R.cl,T.n_R_deepest,(show 8 < 1000 by decide),?_⟩
   have en:(strsV (sc.reverse.map cs) ++ [V.str (sg c)]).length=sc.length+1:=by rw [List.length_append,el];rfl
   have ed:(if (((strsV (sc.reverse.map cs) ++ [V.str (sg c)]).length:Nat) : Int) > (dp:Int) then (((strsV (sc.reverse.map cs) ++ [V.str (sg c)]).length:Nat) : Int) else (dp:Int))=((max dp (sc.length+1) : Nat) : Int):=by
    rw [en]
    split <;> omega
   rw [ed,pf_R_deepest]
   refine q1 e1 e2 _ ⟨dx,ls,le,lsc,lb,lr,ld,ds,?_⟩
   have e4:strsV ((c :: sc).reverse.map cs)=strsV (sc.reverse.map cs) ++ [.str (sg c)]:=by rw [name_ok e1];simp [strsV]
   rw [e4]
   exact h1.obj _ _
  ·have e3:(sc.length:Int)=4:=by omega
   simp only [e3,if_true]
   exact q2 (fun z=>e2 z.2) H h.kp
 ·rw [if_pos (by simpa using e1)]
  exact q2 (fun z=>e1 z.1) H h.kp
def sp_R_join_by (K:Frag) : Sp:=fun vs H Q _=>∃ (r:Addr) (H0:Hp) (t:List Nat) (n:Nat) (E:List Part) (sc bg lv:List Nat) (dn:List StepP) (dp c d:Nat),vs=[.ref r,.str (sg c)]∧RdAt K H0 H r t n E sc (d :: bg) lv dn dp∧bg.length≤5000 ∧
 (c=38∨c=124→RPost K H0 r t n E sc (c :: bg) lv dn dp (Q (.bl true)))∧(¬ (c=38∨c=124)→∀ H',Kp [] H0 H'→Q (.bl false) H')
theorem sg_is {c d:Nat} (hd:d∈okc) : (sg c=cs d)=(c=d):=by
 rw [eq_iff_iff]
 constructor
 ·intro e
  by_cases q:d=c
  ·exact q.symm
  ·exact absurd e.symm (sg_cs q)
 ·rintro rfl;exact sg_ok hd
theorem sg_am {c:Nat}:(sg c=Str.ofString "&")=(c=38):=sg_is (d:=38) (by decide)
theorem sg_or {c:Nat}:(sg c=Str.ofString "|")=(c=124):=sg_is (d:=124) (by decide)
theorem sg_cl {c:Nat}:(sg c=Str.ofString ")")=(c=41):=sg_is (d:=41) (by decide)
theorem ok_R_join_by (T:Txt P w K mg) : FM P w K mg base 1 "Reader" "join_by" ["self","sign"] (sp_R_join_by K):=by
 refine T.x_R_join_by.F.ok sc_R_join_by (fun _ _ _ _ h=>ex12 h fun _ _ _ _ _ _ _ _ _ _ _ _ e=>e.1▸rfl) fun _ _ _ s H vs Q E hr zh=>ex12 zh fun r H0 t n E sc bg lv dn dp c d yh=>an5 yh fun vz z0 bl q1 q2=>?_
 clear zh yh;subst vz
 obtain ⟨dx,ls,le,lsc,lb,lr,ld,ds,h⟩:=z0
 refine ⟨_,(pss_cons (ps_if (PW.pt (pw_and (pt_ne (pv 1) pe_str (nomark _)) (pw_and1 (pt_ne (pv 1) pe_str (nomark _))))) (pss_one (ps_ret pe_bl)) pss_nil)
   (pss_cons (ps_expr (pe_bm0 PySem.F.plainAttrs_list PySem.F.slot_list_pop PySem.F.type_list_pop mt_pop (pe_fld (pv 0) rfl)))
   (pss_cons (ps_expr (pe_bm PySem.F.plainAttrs_list PySem.F.slot_list_append PySem.F.type_list_append mt_append (pe_fld (pv 0) rfl) (pa_cons (pv 1) pa_nil)))
   (pss_one (ps_ret pe_bl))))),?_⟩
 walk_at "rd"
 simp only [sg_am,sg_or]
 have ev:strsV ((d :: bg).reverse.map cs)=strsV (bg.reverse.map cs) ++ [.str (cs d)]:=by simp [strsV]
 rw [ev] at h
 by_cases e1:c=38
 ·subst e1
  rw [if_neg (by decide)]
  refine ⟨_,_,_,h.hr,T.c_R.cl,T.n_R_begun,_,fs_R_begun,.inl ⟨rfl,_,SqL.of h.hb⟩,lb,rfl,_,h.hb,.str (cs d),by simp,?_⟩
  rw [List.dropLast_concat]
  have h1:=h.setB (strsV (bg.reverse.map cs))
  generalize upd H lb _=H1 at h1 ⊢
  refine ⟨_,_,_,h1.hr,T.c_R.cl,T.n_R_begun,_,fs_R_begun,.inl ⟨rfl,_,SqL.of h1.hb⟩,lb,rfl,_,h1.hb,by rw [sizeLine_eq];simp [strsV];omega,?_⟩
  refine q1 (.inl rfl) _ ⟨dx,ls,le,lsc,lb,lr,ld,ds,?_⟩
  rw [sg_ok (show _∈okc by decide)]
  have:=h1.setB (strsV (bg.reverse.map cs) ++ [.str (cs 38)])
  simpa [strsV] using this
 rw [if_pos e1]
 by_cases e2:c=124
 ·subst e2
  rw [if_neg (by decide)]
  refine ⟨_,_,_,h.hr,T.c_R.cl,T.n_R_begun,_,fs_R_begun,.inl ⟨rfl,_,SqL.of h.hb⟩,lb,rfl,_,h.hb,.str (cs d),by simp,?_⟩
  rw [List.dropLast_concat]
  have h1:=h.setB (strsV (bg.reverse.map cs))
  generalize upd H lb _=H1 at h1 ⊢
  refine ⟨_,_,_,h1.hr,T.c_R.cl,T.n_R_begun,_,fs_R_begun,.inl ⟨rfl,_,SqL.of h1.hb⟩,lb,rfl,_,h1.hb,by rw [sizeLine_eq];simp [strsV];omega,?_⟩
  refine q1 (.inr rfl) _ ⟨dx,ls,le,lsc,lb,lr,ld,ds,?_⟩
  rw [sg_ok (show _∈okc by decide)]
  have:=h1.setB (strsV (bg.reverse.map cs) ++ [.str (cs 124)])
  simpa [strsV] using this
 rw [if_pos e2]
 exact q2 (fun z=>z.elim e1 e2) H h.kp
theorem lv_last (c:Nat) : ∀ sc:List Nat,((List.range sc.length).filter fun i=>decide (sc.reverse.getD i 0=c)).getLast? = if c∈sc then some (lvl sc c) else none
 | []=>rfl
 | y :: sc=>by
  rw [List.length_cons,List.range_succ,List.filter_append]
  have e1:((List.range sc.length).filter fun i=>decide ((y :: sc).reverse.getD i 0=c))=(List.range sc.length).filter fun i=>decide (sc.reverse.getD i 0=c):=by
   apply List.filter_congr
   intro i hi
   have:=List.mem_range.mp hi
   rw [List.reverse_cons]
   simp only [List.getD,List.getElem?_append_left (show i < sc.reverse.length by simpa using this)]
   rfl
  have e2:(y :: sc).reverse.getD sc.length 0=y:=by
   rw [List.reverse_cons]
   simp [List.getD]
  rw [e1]
  by_cases h:y=c
  ·subst h
   rw [List.filter_cons_of_pos (by rw [e2];simp),List.filter_nil,List.getLast?_append]
   simp [lvl]
  ·rw [List.filter_cons_of_neg (by rw [e2];simpa using h),List.filter_nil,List.append_nil,lv_last c sc]
   simp only [List.mem_cons,Ne.symm h,false_or,lvl,if_neg h]
theorem at_last {l:List Nat} {x:Nat} (h:l.getLast? = some x) : atI (l.map fun (z:Nat)=>V.int (z:Int)) (-1)=some (.int (x:Int)):=by
 have hl:0 < l.length:=by
  cases l with
  | nil=>cases h
  | cons a l=>simp
 rw [List.getLast?_eq_getElem?] at h
 unfold atI ixN
 rw [List.length_map,if_neg (by decide),if_pos (by omega),show ((-1:Int)+(l.length:Int)).toNat=l.length - 1 by omega]
 simp only [Option.bind_some,List.getElem?_map,h,Option.map_some]
def sp_R_refer (K:Frag) : Sp:=fun vs H Q _=>∃ (r:Addr) (H0:Hp) (t:List Nat) (n:Nat) (E:List Part) (sc bg lv:List Nat) (dn:List StepP) (dp c:Nat),vs=[.ref r,.str (sg c)]∧RdAt K H0 H r t n E sc bg lv dn dp∧NamesOk sc∧sc.length≤4∧lv.length≤5000 ∧
 (c∈sc→RPost K H0 r t n E sc bg (lv ++ [lvl sc c]) dn dp (Q (.bl true)))∧(c∉sc→∀ H',Kp [] H0 H'→Q (.bl false) H')
theorem ok_R_refer (T:Txt P w K mg) : FM P w K mg base 1 "Reader" "refer" ["self","sign"] (sp_R_refer K):=by
 refine T.x_R_refer.F.ok sc_R_refer (fun _ _ _ _ h=>ex11 h fun _ _ _ _ _ _ _ _ _ _ _ e=>e.1▸rfl) fun _ _ _ s H vs Q E hr zh=>ex11 zh fun r H0 t n E sc bg lv dn dp c yh=>an7 yh fun vz z0 ns s4 ll q1 q2=>?_
 clear zh yh;subst vz
 obtain ⟨dx,ls,le,lsc,lb,lr,ld,ds,h⟩:=z0
 refine ⟨_,(pss_cons (ps_setLc (i:=2) rfl sc_R_refer.nd rfl rfl (sw_true rfl rfl rfl rfl) (pi_enum rfl T.nb_enumerate (pa_cons (pe_fld (pv 0) rfl) pa_nil)) (blkOk_by (own:=[("level",3),("name",4)]) rfl) (fun _ _ _ _ _=>(show PG _ _ (gTup K 2 _) from pg_tup rfl (pgs_cons (pg_name (i:=3) sc_R_refer.nd rfl (Or.inl rfl)) (pgs_cons (pg_name (i:=4) sc_R_refer.nd rfl (Or.inl rfl)) pgs_nil)))) (fun _ _ _ _ _=>(pts_one (pt_eq (pv 4) (pv 1) (nomark _)))) (fun _ _ _ _ _=>(pv 3)))
   (pss_cons (ps_if (pt_eq (pe_callB call_len_seq (by rfl) T.nb_len PySem.boot_len (pa_cons (pv 2) pa_nil)) pe_int (nomark _)) (pss_one (ps_ret pe_bl)) pss_nil)
   (pss_cons (ps_expr (pe_bm PySem.F.plainAttrs_list PySem.F.slot_list_append PySem.F.type_list_append mt_append (pe_fld (pv 0) rfl) (pa_cons (pe_ix ix_list (pv 2) (pe_un un_neg pe_int) (fun _ _=>rfl)) pa_nil)))
   (pss_one (ps_ret pe_bl))))),?_⟩
 walk_at "rd"
 refine tlc_if (H1:=H) (J:=Ite K lsc) (n:=(strsV (sc.reverse.map cs)).length) (fun i=>decide (sc.reverse.getD i 0=c)) (fun i=>.int (i:Int)) ?_ (turns_enum (SqL.of h.hc)) (by rw [sizeLine_eq];simp [strsV];omega) ?_ fun D H1 hD k1 h1=>?_
 ·intro R q
  walk_at "ev"
  simp only [h.hr,T.c_R.cl,nR T,fs_R_signs,fs_R_at,fs_R_expected,fs_R_scope,fs_R_deepest,fs_R_begun,fs_R_read_levels,fs_R_done,hpL,V.int.injEq,V.ref.injEq]
  exact ⟨_,SqL.of h.hc,q⟩
 ·rintro i _ H2 Q2 N2 hi ⟨Tp,y,rfl,hT,hy⟩ k2 p1 p2
  obtain ⟨x,hx,rfl⟩ : ∃ x,sc.reverse[i]? = some x∧y=.str (cs x):=by
   unfold strsV at hy
   rw [List.getElem?_map,List.getElem?_map] at hy
   cases e:sc.reverse[i]? with
   | none=>rw [e] at hy;cases hy
   | some z=>rw [e] at hy;cases hy;exact ⟨z,rfl,rfl⟩
  have xn:isName x=true:=ns x (List.mem_reverse.mp (List.mem_of_getElem? hx))
  have ex:(cs x=sg c)=(x=c):=by
   rw [eq_iff_iff]
   constructor
   ·intro e
    by_cases q:x=c
    ·exact q
    ·exact absurd e (sg_cs q)
   ·rintro rfl;exact (name_ok xn).symm
  have gx:sc.reverse.getD i 0=x:=by simp [List.getD,hx]
  refine ⟨Tp,[.int (i:Nat),.str (cs x)],rfl,SqT.of hT,rfl,_,_,rfl,_,_,rfl,rfl,rfl,?_⟩
  walk_at "rd"
  simp only [ex]
  rw [gx] at p1 p2
  by_cases e:x=c
  ·rw [if_pos e];exact p1 (decide_eq_true e) H2 (Kp.refl _)
  ·rw [if_neg e];exact p2 (decide_eq_false e) H2 (Kp.refl _)
 have sl:(strsV (sc.reverse.map cs)).length=sc.length:=by simp [strsV]
 rw [sl] at h1
 have last:=lv_last c sc
 have h1':=h.kp' k1
 generalize ((List.range sc.length).filter fun i=>decide (sc.reverse.getD i 0=c))=lvs at h1 last
 walk_at "rd"
 refine ⟨_,.inl (SqL.of h1),?_⟩
 by_cases e:c∈sc
 ·rw [if_pos e] at last
  have hl:lvs.length≠0:=fun z=>by rw [List.length_eq_zero_iff.mp z] at last;cases last
  rw [if_neg (by rw [List.length_map];omega)]
  refine ⟨_,_,_,h1'.hr,T.c_R.cl,T.n_R_read_levels,_,fs_R_read_levels,.inl ⟨rfl,_,SqL.of h1'.hl⟩,_,SqL.of h1,_,at_last last,lr,rfl,_,h1'.hl,by rw [sizeLine_eq,List.length_map];omega,?_⟩
  refine q1 e _ ⟨dx,ls,le,lsc,lb,lr,ld,ds,?_⟩
  rw [List.map_append]
  exact h1'.setL _
 ·rw [if_neg e,List.getLast?_eq_none_iff] at last
  subst last
  rw [if_pos (by rfl)]
  exact q2 e H1 h1'.kp
open Rc82 (isName)
theorem fR_begin_formula {a b c d e f g h:V}:(fs_R a b c d e f g h).lookup ("begin_formula" : Str)=none:=rfl
theorem fR_bind {a b c d e f g h:V}:(fs_R a b c d e f g h).lookup ("bind" : Str)=none:=rfl
theorem fR_refer {a b c d e f g h:V}:(fs_R a b c d e f g h).lookup ("refer" : Str)=none:=rfl
theorem fR_join_by {a b c d e f g h:V}:(fs_R a b c d e f g h).lookup ("join_by" : Str)=none:=rfl
theorem fR_fits {a b c d e f g h:V}:(fs_R a b c d e f g h).lookup ("fits" : Str)=none:=rfl
theorem fR_end_formula {a b c d e f g h:V}:(fs_R a b c d e f g h).lookup ("end_formula" : Str)=none:=rfl
theorem fR_advance {a b c d e f g h:V}:(fs_R a b c d e f g h).lookup ("advance" : Str)=none:=rfl
theorem fR_at_end {a b c d e f g h:V}:(fs_R a b c d e f g h).lookup ("at_end" : Str)=none:=rfl
noncomputable def advC (c:Nat) (p:Part) (E:List Part) (sc bg lv:List Nat) (dp:Nat) : Option (List Part × List Nat × List Nat × List Nat × Nat):=match p with
 | .form=>(fol c).map fun ps=>(ps ++ E,sc,c :: bg,lv,dp)
 | .bind=>if isName c=true∧sc.length < 4 then some (E,c :: sc,bg,lv,max dp (sc.length+1)) else none
 | .name=>if c∈sc then some (E,sc,bg,lv ++ [lvl sc c],dp) else none
 | .join=>if c=38∨c=124 then some (E,sc,c :: bg.tail,lv,dp) else none
 | .close=>if c=41 then some (E,sc,bg,lv,dp) else none
 | _=>none
def sp_R_fits (K:Frag) : Sp:=fun vs H Q _=>∃ (r:Addr) (H0:Hp) (t:List Nat) (n:Nat) (p:Part) (E:List Part) (sc bg lv:List Nat) (dn:List StepP) (dp c:Nat),vs=[.ref r,.str (partS p),.str (sg c)]∧p≠.fin∧p≠.leave∧RdAt K H0 H r t n E sc bg lv dn dp∧(p=.join→bg≠[])∧c < 256∧NamesOk sc∧sc.length≤4∧E.length≤5000∧bg.length≤5000∧lv.length≤5000 ∧
 (∀ q,advC c p E sc bg lv dp=some q→RPost K H0 r t n q.1 q.2.1 q.2.2.1 q.2.2.2.1 dn q.2.2.2.2 (Q (.bl true)))∧(advC c p E sc bg lv dp=none→∀ H',Kp [] H0 H'→Q (.bl false) H')
theorem ok_R_fits (T:Txt P w K mg) : FM P w K mg base 2 "Reader" "fits" ["self","part","sign"] (sp_R_fits K):=by
 refine T.x_R_fits.F.ok sc_R_fits (fun _ _ _ _ h=>ex12 h fun _ _ _ _ _ _ _ _ _ _ _ _ e=>e.1▸rfl) fun _ _ _ s H vs Q E hr zh=>ex12 zh fun r H0 t n p E sc bg lv dn dp c yh=>an13 yh fun vz p1 p2 ra pj c256 ns s4 El bl ll q1 q2=>?_
 clear zh yh;subst vz
 obtain ⟨dx,ls,le,lsc,lb,lr,ld,ds,h⟩:=id ra
 refine ⟨_,(pss_cons (ps_if (pt_eq (pv 1) pe_str (nomark _)) (pss_one (ps_ret (pe_meth (pv 0) T.c_R.cl T.x_R_begin_formula.m (ok_R_begin_formula T) (hr.mono (by decide)) T.x_R_begin_formula.b .nil pass0 (pa_cons (pv 2) pa_nil)))) pss_nil)
   (pss_cons (ps_if (pt_eq (pv 1) pe_str (nomark _)) (pss_one (ps_ret (pe_meth (pv 0) T.c_R.cl T.x_R_bind.m (ok_R_bind T) (hr.mono (by decide)) T.x_R_bind.b .nil pass0 (pa_cons (pv 2) pa_nil)))) pss_nil)
   (pss_cons (ps_if (pt_eq (pv 1) pe_str (nomark _)) (pss_one (ps_ret (pe_meth (pv 0) T.c_R.cl T.x_R_refer.m (ok_R_refer T) (hr.mono (by decide)) T.x_R_refer.b .nil pass0 (pa_cons (pv 2) pa_nil)))) pss_nil)
   (pss_cons (ps_if (pt_eq (pv 1) pe_str (nomark _)) (pss_one (ps_ret (pe_meth (pv 0) T.c_R.cl T.x_R_join_by.m (ok_R_join_by T) (hr.mono (by decide)) T.x_R_join_by.b .nil pass0 (pa_cons (pv 2) pa_nil)))) pss_nil)
   (pss_one (ps_ret (pe_cmpR op_eq (pv 2) pe_str (nomark _)))))))),?_⟩
 walk_at "rd"
 simp only [h.hr,fR_begin_formula,fR_bind,fR_refer,fR_join_by,hpL,V.int.injEq,V.ref.injEq]
 cases p with
 | fin=>exact absurd rfl p1
 | leave=>exact absurd rfl p2
 | form =>
  rw [if_pos (show partS .form=Str.ofString "formula" from rfl)]
  exact ⟨r,H0,t,n,E,sc,bg,lv,dn,dp,c,rfl,ra,El,bl,fun ps e=>q1 _ (by simp only [advC,e];rfl),fun e=>q2 (by simp only [advC,e];rfl)⟩
 | bind =>
  rw [if_neg (by decide),if_pos (show partS .bind=Str.ofString "binder" from rfl)]
  exact ⟨r,H0,t,n,E,sc,bg,lv,dn,dp,c,rfl,ra,c256,s4,fun e1 e2=>q1 (_,_,_,_,_) (by simp only [advC];rw [if_pos ⟨e1,e2⟩]),fun e=>q2 (by simp only [advC];rw [if_neg e])⟩
 | name =>
  rw [if_neg (by decide),if_neg (by decide),if_pos (show partS .name=Str.ofString "name" from rfl)]
  exact ⟨r,H0,t,n,E,sc,bg,lv,dn,dp,c,rfl,ra,ns,s4,ll,fun e=>q1 (_,_,_,_,_) (by simp only [advC];rw [if_pos e]),fun e=>q2 (by simp only [advC];rw [if_neg e])⟩
 | join =>
  rw [if_neg (by decide),if_neg (by decide),if_neg (by decide),if_pos (show partS .join=Str.ofString "join" from rfl)]
  cases bg with
  | nil=>exact absurd rfl (pj rfl)
  | cons d bg=>exact ⟨r,H0,t,n,E,sc,bg,lv,dn,dp,c,d,rfl,ra,by simp at bl;omega,fun e=>q1 (_,_,_,_,_) (by simp only [advC];rw [if_pos e];rfl),fun e=>q2 (by simp only [advC];rw [if_neg e])⟩
 | close =>
  rw [if_neg (by decide),if_neg (by decide),if_neg (by decide),if_neg (by decide)]
  simp only [sg_cl]
  by_cases e:c=41
  ·have:=q1 (_,_,_,_,_) (by simp only [advC];rw [if_pos e]) H ra
   simpa [e] using this
  ·have:=q2 (by simp only [advC];rw [if_neg e]) H h.kp
   simpa [e] using this
noncomputable def adv (t:List Nat) (n:Nat) (p:Part) (E:List Part) (sc bg lv:List Nat) (dn:List StepP) (dp:Nat) : Option (Nat × List Part × List Nat × List Nat × List Nat × List StepP × Nat):=match p with
 | .fin=>some (n,E,sc,bg.tail,[],dn ++ [(bg.headD 0,sc.length,lv)],dp)
 | .leave=>some (n,E,sc.tail,bg,lv,dn,dp)
 | p=>(advC ((t[n]?).getD 0) p E sc bg lv dp).map fun q=>(n+1,q.1,q.2.1,q.2.2.1,q.2.2.2.1,dn,q.2.2.2.2)
def wf :List Part→Nat→Nat→Prop
 | [],_,_=>True
 | .fin :: E,b,s=>∃ b',b=b'+1∧wf E b' s
 | .leave :: E,b,s=>∃ s',s=s'+1∧wf E b s'
 | .form :: E,b,s=>wf E b s
 | .bind :: E,b,s=>wf E b (s+1)
 | .name :: E,b,s=>wf E b s
 | .join :: E,b,s=>0 < b∧wf E b s
 | .close :: E,b,s=>wf E b s
def sp_R_advance (K:Frag) : Sp:=fun vs H Q _=>∃ (r:Addr) (H0:Hp) (t:List Nat) (n:Nat) (p:Part) (E:List Part) (sc bg lv:List Nat) (dn:List StepP) (dp:Nat),vs=[.ref r]∧RdAt K H0 H r t n (p :: E) sc bg lv dn dp∧wf (p :: E) bg.length sc.length∧n≤t.length∧(∀ c∈t,c < 256)∧NamesOk sc∧sc.length≤4∧E.length≤5000∧bg.length≤5000∧lv.length≤5000∧dn.length≤5000 ∧
 (∀ q,adv t n p E sc bg lv dn dp=some q→RPost K H0 r t q.1 q.2.1 q.2.2.1 q.2.2.2.1 q.2.2.2.2.1 q.2.2.2.2.2.1 q.2.2.2.2.2.2 (Q (.bl true)))∧(adv t n p E sc bg lv dn dp=none→∀ H',Kp [] H0 H'→Q (.bl false) H')
theorem ok_R_advance (T:Txt P w K mg) : FM P w K mg base 4 "Reader" "advance" ["self"] (sp_R_advance K):=by
 refine T.x_R_advance.F.ok sc_R_advance (fun _ _ _ _ h=>ex11 h fun _ _ _ _ _ _ _ _ _ _ _ e=>e.1▸rfl) fun _ _ _ s H vs Q E hr zh=>ex11 zh fun r H0 t n p E sc bg lv dn dp yh=>an13 yh fun vz z0 hw nt tb ns s4 El bl ll dl q1 q2=>?_
 clear zh yh;subst vz
 obtain ⟨dx,ls,le,lsc,lb,lr,ld,ds,h⟩:=z0
 refine ⟨_,(pss_cons (ps_set (i:=1) sc_R_advance.nd rfl (Or.inl rfl) (pe_bm0 PySem.F.plainAttrs_list PySem.F.slot_list_pop PySem.F.type_list_pop mt_pop (pe_fld (pv 0) rfl)))
   (pss_cons (ps_if (pt_eq (pv 1) pe_str (nomark _)) (pss_cons (ps_expr (pe_meth0 (pv 0) T.c_R.cl T.x_R_end_formula.m (ok_R_end_formula T) (hr.mono (by decide)) T.x_R_end_formula.b .nil pass0))
   (pss_one (ps_ret pe_bl))) pss_nil)
   (pss_cons (ps_if (pt_eq (pv 1) pe_str (nomark _)) (pss_cons (ps_expr (pe_bm0 PySem.F.plainAttrs_list PySem.F.slot_list_pop PySem.F.type_list_pop mt_pop (pe_fld (pv 0) rfl)))
   (pss_one (ps_ret pe_bl))) pss_nil)
   (pss_cons (ps_set (i:=2) sc_R_advance.nd rfl (Or.inl rfl) (pe_ix ix_list (pe_fld (pv 0) rfl) (pe_fld (pv 0) rfl) (fun _ _=>rfl)))
   (pss_cons (ps_fldaug (pv 0) pe_int in_add)
   (pss_one (ps_ret (pe_meth (pv 0) T.c_R.cl T.x_R_fits.m (ok_R_fits T) (hr.mono (by decide)) T.x_R_fits.b .nil pass0 (pa_cons (pv 1) (pa_cons (pv 2) pa_nil)))))))))),?_⟩
 walk_at "rd"
 simp only [h.hr,T.c_R.cl,nR T,fs_R_signs,fs_R_at,fs_R_expected,fs_R_scope,fs_R_deepest,fs_R_begun,fs_R_read_levels,fs_R_done,hpL,V.int.injEq,V.ref.injEq]
 have ev:strsV ((p :: E).reverse.map partS)=strsV (E.reverse.map partS) ++ [.str (partS p)]:=by simp [strsV]
 rw [ev] at h
 refine ⟨.inl ⟨rfl,_,SqL.of h.he⟩,_,h.he,.str (partS p),by simp,?_⟩
 rw [List.dropLast_concat]
 have h1:=h.setE (strsV (E.reverse.map partS))
 generalize upd H le _=H1 at h1 ⊢
 simp only [kE_s,iteT_r,iteF_r,h1.hr,fR_fits,fR_end_formula,V.str.injEq,T.c_R.cl,nR T,fs_R_signs,fs_R_at,fs_R_expected,fs_R_scope,fs_R_deepest,fs_R_begun,fs_R_read_levels,fs_R_done,hpL,V.int.injEq,V.ref.injEq]
 by_cases hf:p=.fin
 ·subst hf
  obtain ⟨b',eb,hw'⟩:=hw
  cases bg with
  | nil=>simp at eb
  | cons c bg =>
   rw [if_pos (show partS .fin=Str.ofString "end" from rfl)]
   exact ⟨r,H0,t,n,E,sc,bg,lv,dn,dp,c,rfl,⟨dx,ls,le,lsc,lb,lr,ld,ds,h1⟩,dl,q1 _ rfl⟩
 by_cases hl:p=.leave
 ·subst hl
  obtain ⟨s',es,hw'⟩:=hw
  cases sc with
  | nil=>simp at es
  | cons x sc =>
   rw [if_neg (by decide),if_pos (show partS .leave=Str.ofString "leave" from rfl)]
   have ec:strsV ((x :: sc).reverse.map cs)=strsV (sc.reverse.map cs) ++ [.str (cs x)]:=by simp [strsV]
   rw [ec] at h1
   refine ⟨.inl ⟨rfl,_,SqL.of h1.hc⟩,_,h1.hc,.str (cs x),by simp,?_⟩
   rw [List.dropLast_concat]
   exact q1 _ rfl _ ⟨dx,ls,le,lsc,lb,lr,ld,ds,h1.setC _⟩
 have n1:¬ partS p=Str.ofString "end":=by
  cases p with
  | fin=>exact absurd rfl hf
  | leave=>exact absurd rfl hl
  | _=>decide
 have n2:¬ partS p=Str.ofString "leave":=by
  cases p with
  | fin=>exact absurd rfl hf
  | leave=>exact absurd rfl hl
  | _=>decide
 have ha:adv t n p E sc bg lv dn dp=(advC ((t[n]?).getD 0) p E sc bg lv dp).map fun q=>(n+1,q.1,q.2.1,q.2.2.1,q.2.2.2.1,dn,q.2.2.2.2):=by
  cases p with
  | fin=>exact absurd rfl hf
  | leave=>exact absurd rfl hl
  | _=>rfl
 have hj:p=.join→bg≠[]:=fun e z=>by
  subst e z
  exact absurd hw.1 (by simp)
 rw [if_neg n1,if_neg n2]
 have sa:atI (strsV (t.map sg) ++ [V.str (Str.ofString "")]) (n:Int)=some (.str (sg ((t[n]?).getD 0))):=by
  refine atI_nat ?_
  by_cases e:n < t.length
  ·rw [List.getElem?_append_left (by simp [strsV];exact e)]
   simp [strsV,List.getElem?_eq_getElem e]
  ·have e':n=t.length:=by omega
   rw [List.getElem?_append_right (by simp [strsV];omega),e']
   simp [strsV]
   decide
 have c256:(t[n]?).getD 0 < 256:=by
  by_cases e:n < t.length
  ·rw [List.getElem?_eq_getElem e];exact tb _ (List.getElem_mem e)
  ·rw [List.getElem?_eq_none (by omega)];decide
 rw [pf_R_at]
 have h2:=h1.obj ((n+1:Nat) : Int) dp
 refine ⟨_,SqL.of h1.hs,_,sa,(show 8 < 1000 by decide),_,_,upd_same,fR_fits,r,H0,t,n+1,p,E,sc,bg,lv,dn,dp,_,rfl,hf,hl,⟨dx,ls,le,lsc,lb,lr,ld,ds,h2⟩,hj,c256,ns,s4,El,bl,ll,fun q e=>q1 (n+1,q.1,q.2.1,q.2.2.1,q.2.2.2.1,dn,q.2.2.2.2) (by rw [ha,e];rfl),fun e=>q2 (by rw [ha,e];rfl)⟩
theorem adv_wf {t:List Nat} {n:Nat} {p:Part} {E:List Part} {sc bg lv:List Nat} {dn:List StepP} {dp:Nat} {q:Nat × List Part × List Nat × List Nat × List Nat × List StepP × Nat} (h:adv t n p E sc bg lv dn dp=some q) (hw:wf (p :: E) bg.length sc.length) (ns:NamesOk sc) (s4:sc.length≤4) :
  wf q.2.1 q.2.2.2.1.length q.2.2.1.length∧NamesOk q.2.2.1∧q.2.2.1.length≤4∧(q.1=n∧q.2.1.length=E.length∨q.1=n+1∧q.2.1.length≤E.length+5)∧q.2.2.2.1.length+q.2.2.2.2.2.1.length+n≤bg.length+dn.length+q.1∧q.2.2.2.2.1.length+n≤lv.length+q.1:=by
 cases p with
 | fin =>
  cases h
  obtain ⟨b',e,hw'⟩:=hw
  cases bg with
  | nil=>simp at e
  | cons c bg=>simp at e;exact ⟨by simpa [e] using hw',ns,s4,.inl ⟨rfl,rfl⟩,by simp <;> omega,by simp⟩
 | leave =>
  cases h
  obtain ⟨s',e,hw'⟩:=hw
  cases sc with
  | nil=>simp at e
  | cons c sc=>simp at e;exact ⟨by simpa [e] using hw',(fun x hx=>ns x (List.mem_cons_of_mem _ hx)),by simp at s4 ⊢;omega,.inl ⟨rfl,rfl⟩,Nat.le_refl _,Nat.le_refl _⟩
 | form =>
  simp only [adv,advC,Option.map_map,Option.map_eq_some_iff] at h
  obtain ⟨ps,e,rfl⟩:=h
  refine ⟨?_,ns,s4,.inr ⟨rfl,?_⟩,by simp <;> omega,by simp <;> omega⟩
  ·unfold fol at e
   repeat' split at e
   all_goals first | cases e | skip
   all_goals exact (by simpa [wf] using hw)
  ·unfold fol at e
   repeat' split at e
   all_goals first | cases e | skip
   all_goals (simp;try omega)
 | bind =>
  simp only [adv,advC,Option.map_eq_some_iff] at h
  obtain ⟨x,e,rfl⟩:=h
  split at e
  ·rename_i hc
   cases e
   exact ⟨hw,ns.cons hc.1,by simp <;> omega,.inr ⟨rfl,by simp⟩,by simp <;> omega,by simp <;> omega⟩
  ·cases e
 | name =>
  simp only [adv,advC,Option.map_eq_some_iff] at h
  obtain ⟨x,e,rfl⟩:=h
  split at e
  ·cases e
   exact ⟨hw,ns,s4,.inr ⟨rfl,by simp⟩,by simp <;> omega,by simp <;> omega⟩
  ·cases e
 | join =>
  simp only [adv,advC,Option.map_eq_some_iff] at h
  obtain ⟨x,e,rfl⟩:=h
  split at e
  ·cases e
   obtain ⟨hb,hw'⟩:=hw
   have eb:bg.tail.length+1=bg.length:=by rw [List.length_tail];omega
   exact ⟨by rw [List.length_cons,eb];exact hw',ns,s4,.inr ⟨rfl,by simp⟩,by simp only [List.length_cons];omega,by simp <;> omega⟩
  ·cases e
 | close =>
  simp only [adv,advC,Option.map_eq_some_iff] at h
  obtain ⟨x,e,rfl⟩:=h
  split at e
  ·cases e
   exact ⟨hw,ns,s4,.inr ⟨rfl,by simp⟩,by simp <;> omega,by simp <;> omega⟩
  ·cases e
theorem adv_run {t:List Nat} {n:Nat} {p:Part} {E:List Part} {sc bg lv:List Nat} {dn:List StepP} {dp:Nat} (hn:n≤t.length) (hw:wf (p :: E) bg.length sc.length) (ns:NamesOk sc) (res:List StepP × Nat) :
  match adv t n p E sc bg lv dn dp with
  | some q=>Run (p :: E) sc (t.drop n) bg lv dn dp res↔Run q.2.1 q.2.2.1 (t.drop q.1) q.2.2.2.1 q.2.2.2.2.1 q.2.2.2.2.2.1 q.2.2.2.2.2.2 res
  | none=>¬ Run (p :: E) sc (t.drop n) bg lv dn dp res:=by
 have dr:(∃ c,(t[n]?).getD 0=c∧t.drop n=c :: t.drop (n+1))∨((t[n]?).getD 0=0∧t.drop n=[]):=by
  by_cases e:n < t.length
  ·exact .inl ⟨_,rfl,by rw [List.drop_eq_getElem_cons e,List.getElem?_eq_getElem e];rfl⟩
  ·exact .inr ⟨by rw [List.getElem?_eq_none (by omega)];rfl,List.drop_eq_nil_of_le (by omega)⟩
 cases p with
 | fin =>
  obtain ⟨b',e,_⟩:=hw
  cases bg with
  | nil=>simp at e
  | cons c bg =>
   refine ⟨fun h=>?_,fun h=>.fin h⟩
   have hv:=h.inv;clear h
   obtain ⟨_,_,eb,h⟩:=hv
   cases eb
   exact h
 | leave =>
  obtain ⟨b',e,_⟩:=hw
  cases sc with
  | nil=>simp at e
  | cons c sc =>
   refine ⟨fun h=>?_,fun h=>.leave h⟩
   have hv:=h.inv;clear h
   obtain ⟨_,_,eb,h⟩:=hv
   cases eb
   exact h
 | form =>
  rcases dr with ⟨c,e1,e2⟩ | ⟨e1,e2⟩
  ·simp only [adv,advC,e1,e2]
   cases e:fol c with
   | none =>
    intro h
    have hv:=h.inv;clear h
    obtain ⟨_,_,_,eb,hf,_⟩:=hv
    cases eb
    rw [e] at hf;cases hf
   | some ps =>
    refine ⟨fun h=>?_,fun h=>.form e h⟩
    have hv:=h.inv;clear h
    obtain ⟨_,_,_,eb,hf,h⟩:=hv
    cases eb
    rw [e] at hf;cases hf;exact h
  ·simp only [adv,advC,e1,e2,show fol 0=none from rfl]
   intro h
   obtain ⟨_,_,_,eb,_⟩:=h.inv
   cases eb
 | bind =>
  rcases dr with ⟨c,e1,e2⟩ | ⟨e1,e2⟩
  ·simp only [adv,advC,e1,e2]
   by_cases e:isName c=true∧sc.length < 4
   ·rw [if_pos e]
    refine ⟨fun h=>?_,fun h=>.bind e.1 e.2 h⟩
    have hv:=h.inv;clear h
    obtain ⟨_,_,eb,_,_,h⟩:=hv
    cases eb
    exact h
   ·rw [if_neg e]
    intro h
    have hv:=h.inv;clear h
    obtain ⟨_,_,eb,a,b,_⟩:=hv
    cases eb
    exact e ⟨a,b⟩
  ·simp only [adv,advC,e1,e2]
   rw [if_neg fun z=>absurd z.1 (by decide)]
   intro h
   obtain ⟨_,_,eb,_⟩:=h.inv
   cases eb
 | name =>
  rcases dr with ⟨c,e1,e2⟩ | ⟨e1,e2⟩
  ·simp only [adv,advC,e1,e2]
   by_cases e:c∈sc
   ·rw [if_pos e]
    refine ⟨fun h=>?_,fun h=>.name e h⟩
    have hv:=h.inv;clear h
    obtain ⟨_,_,eb,_,h⟩:=hv
    cases eb
    exact h
   ·rw [if_neg e]
    intro h
    have hv:=h.inv;clear h
    obtain ⟨_,_,eb,a,_⟩:=hv
    cases eb
    exact e a
  ·simp only [adv,advC,e1,e2]
   rw [if_neg fun z=>absurd (ns 0 z) (by decide)]
   intro h
   obtain ⟨_,_,eb,_⟩:=h.inv
   cases eb
 | join =>
  obtain ⟨hb,_⟩:=hw
  cases bg with
  | nil=>simp at hb
  | cons d bg =>
   rcases dr with ⟨c,e1,e2⟩ | ⟨e1,e2⟩
   ·simp only [adv,advC,e1,e2]
    by_cases e:c=38∨c=124
    ·rw [if_pos e]
     refine ⟨fun h=>?_,fun h=>.join e h⟩
     have hv:=h.inv;clear h
     obtain ⟨_,_,_,_,eb,ec,_,h⟩:=hv
     cases eb
     cases ec
     exact h
    ·rw [if_neg e]
     intro h
     have hv:=h.inv;clear h
     obtain ⟨_,_,_,_,eb,ec,a,_⟩:=hv
     cases eb
     cases ec
     exact e a
   ·simp only [adv,advC,e1,e2]
    rw [if_neg (by decide)]
    intro h
    obtain ⟨_,_,_,_,eb,_⟩:=h.inv
    cases eb
 | close =>
  rcases dr with ⟨c,e1,e2⟩ | ⟨e1,e2⟩
  ·simp only [adv,advC,e1,e2]
   by_cases e:c=41
   ·subst e
    rw [if_pos rfl]
    refine ⟨fun h=>?_,fun h=>.close h⟩
    have hv:=h.inv;clear h
    obtain ⟨_,eb,h⟩:=hv
    cases eb
    exact h
   ·rw [if_neg e]
    intro h
    have hv:=h.inv;clear h
    obtain ⟨_,eb,_⟩:=hv
    cases eb
    exact e rfl
  ·simp only [adv,advC,e1,e2]
   rw [if_neg (by decide)]
   intro h
   obtain ⟨_,eb,_⟩:=h.inv
   cases eb
theorem advC_zero {p:Part} {E:List Part} {sc bg lv:List Nat} {dp:Nat} (ns:NamesOk sc) : advC 0 p E sc bg lv dp=none:=by
 cases p with
 | form=>rfl
 | bind=>simp only [advC];rw [if_neg fun z=>absurd z.1 (by decide)]
 | name=>simp only [advC];rw [if_neg fun z=>absurd (ns 0 z) (by decide)]
 | join=>rfl
 | close=>rfl
 | fin=>rfl
 | leave=>rfl
theorem adv_le {t:List Nat} {n:Nat} {p:Part} {E:List Part} {sc bg lv:List Nat} {dn:List StepP} {dp:Nat} {q:Nat × List Part × List Nat × List Nat × List Nat × List StepP × Nat} (h:adv t n p E sc bg lv dn dp=some q) (hn:n≤t.length) (ns:NamesOk sc) : q.1≤t.length:=by
 by_cases e:n < t.length
 ·cases p <;> simp only [adv,Option.map_eq_some_iff,Option.some.injEq] at h
  case fin=>rw [←h];exact hn
  case leave=>rw [←h];exact hn
  all_goals (obtain ⟨x,_,rfl⟩:=h;exact e)
 ·have e0:(t[n]?).getD 0=0:=by rw [List.getElem?_eq_none (by omega)];rfl
  cases p <;> simp only [adv,e0,advC_zero ns,Option.map_none,Option.some.injEq,reduceCtorEq] at h
  case fin=>rw [←h];exact hn
  case leave=>rw [←h];exact hn
def sp_sentence_of (K:Frag) : Sp:=fun vs H Q _=>∃ (lc:Addr) (t:List Nat) (X:List Addr),vs=[.ref lc]∧(∀ x∈X,H x≠none)∧lc∉X∧H lc=some (nats t)∧t.length≤256∧(∀ c∈t,c < 256) ∧
 (∀ f,Rc82.sentence t=some f→∀ H' s,Kp [] H H'→H s=none→SenAt K (hide X H') s f→Q (.ref s) H')∧(Rc82.sentence t=none→∀ H',Kp [] H H'→Q .non H')
theorem kp_new2 {H:Hp} {x dx:Addr} {C:Addr} (hx:H x=none) (hd:H dx=none) (hne:dx≠x) : Kp [] H (upd (upd H dx (.own x)) x (.ins C dx [])):=((Kp.refl _).new hd).new (by rw [upd_ne (Ne.symm hne)];exact hx)
theorem ok_sentence_of (T:Txt P w K mg) : FF P w K mg base 5 "sentence_of" ["codes"] (sp_sentence_of K):=by
 refine T.x_sentence_of.F.ok sc_sentence_of (fun _ _ _ _ h=>ex3 h fun _ _ _ e=>e.1▸rfl) fun _ _ _ s H vs Q E hr zh=>ex3 zh fun lc t X yh=>an8 yh fun vz hX lX hlc tl tb q1 q2=>?_
 clear zh yh;subst vz
 refine ⟨_,(pss_cons (ps_set (i:=1) sc_sentence_of.nd rfl (Or.inl rfl) (pe_make T.c_R.mkr (ok_R_init T) (hr.mono (by decide)) rfl T.c_R.c T.x_R_init.b .nil pass0 (pa_cons (pv 0) pa_nil)))
   (pss_cons (ps_while PassesOwn.never (pt_gt (pe_callB call_len_seq (by rfl) T.nb_len PySem.boot_len (pa_cons (pe_fld (pv 1) rfl) pa_nil)) pe_int (nomark _)) (pss_one (ps_if (pt_not (pt_val (pe_meth0 (pv 1) T.c_R.cl T.x_R_advance.m (ok_R_advance T) (hr.mono (by decide)) T.x_R_advance.b .nil pass0))) (pss_one (ps_ret pe_non)) pss_nil)))
   (pss_cons (ps_if (pt_not (pt_val (pe_meth0 (pv 1) T.c_R.cl T.x_R_at_end.m (ok_R_at_end T) (hr.mono (by decide)) T.x_R_at_end.b .nil pass0))) (pss_one (ps_ret pe_non)) pss_nil)
   (pss_one (ps_ret (pe_make T.c_N.mkr (ok_N_init T) (hr.mono (by decide)) rfl T.c_N.c T.x_N_init.b .nil pass0 (pa_cons (pv 0) (pa_cons (pe_fld (pv 1) rfl) (pa_cons (pe_fld (pv 1) rfl) pa_nil))))))))),?_⟩
 walk_at "rd"
 intro r dr hr0 hd0 hne
 have k0:=kp_new2 (C:=cA K "Reader") hr0 hd0 hne
 refine ⟨r,dr,lc,H,t,rfl,upd_same,k0 _ _ hlc (by simp),tl,tb,hr0,k0,fun H1 ra=>⟨rfl,?_⟩⟩
 have rn:∀ f,Rc82.sentence t=some f→Run [.form] [] t [] [] [] 0 (post [] f,Rc82.rank f):=fun f h=>run_sen h
 refine ⟨fun m σ H'=>σ=[some (.ref lc),some (.ref r)]∧∃ (n:Nat) (E:List Part) (sc bg lv:List Nat) (dn:List StepP) (dp:Nat),m=6*(t.length - n)+E.length∧RdAt K H H' r t n E sc bg lv dn dp∧wf E bg.length sc.length∧n≤t.length∧NamesOk sc∧sc.length≤4∧E.length≤5*n+1∧bg.length+dn.length≤n∧lv.length≤n∧∀ res,Run [.form] [] t [] [] [] 0 res↔Run E sc (t.drop n) bg lv dn dp res,⟨_,rfl,0,_,_,_,_,_,_,rfl,ra,trivial,Nat.zero_le _,(fun x hx=>nomatch hx),Nat.zero_le _,by decide,Nat.le_refl _,Nat.le_refl _,fun res=>Iff.rfl⟩,?_⟩
 rintro m _ H2 ⟨rfl,n,E,sc,bg,lv,dn,dp,rfl,ra2,hw,nt,ns,s4,El,bl,ll,run⟩
 obtain ⟨dx,ls,le,lsc,lb,lr,ld,ds,h⟩:=id ra2
 walk_at "rd"
 simp only [h.hr,T.c_R.cl,nR T,fs_R_signs,fs_R_at,fs_R_expected,fs_R_scope,fs_R_deepest,fs_R_begun,fs_R_read_levels,fs_R_done,hpL,V.int.injEq,V.ref.injEq]
 refine ⟨_,.inl (SqL.of h.he),?_⟩
 cases E with
 | nil =>
  rw [if_neg (by simp [strsV])]
  simp only [h.hr,fR_at_end,T.c_R.cl,nR T,fs_R_signs,fs_R_at,fs_R_expected,fs_R_scope,fs_R_deepest,fs_R_begun,fs_R_read_levels,fs_R_done,hpL,V.int.injEq,V.ref.injEq]
  refine ⟨r,H,t,n,[],sc,bg,lv,dn,dp,rfl,ra2,_,rfl,?_⟩
  by_cases en:n=t.length
  ·simp only [en,decide_true,Bool.true_eq_false,if_false,reduceCtorEq]
   subst en
   have hres:=(run (dn,dp)).mpr (by rw [List.drop_length];exact .done)
   obtain ⟨f,hf,he⟩:=sen_run hres
   cases he
   simp only [h.hr,T.c_R.cl,nR T,fs_R_signs,fs_R_at,fs_R_expected,fs_R_scope,fs_R_deepest,fs_R_begun,fs_R_read_levels,fs_R_done,hpL,V.int.injEq,V.ref.injEq]
   intro s dy hs hdy hne2
   refine ⟨s,dy,_,_,_,rfl,upd_same,fun H3 hs3 k3=>⟨rfl,?_⟩⟩
   have k23:=made_kp hs hdy k3
   have h3:=h.kp' k23
   obtain ⟨ew,_⟩:=sentence_iff.mp hf
   have nX:∀ b,H b=none→b∉X:=fun b e m=>hX b m e
   have s0:=h.kp.free hs (by simp)
   refine q1 f hf H3 s h3.kp s0 ⟨dy,lc,ld,ds,(hide_at (nX s s0)).trans hs3,(hide_at lX).trans (by rw [ew];exact h3.kp _ _ hlc (by simp)),(hide_at (nX ld (h3.fr _ (by simp)))).trans h3.hd,h3.st.1,fun i a q ha hq=>?_,by rw [ew];exact hf,by rw [ew];exact tl⟩
   obtain ⟨dq,la,a1,a2,_,a3,a4⟩:=h3.st.2 i a q ha hq
   exact ⟨dq,la,(hide_at (nX a a4)).trans a1,(hide_at (nX la a3)).trans a2⟩
  ·simp only [en,decide_false,if_true]
   refine q2 ?_ H2 h.kp
   cases e:Rc82.sentence t with
   | none=>rfl
   | some f =>
    have:=(run _).mp (rn f e)
    generalize hd:t.drop n=d at this
    cases this
    have:=congrArg List.length hd
    simp at this
    omega
 | cons p E =>
  rw [if_pos (by simp [strsV])]
  simp only [h.hr,fR_advance,T.c_R.cl,nR T,fs_R_signs,fs_R_at,fs_R_expected,fs_R_scope,fs_R_deepest,fs_R_begun,fs_R_read_levels,fs_R_done,hpL,V.int.injEq,V.ref.injEq]
  have ar:=adv_run (E:=E) (lv:=lv) (dn:=dn) (dp:=dp) nt hw ns
  refine ⟨_,fun σ' H' h=>h,r,H,t,n,p,E,sc,bg,lv,dn,dp,rfl,ra2,hw,nt,tb,ns,s4,by simp at El;omega,by omega,by omega,by omega,fun q e H3 ra3=>⟨_,rfl,?_⟩,fun e H3 k3=>⟨_,rfl,?_⟩⟩
  ·simp only [Bool.true_eq_false,if_false,reduceCtorEq]
   obtain ⟨w1,w2,w3,w4,w5,w6⟩:=adv_wf e hw ns s4
   simp only [e] at ar
   have rn3:q.1≤t.length:=adv_le e nt ns
   simp at El
   refine ⟨6*(t.length - q.1)+q.2.1.length,?_,trivial,q.1,_,rfl,_,_,_,_,_,ra3,w1,rn3,w2,w3,?_,?_,?_,fun res=>(run res).trans (ar res)⟩
   ·simp;rcases w4 with ⟨a,b⟩ | ⟨a,b⟩ <;> omega
   ·rcases w4 with ⟨a,b⟩ | ⟨a,b⟩ <;> omega
   ·omega
   ·omega
  ·simp only [if_true]
   refine q2 ?_ H3 k3
   simp only [e] at ar
   cases es:Rc82.sentence t with
   | none=>rfl
   | some f=>exact absurd ((run _).mp (rn f es)) (ar _)
theorem StrAt.row_in {H:Hp} {p:Addr} {S:Struct} {fp:List Addr} (h:StrAt K H p S fp) {b:Addr} (hb:b∈fp) : ∃ r,H b=some (bls r):=by
 obtain ⟨dx,la,lm,ra,rm,E,M,hp,hla,hlm,rfl,hE,hM,R⟩:=h
 rcases List.mem_append.mp hb with hb | hb
 ·obtain ⟨i,hi⟩:=List.mem_iff_getElem?.mp hb
  obtain ⟨r,hr⟩ : ∃ r,E[i]? = some r:=⟨_,List.getElem?_eq_getElem (by rw [←hE.1];exact (List.getElem?_eq_some_iff.mp hi).1)⟩
  exact ⟨r,hE.2 i b r hi hr⟩
 ·obtain ⟨i,hi⟩:=List.mem_iff_getElem?.mp hb
  obtain ⟨r,hr⟩ : ∃ r,M[i]? = some r:=⟨_,List.getElem?_eq_getElem (by rw [←hM.1];exact (List.getElem?_eq_some_iff.mp hi).1)⟩
  exact ⟨r,hM.2 i b r hi hr⟩
theorem hide_in {X:List Addr} {H:Hp} {a:Addr} {o:HO} (h:a∈X) : hide X (upd H a o)=hide X H:=by
 funext b
 unfold hide
 by_cases e:b∈X
 ·rw [if_pos e,if_pos e]
 ·rw [if_neg e,if_neg e,upd_ne (fun z=>e (by rw [z];exact h))]
theorem hkp {X Y:List Addr} {H H':Hp} (h:∀ b o,b∉X→H b=some o→b∉Y∧H' b=some o) : Kp [] (hide X H) (hide Y H'):=fun b o e _=>by
 obtain ⟨a,c⟩:=hide_some e
 obtain ⟨d,f⟩:=h b o a c
 rw [hide_at d];exact f
theorem hkp0 {X:List Addr} {H H':Hp} (k:Kp [] H H') : Kp [] (hide X H) (hide X H'):=hkp fun b o n e=>⟨n,k b o e (by simp)⟩
def SlotAt (K:Frag) (H:Hp) (v:V) (o:Option Rc82.Form) : Prop:=(o=none∧v=.non)∨∃ f a,o=some f∧v=.ref a∧SenAt K H a f
theorem SlotAt.kp {H H':Hp} {v:V} {o:Option Rc82.Form} (h:SlotAt K H v o) (k:Kp [] H H') : SlotAt K H' v o:=h.elim .inl fun ⟨f,a,e1,e2,e3⟩=>.inr ⟨f,a,e1,e2,e3.kp k⟩
structure TbX (K:Frag) (H:Hp) (tb:Addr) (s:Rc82.Abs) (dx lst lsn p0 p1:Addr) (f0 f1:List Addr) (sl:List V) : Prop where
 al:∀ x∈lst :: lsn :: (f0 ++ f1),H x≠none
 ne:lst≠lsn
 hb:H tb=some (.ins (cA K "Table") dx (fs_B (.ref lst) (.ref lsn)))
 hs:H lst=some (.lst [.ref p0,.ref p1])
 hn:H lsn=some (.lst sl)
 s0:StrAt K (hide (lst :: lsn :: f1) H) p0 s.a f0
 s1:StrAt K (hide (lst :: lsn :: f0) H) p1 s.b f1
 d0:f0.Nodup
 d1:f1.Nodup
 n0:s.a.n≤12
 n1:s.b.n≤12
 sl8:sl.length=8
 fl8:s.forms.length=8
 sen:∀ (i:Nat) v o,sl[i]? = some v→s.forms[i]? = some o→SlotAt K (hide (lst :: lsn :: (f0 ++ f1)) H) v o
def TbAt (K:Frag) (H:Hp) (tb:Addr) (s:Rc82.Abs) (M:List Addr) : Prop:=∃ dx lst lsn p0 p1 f0 f1 sl,M=lst :: lsn :: (f0 ++ f1)∧TbX K H tb s dx lst lsn p0 p1 f0 f1 sl
section
variable {H H':Hp} {tb dx lst lsn p0 p1:Addr} {s:Rc82.Abs} {f0 f1 M:List Addr} {sl:List V}
theorem TbX.kp (h:TbX K H tb s dx lst lsn p0 p1 f0 f1 sl) (k:Kp [] H H') : TbX K H' tb s dx lst lsn p0 p1 f0 f1 sl :=
 ⟨(fun x hx e=>by
   cases q:H x with
   | none=>exact h.al x hx q
   | some o=>rw [k x o q (by simp)] at e;cases e),h.ne,k _ _ h.hb (by simp),k _ _ h.hs (by simp),k _ _ h.hn (by simp),h.s0.kp (hkp0 k),h.s1.kp (hkp0 k),h.d0,h.d1,h.n0,h.n1,h.sl8,h.fl8,fun i v o a b=>(h.sen i v o a b).kp (hkp0 k)⟩
theorem TbAt.kp (h:TbAt K H tb s M) (k:Kp [] H H') : TbAt K H' tb s M:=by
 obtain ⟨dx,lst,lsn,p0,p1,f0,f1,sl,e,x⟩:=h
 exact ⟨dx,lst,lsn,p0,p1,f0,f1,sl,e,x.kp k⟩
end
def APost (K:Frag) (H:Hp) (tb:Addr) (M:List Addr) (s':Rc82.Abs) (xs:List Int) (Q:VK) : Prop:=∀ H' M' l,TbAt K H' tb s' M'→(∀ x∈M',x∈M∨H x=none)→Kp (tb :: M) H H'→H l=none→H' l=some (.lst (xs.map V.int))→Q (.ref l) H'
theorem APost.same {H H':Hp} {tb:Addr} {M:List Addr} {s:Rc82.Abs} {xs:List Int} {Q:VK} {l:Addr} (q:APost K H tb M s xs Q) (h:TbAt K H tb s M) (k:Kp [] H H') (hl:H l=none) (e:H' l=some (.lst (xs.map V.int))) : Q (.ref l) H':=q H' M l (h.kp k) (fun x hx=>.inl hx) k.of hl e
theorem APost.one {H:Hp} {tb:Addr} {M:List Addr} {s:Rc82.Abs} {z:Int} {Q:VK} (q:APost K H tb M s [z] Q) (h:TbAt K H tb s M) : 1≤sizeLine∧∀ p,H p=none→Q (.ref p) (upd H p (.lst [.int z])) :=
 ⟨by decide,fun p hp=>q.same h ((Kp.refl _).new hp) hp upd_same⟩
def sp_is_lie_count (_:Frag) : Sp:=fun vs H Q _=>∃ n:Int,vs=[.int n]∧Q (.bl (decide (0≤n) && (decide (n≤6) && decide (n % 2=0)))) H
theorem ok_is_lie_count (T:Txt P w K mg) : FF P w K mg base 1 "is_lie_count" ["n"] (sp_is_lie_count K):=by
 refine T.x_is_lie_count.F.ok sc_is_lie_count (fun _ _ _ _ h=>ex1 h fun _ e=>e.1▸rfl) fun _ _ _ s H vs Q E hr zh=>ex1 zh fun n yh=>an2 yh fun vz k=>?_
 clear zh yh;subst vz
 refine ⟨_,(pss_one (ps_ret (pe_and (pe_cmpR op_ge (pv 0) pe_int (nomark _)) (pe_and (pe_cmpR op_le (pv 0) (pe_gint rfl T.g_MOST_LIE) (nomark _)) (pe_one (pe_cmpR op_eq (pe_op op_mod (pv 0) pe_int) pe_int (nomark _))))))),?_⟩
 walk_at "rd"
 by_cases c1:0≤n
 ·simp only [c1,if_true,decide_true,Bool.true_and] at k ⊢
  by_cases c2:n≤6
  ·simp only [c2,if_true,decide_true,Bool.true_and] at k ⊢
   exact ⟨by decide,k⟩
  ·simp only [c2,if_false,decide_false,Bool.false_and] at k ⊢
   exact k
 ·simp only [c1,if_false,decide_false,Bool.false_and] at k ⊢
  exact k
def sp_is_round_count (_:Frag) : Sp:=fun vs H Q _=>∃ k m:Int,vs=[.int k,.int m]∧Q (.bl (decide (0≤k) && (decide (k≤3) && decide (m+k≤3)))) H
theorem ok_is_round_count (T:Txt P w K mg) : FF P w K mg base 1 "is_round_count" ["k","two_count"] (sp_is_round_count K):=by
 refine T.x_is_round_count.F.ok sc_is_round_count (fun _ _ _ _ h=>ex2 h fun _ _ e=>e.1▸rfl) fun _ _ _ s H vs Q E hr zh=>ex2 zh fun k m yh=>an2 yh fun vz kq=>?_
 clear zh yh;subst vz
 refine ⟨_,(pss_one (ps_ret (pe_and (pe_cmpR op_ge (pv 0) pe_int (nomark _)) (pe_and (pe_cmpR op_le (pv 0) (pe_gint rfl T.g_MOST_BESIDE_REPLY) (nomark _)) (pe_one (pe_cmpR op_le (pe_op op_add (pv 1) (pv 0)) (pe_gint rfl T.g_MOST_BESIDE_REPLY) (nomark _))))))),?_⟩
 walk_at "rd"
 by_cases c1:0≤k
 ·simp only [c1,if_true,decide_true,Bool.true_and] at kq ⊢
  by_cases c2:k≤3
  ·simp only [c2,if_true,decide_true,Bool.true_and] at kq ⊢
   exact kq
  ·simp only [c2,if_false,decide_false,Bool.false_and] at kq ⊢
   exact kq
 ·simp only [c1,if_false,decide_false,Bool.false_and] at kq ⊢
  exact kq
def sp_B_begin (K:Frag) : Sp:=fun vs H Q _=>∃ (tb dx:Addr) (a b:V),vs=[.ref tb]∧H tb=some (.ins (cA K "Table") dx (fs_B a b)) ∧
 ∀ H' M' l,TbAt K H' tb {} M'→(∀ x∈M',H x=none)→Kp [tb] H H'→H l=none→H' l=some (.lst [.int 0])→Q (.ref l) H'
theorem ok_B_begin (T:Txt P w K mg) : FM P w K mg base 3 "Table" "begin" ["self"] (sp_B_begin K):=by
 refine T.x_B_begin.F.ok sc_B_begin (fun _ _ _ _ h=>ex4 h fun _ _ _ _ e=>e.1▸rfl) fun _ _ _ s H vs Q E hr zh=>ex4 zh fun tb dx a b yh=>an3 yh fun vz hb kq=>?_
 clear zh yh;subst vz
 refine ⟨_,(pss_cons (ps_fld (pv 0) (pe_lc rfl sc_B_begin.nd (pi_range1 rfl T.nb_range (pa_cons (pe_gint rfl T.g_STRUCTURE_COUNT) pa_nil)) (blkOk_by (own:=[("g",1)]) rfl) (fun _ _ _ _ _=>(pg_name (i:=1) sc_B_begin.nd rfl (Or.inl rfl))) (fun _ _ _ _ _=>pts_nil) (fun _ _ _ _ _=>(pe_make T.c_S.mkr (ok_S_init T) (hr.mono (by decide)) rfl T.c_S.c T.x_S_init.b .nil pass0 (pa_cons pe_int pa_nil)))) rfl)
   (pss_cons (ps_fld (pv 0) (pe_op op_rep (pe_lst (pa_cons pe_non pa_nil)) (pe_gint rfl T.g_SLOT_COUNT)) rfl)
   (pss_one (ps_ret (pe_lst (pa_cons (pe_gint rfl T.g_DONE) pa_nil)))))),?_⟩
 dsimp only [tSeq,sFld]
 refine ⟨_,rfl,by decide,by decide,fun D hD=>lc_range (lo:=0) (n:=2) (fun i H'=>Kp [] H H'∧(i=0→H' D=some (.lst []))∧(i=1→∃ p0 f0,H' D=some (.lst [.ref p0])∧StrAt K (hide [D] H') p0 {} f0∧f0.Nodup∧∀ b∈f0,H b=none∧b≠D) ∧
   (i=2→∃ p0 p1 f0 f1,H' D=some (.lst [.ref p0,.ref p1])∧StrAt K (hide (D :: f1) H') p0 {} f0∧StrAt K (hide (D :: f0) H') p1 {} f1∧f0.Nodup∧f1.Nodup∧∀ b∈f0 ++ f1,H b=none∧b≠D)) ?_ ?_ ?_⟩
 ·exact ⟨(Kp.refl _).new hD,fun _=>upd_same,(fun h=>by omega),fun h=>by omega⟩
 ·rintro i H1 hi ⟨k1,c0,c1,_⟩
  refine ⟨rfl,?_⟩
  intro p dp hp hdp hne
  have kn:=kp_new2 (C:=cA K "Structure") hp hdp hne
  have i01:i=0∨i=1:=by omega
  rcases i01 with rfl | rfl
  ·have hD1:=c0 rfl
   refine ⟨p,dp,0,[D],rfl,?_,?_,upd_same,by decide,by decide,fun H2 fp st nd fr k2=>⟨rfl,?_⟩⟩
   ·intro x hx
    rw [List.mem_singleton.mp hx,kn D _ hD1 (by simp)];simp
   ·simp only [List.mem_singleton];exact (ne_of_none hD1 hp).symm
   ·have k12:=made_kp hp hdp k2
    have k02:=k1.trans k12
    refine ⟨[],k12 D _ hD1 (by simp),by decide,k02.young hD,(fun h=>by omega),fun _=>⟨p,fp,upd_same,by rw [hide_in (by simp)];exact st,nd,fun b hb=>⟨?_,?_⟩⟩,fun h=>by omega⟩
    ·exact (k1.trans kn).free (fr b hb) (by simp)
    ·exact (ne_of_none (kn D _ hD1 (by simp)) (fr b hb)).symm
  ·obtain ⟨p0,f0,hD1,s0,nd0,fr0⟩:=c1 rfl
   have al0:∀ b∈f0,∃ o,H1 b=some o:=fun b hb=>let ⟨r,e⟩:=s0.row_in hb;⟨_,(hide_some e).2⟩
   refine ⟨p,dp,0,D :: f0,rfl,?_,?_,upd_same,by decide,by decide,fun H2 fp st nd fr k2=>⟨rfl,?_⟩⟩
   ·intro x hx
    rcases List.mem_cons.mp hx with rfl | hx
    ·rw [kn _ _ hD1 (by simp)];simp
    ·obtain ⟨o,e⟩:=al0 x hx
     rw [kn _ _ e (by simp)];simp
   ·intro hx
    rcases List.mem_cons.mp hx with rfl | hx
    ·rw [hD1] at hp;cases hp
    ·obtain ⟨o,e⟩:=al0 p hx
     rw [e] at hp;cases hp
   ·have k12:=made_kp hp hdp k2
    have k02:=k1.trans k12
    refine ⟨[.ref p0],k12 D _ hD1 (by simp),(show 1 < sizeLine by decide),k02.young hD,(fun h=>by omega),(fun h=>by omega),fun _=>⟨p0,p,f0,fp,upd_same,?_,by rw [hide_in (by simp)];exact st,nd0,nd,fun b hb=>?_⟩⟩
    ·rw [hide_in (by simp)]
     refine s0.kp (hkp fun b o n e=>⟨?_,k12 b o e (by simp)⟩)
     intro hb
     rcases List.mem_cons.mp hb with rfl | hb
     ·exact n (by simp)
     ·have:=fr b hb
      rw [kn b o e (by simp)] at this;cases this
    ·rcases List.mem_append.mp hb with hb | hb
     ·exact fr0 b hb
     ·exact ⟨(k1.trans kn).free (fr b hb) (by simp),(ne_of_none (kn D _ hD1 (by simp)) (fr b hb)).symm⟩
 ·rintro H1 ⟨k1,_,_,c2⟩
  obtain ⟨p0,p1,f0,f1,hD1,s0,s1,nd0,nd1,fr⟩:=c2 rfl
  refine ⟨_,dx,_,k1 tb _ hb (by simp),T.c_B.cl,T.n_B_structures,(show 2 < 1000 by decide),?_⟩
  generalize hH2:upd H1 tb _=H2
  have kl2:∀ {b o},H1 b=some o→b≠tb→H2 b=some o:=fun {b o} e n=>by rw [←hH2,upd_ne n];exact e
  have hb2:H2 tb=some (.ins (cA K "Table") dx (fs_B (.ref D) b)):=by rw [←hH2];exact upd_same
  have k2:Kp [tb] H H2:=by rw [←hH2];exact (k1.of).set (by simp)
  have nDt:D≠tb:=(ne_of_none hb hD).symm
  refine ⟨by decide,fun q hq=>⟨q,8,[.non],rfl,rfl,upd_same,by decide,by decide,by decide,fun lsn hl=>⟨_,dx,_,upd_old (upd_old hb2 hq) hl,T.c_B.cl,T.n_B_sentences,(show 2 < 1000 by decide),by decide,fun l hll=>?_⟩⟩⟩
  generalize hH3:upd (upd (upd H2 q _) lsn _) tb _=H3 at hll ⊢
  have n1:lsn≠tb:=(ne_of_none (upd_old (o:=.lst [.non]) hb2 hq) hl).symm
  have hlsn:H2 lsn=none:=Kp.free (xs:=[]) ((Kp.refl _).new hq) hl (by simp)
  have k23:∀ {b o},H2 b=some o→b≠tb→H3 b=some o:=fun {b o} e n=>by rw [←hH3,upd_ne n];exact upd_old (upd_old e hq) hl
  have k3:Kp [tb] H H3:=by rw [←hH3];exact ((k2.new hq).new hl).set (by simp)
  have hn3:H3 lsn=some (.lst (List.replicate 8 .non)):=by rw [←hH3,upd_ne n1];exact upd_same
  have hb3:H3 tb=some (.ins (cA K "Table") dx (fs_B (.ref D) (.ref lsn))):=by rw [←hH3];exact upd_same
  have hD3:=k23 (kl2 hD1 nDt) nDt
  have f0l:H lsn=none:=k2.free hlsn (by simpa using n1)
  have ntb:∀ {b:Addr} {C:Addr} {dz:Addr} {x y z:V},H1 b=some (.ins C dz (fs_S x y z))→b≠tb:=fun e z=>by
   subst z
   rw [k1 _ _ hb (by simp)] at e
   injection e with e;injection e with _ _ e;cases e
  have mv:∀ {f:List Addr} {p fp},StrAt K (hide (D :: f) H1) p {} fp→StrAt K (hide (D :: lsn :: f) H3) p {} fp:=fun {f p fp} st=>by
   obtain ⟨dx',la,lm,ra,rm,E,M,hp,hla,hlm,e,hE,hM,R⟩:=st
   have go:∀ {b o},hide (D :: f) H1 b=some o→b≠tb→hide (D :: lsn :: f) H3 b=some o:=fun {b o} e n=>by
    obtain ⟨m,e⟩:=hide_some e
    have e2:=kl2 e n
    rw [hide_at (by simp only [List.mem_cons,not_or] at m ⊢;exact ⟨m.1,ne_of_none e2 hlsn,m.2⟩)]
    exact k23 e2 n
   have gl:∀ {b xs},hide (D :: f) H1 b=some (.lst xs)→hide (D :: lsn :: f) H3 b=some (.lst xs):=fun {b xs} e=>go e (fun z=>by subst z;have:=(hide_some e).2;rw [k1 _ _ hb (by simp)] at this;cases this)
   exact ⟨dx',la,lm,ra,rm,E,M,go hp (ntb (hide_some hp).2),gl hla,gl hlm,e,hE.keep fun b r h _=>gl h,hM.keep fun b r h _=>gl h,R⟩
  have kl:Kp [tb] H (upd H3 l (.lst [.int 0])):=k3.new hll
  have k3l:Kp [] H3 (upd H3 l (.lst [.int 0])):=(Kp.refl _).new hll
  have nl:l≠tb:=(ne_of_none hb3 hll).symm
  refine kq _ (D :: lsn :: (f0 ++ f1)) l (TbAt.kp ⟨dx,D,lsn,p0,p1,f0,f1,_,rfl,⟨?_,?_,hb3,hD3,hn3,mv s0,mv s1,nd0,nd1,by decide,by decide,by decide,by decide,fun i v o hv ho=>?_⟩⟩ k3l) ?_ kl (k3.free hll (by simpa using nl)) upd_same
  ·intro x hx
   simp only [List.mem_cons,List.mem_append] at hx
   rcases hx with rfl | rfl | hx | hx
   ·rw [hD3];simp
   ·rw [hn3];simp
   ·obtain ⟨r,e⟩:=(mv s0).row_in hx
    rw [(hide_some e).2];simp
   ·obtain ⟨r,e⟩:=(mv s1).row_in hx
    rw [(hide_some e).2];simp
  ·exact ne_of_none (kl2 hD1 nDt) hlsn
  ·have ho':(List.replicate 8 (none:Option Rc82.Form))[i]? = some o:=ho
   exact .inl ⟨(get_rep ho').1,(get_rep hv).1⟩
  ·intro x hx
   simp only [List.mem_cons] at hx
   rcases hx with rfl | rfl | hx
   ·exact hD
   ·exact f0l
   ·exact (fr x hx).1
section
variable {H H':Hp} {tb dx lst lsn p0 p1:Addr} {s:Rc82.Abs} {f0 f1 M:List Addr} {sl:List V}
theorem TbX.set0 {S':Struct} (h:TbX K H tb s dx lst lsn p0 p1 f0 f1 sl) (st:StrAt K (hide (lst :: lsn :: f1) H') p0 S' f0) (k:Kp f0 H H') (hn:S'.n≤12) : TbX K H' tb { s with a:=S' } dx lst lsn p0 p1 f0 f1 sl:=by
 have nf:∀ b,b∈f0→b≠lst∧b≠lsn∧b∉f1∧∃ r,H b=some (bls r):=fun b hb=>by
  obtain ⟨r,e⟩:=h.s0.row_in hb
  obtain ⟨n,e⟩:=hide_some e
  simp only [List.mem_cons,not_or] at n
  exact ⟨n.1,n.2.1,n.2.2,r,e⟩
 have kt:tb∉f0:=fun m=>by obtain ⟨_,_,_,r,e⟩:=nf _ m;rw [h.hb] at e;cases e
 refine ⟨fun x hx e=>?_,h.ne,k _ _ h.hb kt,k _ _ h.hs (fun m=>(nf _ m).1 rfl),k _ _ h.hn (fun m=>(nf _ m).2.1 rfl),st,h.s1.kp (hkp fun b o n e=>⟨n,k b o e fun m=>n (by simp [m])⟩),h.d0,h.d1,hn,h.n1,h.sl8,h.fl8,fun i v o a b=>(h.sen i v o a b).kp (hkp fun b o n e=>⟨n,k b o e fun m=>n (by simp [m])⟩)⟩
 by_cases m:x∈f0
 ·obtain ⟨r,q⟩:=st.row_in m
  rw [(hide_some q).2] at e;cases e
 ·cases q:H x with
  | none=>exact h.al x hx q
  | some o=>rw [k x o q m] at e;cases e
theorem TbX.new0 {S':Struct} {p':Addr} {f':List Addr} (h:TbX K H tb s dx lst lsn p0 p1 f0 f1 sl) (st:StrAt K (hide (lst :: lsn :: f1) H') p' S' f') (k:Kp [] H H') (fr:∀ b∈f',H b=none) (nd:f'.Nodup) (hn:S'.n≤12) : TbX K (upd H' lst (.lst [.ref p',.ref p1])) tb { s with a:=S' } dx lst lsn p' p1 f' f1 sl:=by
 have old:∀ {b o},H b=some o→b≠lst→upd H' lst (.lst [.ref p',.ref p1]) b=some o:=fun {b o} e n=>by rw [upd_ne n];exact k b o e (by simp)
 have nf:∀ {b o},H b=some o→b∉f':=fun {b o} e m=>by rw [fr b m] at e;cases e
 have st':StrAt K (hide (lst :: lsn :: f1) (upd H' lst (.lst [.ref p',.ref p1]))) p' S' f':=by rw [hide_in (by simp)];exact st
 have so:StrAt K (hide (lst :: lsn :: f') (upd H' lst (.lst [.ref p',.ref p1]))) p1 s.b f1:=h.s1.kp (hkp fun b o n e=>by
  simp only [List.mem_cons,not_or] at n
  exact ⟨by simp only [List.mem_cons,not_or];exact ⟨n.1,n.2.1,nf e⟩,old e n.1⟩)
 refine ⟨fun x hx e=>?_,h.ne,old h.hb (ne_of h.hb h.hs (by intro z;cases z)),upd_same,old h.hn (Ne.symm h.ne),st',so,nd,h.d1,hn,h.n1,h.sl8,h.fl8,fun i v o a b=>(h.sen i v o a b).kp (hkp fun b o n e=>?_)⟩
 ·by_cases m:x∈f'
  ·obtain ⟨r,q⟩:=st'.row_in m
   rw [(hide_some q).2] at e;cases e
  ·by_cases xl:x=lst
   ·rw [xl,upd_same] at e;cases e
   ·have hx':x∈lst :: lsn :: (f0 ++ f1):=by
     simp only [List.mem_cons,List.mem_append] at hx ⊢
     rcases hx with a | a | a | a
     ·exact .inl a
     ·exact .inr (.inl a)
     ·exact absurd a m
     ·exact .inr (.inr (.inr a))
    cases q:H x with
    | none=>exact h.al x hx' q
    | some o=>rw [old q xl] at e;cases e
 ·simp only [List.mem_cons,List.mem_append,not_or] at n
  exact ⟨by simp only [List.mem_cons,List.mem_append,not_or];exact ⟨n.1,n.2.1,nf e,n.2.2.2⟩,old e n.1⟩
theorem TbX.set1 {S':Struct} (h:TbX K H tb s dx lst lsn p0 p1 f0 f1 sl) (st:StrAt K (hide (lst :: lsn :: f0) H') p1 S' f1) (k:Kp f1 H H') (hn:S'.n≤12) : TbX K H' tb { s with b:=S' } dx lst lsn p0 p1 f0 f1 sl:=by
 have nf:∀ b,b∈f1→b≠lst∧b≠lsn∧b∉f0∧∃ r,H b=some (bls r):=fun b hb=>by
  obtain ⟨r,e⟩:=h.s1.row_in hb
  obtain ⟨n,e⟩:=hide_some e
  simp only [List.mem_cons,not_or] at n
  exact ⟨n.1,n.2.1,n.2.2,r,e⟩
 have kt:tb∉f1:=fun m=>by obtain ⟨_,_,_,r,e⟩:=nf _ m;rw [h.hb] at e;cases e
 refine ⟨fun x hx e=>?_,h.ne,k _ _ h.hb kt,k _ _ h.hs (fun m=>(nf _ m).1 rfl),k _ _ h.hn (fun m=>(nf _ m).2.1 rfl),h.s0.kp (hkp fun b o n e=>⟨n,k b o e fun m=>n (by simp [m])⟩),st,h.d0,h.d1,h.n0,hn,h.sl8,h.fl8,fun i v o a b=>(h.sen i v o a b).kp (hkp fun b o n e=>⟨n,k b o e fun m=>n (by simp [m])⟩)⟩
 by_cases m:x∈f1
 ·obtain ⟨r,q⟩:=st.row_in m
  rw [(hide_some q).2] at e;cases e
 ·cases q:H x with
  | none=>exact h.al x hx q
  | some o=>rw [k x o q m] at e;cases e
theorem TbX.new1 {S':Struct} {p':Addr} {f':List Addr} (h:TbX K H tb s dx lst lsn p0 p1 f0 f1 sl) (st:StrAt K (hide (lst :: lsn :: f0) H') p' S' f') (k:Kp [] H H') (fr:∀ b∈f',H b=none) (nd:f'.Nodup) (hn:S'.n≤12) : TbX K (upd H' lst (.lst [.ref p0,.ref p'])) tb { s with b:=S' } dx lst lsn p0 p' f0 f' sl:=by
 have old:∀ {b o},H b=some o→b≠lst→upd H' lst (.lst [.ref p0,.ref p']) b=some o:=fun {b o} e n=>by rw [upd_ne n];exact k b o e (by simp)
 have nf:∀ {b o},H b=some o→b∉f':=fun {b o} e m=>by rw [fr b m] at e;cases e
 have st':StrAt K (hide (lst :: lsn :: f0) (upd H' lst (.lst [.ref p0,.ref p']))) p' S' f':=by rw [hide_in (by simp)];exact st
 have so:StrAt K (hide (lst :: lsn :: f') (upd H' lst (.lst [.ref p0,.ref p']))) p0 s.a f0:=h.s0.kp (hkp fun b o n e=>by
  simp only [List.mem_cons,not_or] at n
  exact ⟨by simp only [List.mem_cons,not_or];exact ⟨n.1,n.2.1,nf e⟩,old e n.1⟩)
 refine ⟨fun x hx e=>?_,h.ne,old h.hb (ne_of h.hb h.hs (by intro z;cases z)),upd_same,old h.hn (Ne.symm h.ne),so,st',h.d0,nd,h.n0,hn,h.sl8,h.fl8,fun i v o a b=>(h.sen i v o a b).kp (hkp fun b o n e=>?_)⟩
 ·by_cases m:x∈f'
  ·obtain ⟨r,q⟩:=st'.row_in m
   rw [(hide_some q).2] at e;cases e
  ·by_cases xl:x=lst
   ·rw [xl,upd_same] at e;cases e
   ·have hx':x∈lst :: lsn :: (f0 ++ f1):=by
     simp only [List.mem_cons,List.mem_append] at hx ⊢
     rcases hx with a | a | a | a
     ·exact .inl a
     ·exact .inr (.inl a)
     ·exact .inr (.inr (.inl a))
     ·exact absurd a m
    cases q:H x with
    | none=>exact h.al x hx' q
    | some o=>rw [old q xl] at e;cases e
 ·simp only [List.mem_cons,List.mem_append,not_or] at n
  exact ⟨by simp only [List.mem_cons,List.mem_append,not_or];exact ⟨n.1,n.2.1,n.2.2.1,nf e⟩,old e n.1⟩
end
theorem fB_begin {a b:V}:(fs_B a b).lookup ("begin" : Str)=none:=rfl
theorem fB_has_point {a b:V}:(fs_B a b).lookup ("has_point" : Str)=none:=rfl
theorem fB_refusal {a b:V}:(fs_B a b).lookup ("refusal" : Str)=none:=rfl
theorem fB_game {a b:V}:(fs_B a b).lookup ("game" : Str)=none:=rfl
theorem fB_can_lie {a b:V}:(fs_B a b).lookup ("can_lie" : Str)=none:=rfl
def sp_B_init (K:Frag) : Sp:=fun vs H Q _=>∃ (tb dx:Addr),vs=[.ref tb]∧H tb=some (.ins (cA K "Table") dx [])∧∀ H' M',TbAt K H' tb {} M'→(∀ x∈M',H x=none)→Kp [tb] H H'→Q .non H'
theorem ok_B_init (T:Txt P w K mg) : FM P w K mg base 4 "Table" "__init__" ["self"] (sp_B_init K):=by
 refine T.x_B_init.F.ok sc_B_init (fun _ _ _ _ h=>ex2 h fun _ _ e=>e.1▸rfl) fun _ _ _ s H vs Q E hr zh=>ex2 zh fun tb dx yh=>an3 yh fun vz hb kq=>?_
 clear zh yh;subst vz
 refine ⟨_,(pss_cons (ps_fld (pv 0) (pe_lst pa_nil) rfl)
   (pss_cons (ps_fld (pv 0) (pe_lst pa_nil) rfl)
   (pss_one (ps_expr (pe_meth0 (pv 0) T.c_B.cl T.x_B_begin.m (ok_B_begin T) (hr.mono (by decide)) T.x_B_begin.b .nil pass0))))),?_⟩
 refine ⟨Nat.zero_le _,fun a ha=>⟨_,dx,_,upd_old hb ha,T.c_B.cl,T.n_B_structures,(show 0 < 1000 by decide),Nat.zero_le _,fun b hb'=>⟨_,dx,_,upd_old upd_same hb',T.c_B.cl,T.n_B_sentences,(show 1 < 1000 by decide),dx,_,upd_same,rfl,tb,dx,.ref a,.ref b,rfl,upd_same,fun H' M' l tA fr k hl h=>kq H' M' tA (fun x hx=>?_) ?_⟩⟩⟩
 ·have h1:Kp [tb] H (upd (upd (upd (upd H a (.lst [])) tb (.ins (cA K "Table") dx (putF "structures" (.ref a) []))) b (.lst [])) tb (.ins (cA K "Table") dx (putF "sentences" (.ref b) (putF "structures" (.ref a) [])))):=((((Kp.refl _).new ha).set (by simp)).new hb').set (by simp)
  have hx':=fr x hx
  refine h1.free hx' ?_
  simp only [List.mem_singleton]
  rintro rfl
  rw [upd_same] at hx';cases hx'
 ·exact (((((Kp.refl _).new ha).set (by simp)).new hb').set (by simp)).trans k
def hasP (s:Rc82.Abs) (g x:Int) : Bool:=(decide (0≤g) && decide (g < 2)) && (decide (0≤x) && decide (x < (s.at_ g).n))
def sp_B_has_point (K:Frag) : Sp:=fun vs H Q _=>∃ (tb:Addr) (g x:Int) (s:Rc82.Abs) (M:List Addr),vs=[.ref tb,.int g,.int x]∧TbAt K H tb s M∧Q (.bl (hasP s g x)) H
theorem TbX.at_ {H:Hp} {tb dx lst lsn p0 p1:Addr} {s:Rc82.Abs} {f0 f1:List Addr} {sl:List V} (h:TbX K H tb s dx lst lsn p0 p1 f0 f1 sl) {g:Int} (h0:0≤g) (h2:g < 2) : ∃ p f,atI [V.ref p0,V.ref p1] g=some (.ref p)∧StrAt K H p (s.at_ g) f:=by
 have:g=0∨g=1:=by omega
 rcases this with rfl | rfl
 ·exact ⟨p0,f0,rfl,h.s0.kp hide_kp⟩
 ·exact ⟨p1,f1,rfl,h.s1.kp hide_kp⟩
theorem ok_B_has_point (T:Txt P w K mg) : FM P w K mg base 2 "Table" "has_point" ["self","g","x"] (sp_B_has_point K):=by
 refine T.x_B_has_point.F.ok sc_B_has_point (fun _ _ _ _ h=>ex5 h fun _ _ _ _ _ e=>e.1▸rfl) fun _ _ _ s H vs Q E hr zh=>ex5 zh fun tb g x s M yh=>an3 yh fun vz z0 kq=>?_
 clear zh yh;subst vz
 obtain ⟨dx,lst,lsn,p0,p1,f0,f1,sl,eM,h⟩:=z0
 refine ⟨_,(pss_one (ps_ret (pe_and (pe_call (ok_is_structure T) (hr.mono (by decide)) rfl T.x_is_structure.g T.x_is_structure.k T.x_is_structure.b .nil pass0 (pa_cons (pv 1) pa_nil)) (pe_one (pe_meth (pe_ix ix_list (pe_fld (pv 0) rfl) (pv 1) (fun _ _=>rfl)) T.c_S.cl T.x_S_has_point.m (ok_S_has_point T) (hr.mono (by decide)) T.x_S_has_point.b .nil pass0 (pa_cons (pv 2) pa_nil)))))),?_⟩
 walk_at "rd"
 refine ⟨g,rfl,_,rfl,?_⟩
 unfold hasP at kq
 by_cases c:(decide (0≤g) && decide (g < 2))=true
 ·rw [if_pos c]
  rw [c] at kq
  simp only [Bool.and_eq_true,decide_eq_true_eq] at c
  obtain ⟨p,f,e1,st⟩:=h.at_ c.1 c.2
  obtain ⟨ds,la,lm,hp,_⟩:=id st.arcs
  simp only [h.hb,T.c_B.cl,T.n_B_structures,T.n_B_sentences,fs_B_structures,fs_B_sentences,hpL,V.int.injEq,V.ref.injEq]
  exact ⟨_,SqL.of h.hs,_,e1,p,rfl,_,_,hp,rfl,p,x,s.at_ g,f,rfl,st,by simpa using kq⟩
 ·rw [if_neg c]
  rw [Bool.not_eq_true] at c
  rw [c] at kq
  exact kq
def ans (a:Rc82.Ans) : List Int:=a.value :: a.numbers.map fun (x:Nat)=>(x:Int)
def DPost (K:Frag) (H:Hp) (tb:Addr) (M:List Addr) (s:Rc82.Abs) (q:Rc82.Call) (Q:VK) : Prop:=APost K H tb M (Rc82.does s q).1 (ans (Rc82.does s q).2) Q
theorem isWhich_is (g:Int) : Rc82.isWhich g=(decide (0≤g) && decide (g < 2)):=by
 unfold Rc82.isWhich
 rw [Bool.eq_iff_iff]
 simp only [Bool.or_eq_true,Bool.and_eq_true,decide_eq_true_eq]
 omega
theorem hasP_is (s:Rc82.Abs) (g x:Int) : hasP s g x=(Rc82.isWhich g && Rc82.below x (s.at_ g).n):=by
 rw [isWhich_is];rfl
theorem DPost.refuse {H:Hp} {tb:Addr} {M:List Addr} {s:Rc82.Abs} {q:Rc82.Call} {Q:VK} (k:DPost K H tb M s q Q) (h:TbAt K H tb s M) (e:Rc82.does s q=(s,Rc82.refused)) : 1≤sizeLine∧∀ p,H p=none→Q (.ref p) (upd H p (.lst [.int (-1)])):=by
 unfold DPost at k
 rw [e] at k
 exact k.one h
theorem DPost.done {H H':Hp} {tb:Addr} {M M':List Addr} {s s':Rc82.Abs} {q:Rc82.Call} {Q:VK} (k:DPost K H tb M s q Q) (h:TbAt K H' tb s' M') (fr:∀ x∈M',x∈M∨H x=none) (kk:Kp M H H') (e:Rc82.does s q=(s',{ value:=0 })) (al:∀ x∈M,H' x≠none) : 1≤sizeLine∧∀ p,H' p=none→Q (.ref p) (upd H' p (.lst [.int 0])):=by
 unfold DPost at k
 rw [e] at k
 refine ⟨by decide,fun p hp=>k _ M' p (h.kp ((Kp.refl _).new hp)) fr (fun b o e n=>?_) (kk.free hp fun m=>al p m hp) upd_same⟩
 have:=kk b o e (fun m=>n (by simp [m]))
 rw [upd_ne (ne_of_none this hp)];exact this
def sp_B_points (K:Frag) : Sp:=fun vs H Q _=>∃ (tb:Addr) (g n:Int) (s:Rc82.Abs) (M:List Addr),vs=[.ref tb,.int g,.int n]∧TbAt K H tb s M∧DPost K H tb M s (.points g n) Q
theorem ok_B_points (T:Txt P w K mg) : FM P w K mg base 3 "Table" "points" ["self","g","n"] (sp_B_points K):=by
 refine T.x_B_points.F.ok sc_B_points (fun _ _ _ _ h=>ex5 h fun _ _ _ _ _ e=>e.1▸rfl) fun _ _ _ s H vs Q E hr zh=>ex5 zh fun tb g n s M yh=>an3 yh fun vz hT kq=>?_
 clear zh yh;subst vz
 refine ⟨_,(pss_cons (ps_if (PW.pt (pw_or (pt_not (pt_val (pe_call (ok_is_structure T) (hr.mono (by decide)) rfl T.x_is_structure.g T.x_is_structure.k T.x_is_structure.b .nil pass0 (pa_cons (pv 1) pa_nil)))) (pw_or (pt_lt (pv 2) pe_int (nomark _)) (pw_or1 (pt_gt (pv 2) (pe_gint rfl T.g_MOST_POINTS) (nomark _)))))) (pss_one (ps_ret (pe_lst (pa_cons (pe_gint rfl T.g_OUTSIDE) pa_nil)))) pss_nil)
   (pss_cons (ps_asg (pe_make T.c_S.mkr (ok_S_init T) (hr.mono (by decide)) rfl T.c_S.c T.x_S_init.b .nil pass0 (pa_cons (pv 2) pa_nil)) (pg_sub (pe_fld (pv 0) rfl) (pv 1) set_list))
   (pss_one (ps_ret (pe_lst (pa_cons (pe_gint rfl T.g_DONE) pa_nil)))))),?_⟩
 walk_at "rd"
 refine ⟨g,rfl,_,rfl,?_⟩
 have hd:Rc82.does s (.points g n)=if (Rc82.isWhich g && Rc82.upTo n Rc82.MOST)=false then (s,Rc82.refused) else (s.put g { n:=n.toNat,rows:=List.replicate n.toNat 0 },{ value:=0 }):=rfl
 by_cases c:(Rc82.isWhich g && Rc82.upTo n Rc82.MOST)=false
 ·rw [if_pos c] at hd
  have r:=kq.refuse hT hd
  rw [isWhich_is] at c
  by_cases c1:(decide (0≤g) && decide (g < 2))=false
  ·rw [if_pos c1];exact r
  rw [if_neg c1]
  by_cases c2:n < 0
  ·rw [if_pos c2];exact r
  rw [if_neg c2]
  by_cases c3:12 < n
  ·rw [if_pos c3];exact r
  exfalso
  have:Rc82.upTo n Rc82.MOST=true:=by
   unfold Rc82.upTo Rc82.MOST
   simp only [Bool.and_eq_true,decide_eq_true_eq]
   exact ⟨by omega,by omega⟩
  rw [this,Bool.and_true] at c
  exact c1 c
 rw [if_neg c] at hd
 rw [Bool.not_eq_false,Bool.and_eq_true,isWhich_is] at c
 obtain ⟨c1,c2⟩:=c
 unfold Rc82.upTo Rc82.MOST at c2
 have c1':=c1
 simp only [Bool.and_eq_true,decide_eq_true_eq] at c1' c2
 rw [if_neg (by rw [c1];simp),if_neg (by omega),if_neg (by omega)]
 obtain ⟨dx,lst,lsn,p0,p1,f0,f1,sl,eM,h⟩:=hT
 intro p dp hp hdp hne
 have kn:=kp_new2 (C:=cA K "Structure") hp hdp hne
 have al:∀ x∈M,∃ o,H x=some o:=fun x hx=>Option.ne_none_iff_exists'.mp (h.al x (by rw [←eM];exact hx))
 have g01:g=0∨g=1:=by omega
 rcases g01 with rfl | rfl
 ·refine ⟨p,dp,n,lst :: lsn :: f1,rfl,fun x hx=>?_,fun m=>?_,upd_same,by omega,by omega,fun H2 fp st nd fr k2=>⟨rfl,?_⟩⟩
  ·obtain ⟨o,e⟩:=al x (by rw [eM];simp only [List.mem_cons,List.mem_append] at hx ⊢;rcases hx with a | a | a <;> simp [a])
   rw [kn x o e (by simp)];simp
  ·obtain ⟨o,e⟩:=al p (by rw [eM];simp only [List.mem_cons,List.mem_append] at m ⊢;rcases m with a | a | a <;> simp [a])
   rw [hp] at e;cases e
  have k12:=made_kp hp hdp k2
  have fr':∀ b∈fp,H b=none:=fun b hb=>kn.free (fr b hb) (by simp)
  refine ⟨_,_,_,k12 tb _ h.hb (by simp),T.c_B.cl,T.n_B_structures,_,rfl,lst,rfl,_,k12 lst _ h.hs (by simp),0,rfl,?_⟩
  have tA:=h.new0 st k12 fr' nd (by show n.toNat≤12;omega)
  refine kq.done (s':={ s with a:={ n:=n.toNat,rows:=List.replicate n.toNat 0 } }) ⟨_,_,_,_,_,_,_,_,rfl,tA⟩ (fun x hx=>?_) ((k12.of).set (by rw [eM];simp)) (by rw [hd];rfl) fun x hx=>?_
  ·rw [eM]
   simp only [List.mem_cons,List.mem_append] at hx ⊢
   rcases hx with a | a | a | a
   ·simp [a]
   ·simp [a]
   ·exact .inr (fr' x a)
   ·simp [a]
  ·obtain ⟨o,e⟩:=al x hx
   by_cases xl:x=lst
   ·rw [xl,upd_same];simp
   ·rw [upd_ne xl,k12 x o e (by simp)];simp
 ·refine ⟨p,dp,n,lst :: lsn :: f0,rfl,fun x hx=>?_,fun m=>?_,upd_same,by omega,by omega,fun H2 fp st nd fr k2=>⟨rfl,?_⟩⟩
  ·obtain ⟨o,e⟩:=al x (by rw [eM];simp only [List.mem_cons,List.mem_append] at hx ⊢;rcases hx with a | a | a <;> simp [a])
   rw [kn x o e (by simp)];simp
  ·obtain ⟨o,e⟩:=al p (by rw [eM];simp only [List.mem_cons,List.mem_append] at m ⊢;rcases m with a | a | a <;> simp [a])
   rw [hp] at e;cases e
  have k12:=made_kp hp hdp k2
  have fr':∀ b∈fp,H b=none:=fun b hb=>kn.free (fr b hb) (by simp)
  refine ⟨_,_,_,k12 tb _ h.hb (by simp),T.c_B.cl,T.n_B_structures,_,rfl,lst,rfl,_,k12 lst _ h.hs (by simp),1,rfl,?_⟩
  have tA:=h.new1 st k12 fr' nd (by show n.toNat≤12;omega)
  refine kq.done (s':={ s with b:={ n:=n.toNat,rows:=List.replicate n.toNat 0 } }) ⟨_,_,_,_,_,_,_,_,rfl,tA⟩ (fun x hx=>?_) ((k12.of).set (by rw [eM];simp)) (by rw [hd];rfl) fun x hx=>?_
  ·rw [eM]
   simp only [List.mem_cons,List.mem_append] at hx ⊢
   rcases hx with a | a | a | a
   ·simp [a]
   ·simp [a]
   ·simp [a]
   ·exact .inr (fr' x a)
  ·obtain ⟨o,e⟩:=al x hx
   by_cases xl:x=lst
   ·rw [xl,upd_same];simp
   ·rw [upd_ne xl,k12 x o e (by simp)];simp
def sp_B_arc (K:Frag) : Sp:=fun vs H Q _=>∃ (tb:Addr) (g x y on:Int) (s:Rc82.Abs) (M:List Addr),vs=[.ref tb,.int g,.int x,.int y,.int on]∧TbAt K H tb s M∧DPost K H tb M s (.arc g x y on) Q
theorem ok_B_arc (T:Txt P w K mg) : FM P w K mg base 3 "Table" "arc" ["self","g","x","y","on"] (sp_B_arc K):=by
 refine T.x_B_arc.F.ok sc_B_arc (fun _ _ _ _ h=>ex7 h fun _ _ _ _ _ _ _ e=>e.1▸rfl) fun _ _ _ s H vs Q E hr zh=>ex7 zh fun tb g x y on s M yh=>an3 yh fun vz hT kq=>?_
 clear zh yh;subst vz
 have hT':=hT
 refine ex8 hT' fun dx lst lsn p0 p1 f0 f1 sl y=>?_
 obtain ⟨eM,h⟩:=y
 have hd:Rc82.does s (.arc g x y on)=if (Rc82.isWhich g && (Rc82.below x (s.at_ g).n && Rc82.below y (s.at_ g).n))=false then (s,Rc82.refused) else (s.put g { s.at_ g with rows:=(s.at_ g).rows.set x.toNat (Rc82.putBit ((s.at_ g).rows.getD x.toNat 0) y.toNat (decide (on≠0))) },{ value:=0 }):=rfl
 refine ⟨_,(pss_cons (ps_if (PW.pt (pw_or (pt_not (pt_val (pe_meth (pv 0) T.c_B.cl T.x_B_has_point.m (ok_B_has_point T) (hr.mono (by decide)) T.x_B_has_point.b .nil pass0 (pa_cons (pv 1) (pa_cons (pv 2) pa_nil))))) (pw_or1 (pt_not (pt_val (pe_meth (pv 0) T.c_B.cl T.x_B_has_point.m (ok_B_has_point T) (hr.mono (by decide)) T.x_B_has_point.b .nil pass0 (pa_cons (pv 1) (pa_cons (pv 3) pa_nil)))))))) (pss_one (ps_ret (pe_lst (pa_cons (pe_gint rfl T.g_OUTSIDE) pa_nil)))) pss_nil)
   (pss_cons (ps_expr (pe_meth (pe_ix ix_list (pe_fld (pv 0) rfl) (pv 1) (fun _ _=>rfl)) T.c_S.cl T.x_S_put_arc.m (ok_S_put_arc T) (hr.mono (by decide)) T.x_S_put_arc.b .nil pass0 (pa_cons (pv 2) (pa_cons (pv 3) (pa_cons (pv 4) pa_nil)))))
   (pss_one (ps_ret (pe_lst (pa_cons (pe_gint rfl T.g_DONE) pa_nil)))))),?_⟩
 walk_at "rd"
 refine ⟨_,_,h.hb,fB_has_point,tb,g,x,s,M,rfl,hT,_,rfl,?_⟩
 rw [hasP_is]
 by_cases c1:(Rc82.isWhich g && Rc82.below x (s.at_ g).n)=false
 ·rw [if_pos c1]
  refine kq.refuse hT ?_
  rw [hd,if_pos]
  rw [←Bool.and_assoc,c1,Bool.false_and]
 rw [if_neg c1]
 refine ⟨_,_,h.hb,fB_has_point,tb,g,y,s,M,rfl,hT,_,rfl,?_⟩
 rw [hasP_is]
 by_cases c2:(Rc82.isWhich g && Rc82.below y (s.at_ g).n)=false
 ·rw [if_pos c2]
  refine kq.refuse hT ?_
  rw [hd,if_pos]
  rw [Bool.not_eq_false,Bool.and_eq_true] at c1
  rw [c1.1,Bool.true_and] at c2 ⊢
  rw [c2,Bool.and_false]
 rw [if_neg c2]
 rw [Bool.not_eq_false,Bool.and_eq_true] at c1 c2
 rw [if_neg (by rw [c1.1,c1.2,c2.2];simp)] at hd
 obtain ⟨cg,cx⟩:=c1
 have cy:=c2.2
 rw [isWhich_is] at cg
 unfold Rc82.below at cx
 unfold Rc82.below at cy
 simp only [Bool.and_eq_true,decide_eq_true_eq] at cg cx cy
 have al:∀ x∈M,∃ o,H x=some o:=fun x hx=>Option.ne_none_iff_exists'.mp (h.al x (by rw [←eM];exact hx))
 have g01:g=0∨g=1:=by omega
 rcases g01 with rfl | rfl
 ·obtain ⟨ds,la,lm,hp,_⟩:=id (h.s0.kp hide_kp).arcs
  refine ⟨_,_,_,h.hb,T.c_B.cl,T.n_B_structures,_,rfl,lst,rfl,_,SqL.of h.hs,_,rfl,p0,rfl,_,_,hp,rfl,p0,x,y,on,s.a,f0,lst :: lsn :: f1,rfl,h.s0,h.d0,cx.1,by simpa [Rc82.Abs.at_] using cx.2,cy.1,by simpa [Rc82.Abs.at_] using cy.2,fun H2 st k2=>?_⟩
  have tA:=h.set0 st k2 h.n0
  refine kq.done (s':={ s with a:={ s.a with rows:=s.a.rows.set x.toNat (Rc82.putBit (s.a.rows.getD x.toNat 0) y.toNat (decide (on≠0))) } }) ⟨_,_,_,_,_,_,_,_,rfl,tA⟩ (fun x hx=>.inl (by rw [eM];exact hx)) (fun b o e n=>k2 b o e (fun m=>n (by rw [eM];simp [m]))) hd fun x hx=>?_
  exact tA.al x (by rw [←eM];exact hx)
 ·obtain ⟨ds,la,lm,hp,_⟩:=id (h.s1.kp hide_kp).arcs
  refine ⟨_,_,_,h.hb,T.c_B.cl,T.n_B_structures,_,rfl,lst,rfl,_,SqL.of h.hs,_,rfl,p1,rfl,_,_,hp,rfl,p1,x,y,on,s.b,f1,lst :: lsn :: f0,rfl,h.s1,h.d1,cx.1,by simpa [Rc82.Abs.at_] using cx.2,cy.1,by simpa [Rc82.Abs.at_] using cy.2,fun H2 st k2=>?_⟩
  have tA:=h.set1 st k2 h.n1
  refine kq.done (s':={ s with b:={ s.b with rows:=s.b.rows.set x.toNat (Rc82.putBit (s.b.rows.getD x.toNat 0) y.toNat (decide (on≠0))) } }) ⟨_,_,_,_,_,_,_,_,rfl,tA⟩ (fun x hx=>.inl (by rw [eM];exact hx)) (fun b o e n=>k2 b o e (fun m=>n (by rw [eM];simp [m]))) hd fun x hx=>?_
  exact tA.al x (by rw [←eM];exact hx)
def sp_B_mark (K:Frag) : Sp:=fun vs H Q _=>∃ (tb:Addr) (g m x on:Int) (s:Rc82.Abs) (M:List Addr),vs=[.ref tb,.int g,.int m,.int x,.int on]∧TbAt K H tb s M∧DPost K H tb M s (.mark g m x on) Q
theorem ok_B_mark (T:Txt P w K mg) : FM P w K mg base 3 "Table" "mark" ["self","g","m","x","on"] (sp_B_mark K):=by
 refine T.x_B_mark.F.ok sc_B_mark (fun _ _ _ _ h=>ex7 h fun _ _ _ _ _ _ _ e=>e.1▸rfl) fun _ _ _ s H vs Q E hr zh=>ex7 zh fun tb g m x on s M yh=>an3 yh fun vz hT kq=>?_
 clear zh yh;subst vz
 have hT':=hT
 refine ex8 hT' fun dx lst lsn p0 p1 f0 f1 sl y=>?_
 obtain ⟨eM,h⟩:=y
 have hd:Rc82.does s (.mark g m x on)=if (Rc82.isWhich g && (Rc82.isWhich m && Rc82.below x (s.at_ g).n))=false then (s,Rc82.refused) else (s.put g (if m=0 then { s.at_ g with p:=Rc82.putBit (s.at_ g).p x.toNat (decide (on≠0)) } else { s.at_ g with q:=Rc82.putBit (s.at_ g).q x.toNat (decide (on≠0)) }),{ value:=0 }):=rfl
 refine ⟨_,(pss_cons (ps_if (PW.pt (pw_or (pt_not (pt_val (pe_call (ok_is_mark T) (hr.mono (by decide)) rfl T.x_is_mark.g T.x_is_mark.k T.x_is_mark.b .nil pass0 (pa_cons (pv 2) pa_nil)))) (pw_or1 (pt_not (pt_val (pe_meth (pv 0) T.c_B.cl T.x_B_has_point.m (ok_B_has_point T) (hr.mono (by decide)) T.x_B_has_point.b .nil pass0 (pa_cons (pv 1) (pa_cons (pv 3) pa_nil)))))))) (pss_one (ps_ret (pe_lst (pa_cons (pe_gint rfl T.g_OUTSIDE) pa_nil)))) pss_nil)
   (pss_cons (ps_expr (pe_meth (pe_ix ix_list (pe_fld (pv 0) rfl) (pv 1) (fun _ _=>rfl)) T.c_S.cl T.x_S_put_mark.m (ok_S_put_mark T) (hr.mono (by decide)) T.x_S_put_mark.b .nil pass0 (pa_cons (pv 2) (pa_cons (pv 3) (pa_cons (pv 4) pa_nil)))))
   (pss_one (ps_ret (pe_lst (pa_cons (pe_gint rfl T.g_DONE) pa_nil)))))),?_⟩
 walk_at "rd"
 refine ⟨m,rfl,_,rfl,?_⟩
 rw [←isWhich_is]
 by_cases c1:Rc82.isWhich m=false
 ·rw [if_pos c1]
  refine kq.refuse hT ?_
  rw [hd,if_pos]
  rw [c1,Bool.false_and,Bool.and_false]
 rw [if_neg c1]
 refine ⟨_,_,h.hb,fB_has_point,tb,g,x,s,M,rfl,hT,_,rfl,?_⟩
 rw [hasP_is]
 by_cases c2:(Rc82.isWhich g && Rc82.below x (s.at_ g).n)=false
 ·rw [if_pos c2]
  refine kq.refuse hT ?_
  rw [hd,if_pos]
  rw [Bool.not_eq_false] at c1
  rw [c1,Bool.true_and]
  exact c2
 rw [if_neg c2]
 rw [Bool.not_eq_false,Bool.and_eq_true] at c2
 rw [Bool.not_eq_false] at c1
 rw [if_neg (by rw [c1,c2.1,c2.2];simp)] at hd
 obtain ⟨cg,cx⟩:=c2
 have cy:=c1
 rw [isWhich_is] at cy
 rw [isWhich_is] at cg
 unfold Rc82.below at cx
 skip
 simp only [Bool.and_eq_true,decide_eq_true_eq] at cg cx cy
 have al:∀ x∈M,∃ o,H x=some o:=fun x hx=>Option.ne_none_iff_exists'.mp (h.al x (by rw [←eM];exact hx))
 have g01:g=0∨g=1:=by omega
 rcases g01 with rfl | rfl
 ·obtain ⟨ds,la,lm,hp,_⟩:=id (h.s0.kp hide_kp).arcs
  refine ⟨_,_,_,h.hb,T.c_B.cl,T.n_B_structures,_,rfl,lst,rfl,_,SqL.of h.hs,_,rfl,p0,rfl,_,_,hp,rfl,p0,m,x,on,s.a,f0,lst :: lsn :: f1,rfl,h.s0,h.d0,cy.1,cy.2,cx.1,by simpa [Rc82.Abs.at_] using cx.2,fun H2 st k2=>?_⟩
  have tA:=h.set0 st k2 (by split <;> exact h.n0)
  refine kq.done (s':={ s with a:=(if m=0 then { s.a with p:=Rc82.putBit s.a.p x.toNat (decide (on≠0)) } else { s.a with q:=Rc82.putBit s.a.q x.toNat (decide (on≠0)) }) }) ⟨_,_,_,_,_,_,_,_,rfl,tA⟩ (fun x hx=>.inl (by rw [eM];exact hx)) (fun b o e n=>k2 b o e (fun m=>n (by rw [eM];simp [m]))) hd fun x hx=>?_
  exact tA.al x (by rw [←eM];exact hx)
 ·obtain ⟨ds,la,lm,hp,_⟩:=id (h.s1.kp hide_kp).arcs
  refine ⟨_,_,_,h.hb,T.c_B.cl,T.n_B_structures,_,rfl,lst,rfl,_,SqL.of h.hs,_,rfl,p1,rfl,_,_,hp,rfl,p1,m,x,on,s.b,f1,lst :: lsn :: f0,rfl,h.s1,h.d1,cy.1,cy.2,cx.1,by simpa [Rc82.Abs.at_] using cx.2,fun H2 st k2=>?_⟩
  have tA:=h.set1 st k2 (by split <;> exact h.n1)
  refine kq.done (s':={ s with b:=(if m=0 then { s.b with p:=Rc82.putBit s.b.p x.toNat (decide (on≠0)) } else { s.b with q:=Rc82.putBit s.b.q x.toNat (decide (on≠0)) }) }) ⟨_,_,_,_,_,_,_,_,rfl,tA⟩ (fun x hx=>.inl (by rw [eM];exact hx)) (fun b o e n=>k2 b o e (fun m=>n (by rw [eM];simp [m]))) hd fun x hx=>?_
  exact tA.al x (by rw [←eM];exact hx)
def refL (s:Rc82.Abs) (slot:Int) : List Int:=if Rc82.below slot 8=false then [-1] else match s.form slot with
 | none=>[-2]
 | some _=>[]
theorem below8 (z:Int) : Rc82.below z 8=(decide (0≤z) && decide (z < 8)):=rfl
theorem TbX.slot {H:Hp} {tb dx lst lsn p0 p1:Addr} {s:Rc82.Abs} {f0 f1:List Addr} {sl:List V} (h:TbX K H tb s dx lst lsn p0 p1 f0 f1 sl) {z:Int} (h0:0≤z) (h8:z < 8) : ∃ v,atI sl z=some v∧SlotAt K H v (s.form z):=by
 obtain ⟨v,hv⟩ : ∃ v,sl[z.toNat]? = some v:=⟨_,List.getElem?_eq_getElem (by rw [h.sl8];omega)⟩
 obtain ⟨o,ho⟩ : ∃ o,s.forms[z.toNat]? = some o:=⟨_,List.getElem?_eq_getElem (by rw [h.fl8];omega)⟩
 refine ⟨v,at_in h0 hv,?_⟩
 have e:s.form z=o:=by unfold Rc82.Abs.form;rw [List.getD_eq_getElem?_getD,ho];rfl
 rw [e]
 exact (h.sen _ v o hv ho).kp hide_kp
def sp_B_refusal (K:Frag) : Sp:=fun vs H Q _=>∃ (tb:Addr) (slot:Int) (s:Rc82.Abs) (M:List Addr),vs=[.ref tb,.int slot]∧TbAt K H tb s M∧∀ l,H l=none→Q (.ref l) (upd H l (.lst ((refL s slot).map V.int)))
theorem ok_B_refusal (T:Txt P w K mg) : FM P w K mg base 2 "Table" "refusal" ["self","slot"] (sp_B_refusal K):=by
 refine T.x_B_refusal.F.ok sc_B_refusal (fun _ _ _ _ h=>ex4 h fun _ _ _ _ e=>e.1▸rfl) fun _ _ _ s H vs Q E hr zh=>ex4 zh fun tb slot s M yh=>an3 yh fun vz z0 kq=>?_
 clear zh yh;subst vz
 obtain ⟨dx,lst,lsn,p0,p1,f0,f1,sl,eM,h⟩:=z0
 refine ⟨_,(pss_cons (ps_if (pt_not (pt_val (pe_call (ok_is_slot T) (hr.mono (by decide)) rfl T.x_is_slot.g T.x_is_slot.k T.x_is_slot.b .nil pass0 (pa_cons (pv 1) pa_nil)))) (pss_one (ps_ret (pe_lst (pa_cons (pe_gint rfl T.g_OUTSIDE) pa_nil)))) pss_nil)
   (pss_cons (ps_if (pt_cmp (pc_isN (pe_ix ix_list (pe_fld (pv 0) rfl) (pv 1) (fun _ _=>rfl)))) (pss_one (ps_ret (pe_lst (pa_cons (pe_gint rfl T.g_MISSING) pa_nil)))) pss_nil)
   (pss_one (ps_ret (pe_lst pa_nil))))),?_⟩
 walk_at "rd"
 refine ⟨slot,rfl,_,rfl,?_⟩
 unfold refL at kq
 rw [←below8]
 by_cases c:Rc82.below slot 8=false
 ·rw [if_pos c] at kq ⊢
  exact ⟨by decide,kq⟩
 ·rw [if_neg c] at kq ⊢
  have c':=c
  rw [Bool.not_eq_false,below8] at c'
  simp only [Bool.and_eq_true,decide_eq_true_eq] at c'
  obtain ⟨v,ev,hv⟩:=h.slot c'.1 c'.2
  simp only [h.hb,T.c_B.cl,T.n_B_structures,T.n_B_sentences,fs_B_structures,fs_B_sentences,fB_has_point,fB_begin,fB_refusal,fB_game,fB_can_lie,hpL,V.int.injEq,V.ref.injEq]
  refine ⟨_,SqL.of h.hn,_,ev,?_⟩
  rcases hv with ⟨e1,rfl⟩ | ⟨f,a,e1,rfl,e3⟩
  ·rw [e1] at kq
   exact ⟨by decide,kq⟩
  ·rw [e1] at kq
   exact ⟨by decide,kq⟩
theorem refL_cases {H:Hp} {tb dx lst lsn p0 p1:Addr} {s:Rc82.Abs} {f0 f1:List Addr} {sl:List V} (h:TbX K H tb s dx lst lsn p0 p1 f0 f1 sl) (z:Int) : (Rc82.below z 8=false∧refL s z=[-1])∨(Rc82.below z 8=true∧s.form z=none∧refL s z=[-2])∨∃ f a,Rc82.below z 8=true∧s.form z=some f∧refL s z=[]∧atI sl z=some (.ref a)∧SenAt K H a f:=by
 unfold refL
 by_cases c:Rc82.below z 8=false
 ·exact .inl ⟨c,if_pos c⟩
 ·rw [if_neg c]
  have c':=c
  rw [Bool.not_eq_false] at c
  rw [Bool.not_eq_false,below8] at c'
  simp only [Bool.and_eq_true,decide_eq_true_eq] at c'
  obtain ⟨v,ev,hv⟩:=h.slot c'.1 c'.2
  rcases hv with ⟨e1,rfl⟩ | ⟨f,a,e1,rfl,e3⟩
  ·exact .inr (.inl ⟨c,e1,by rw [e1]⟩)
  ·exact .inr (.inr ⟨f,a,c,e1,by rw [e1],ev,e3⟩)
theorem DPost.same {H H':Hp} {tb:Addr} {M:List Addr} {s:Rc82.Abs} {q:Rc82.Call} {Q:VK} {l:Addr} {a:Rc82.Ans} (k:DPost K H tb M s q Q) (h:TbAt K H tb s M) (e:Rc82.does s q=(s,a)) (kk:Kp [] H H') (hl:H l=none) (e':H' l=some (.lst ((ans a).map V.int))) : Q (.ref l) H':=by
 unfold DPost at k
 rw [e] at k
 exact k.same h kk hl e'
def sp_B_rank (K:Frag) : Sp:=fun vs H Q _=>∃ (tb:Addr) (slot:Int) (s:Rc82.Abs) (M:List Addr),vs=[.ref tb,.int slot]∧TbAt K H tb s M∧DPost K H tb M s (.rank slot) Q
theorem ok_B_rank (T:Txt P w K mg) : FM P w K mg base 3 "Table" "rank" ["self","slot"] (sp_B_rank K):=by
 refine T.x_B_rank.F.ok sc_B_rank (fun _ _ _ _ h=>ex4 h fun _ _ _ _ e=>e.1▸rfl) fun _ _ _ s H vs Q E hr zh=>ex4 zh fun tb slot s M yh=>an3 yh fun vz hT kq=>?_
 clear zh yh;subst vz
 have hT':=hT
 refine ex8 hT' fun dx lst lsn p0 p1 f0 f1 sl y=>?_
 obtain ⟨eM,h⟩:=y
 refine ⟨_,(pss_cons (ps_set (i:=2) sc_B_rank.nd rfl (Or.inl rfl) (pe_meth (pv 0) T.c_B.cl T.x_B_refusal.m (ok_B_refusal T) (hr.mono (by decide)) T.x_B_refusal.b .nil pass0 (pa_cons (pv 1) pa_nil)))
   (pss_cons (ps_if (pt_gt (pe_callB call_len_seq (by rfl) T.nb_len PySem.boot_len (pa_cons (pv 2) pa_nil)) pe_int (nomark _)) (pss_one (ps_ret (pv 2))) pss_nil)
   (pss_one (ps_ret (pe_lst (pa_cons (pe_fld (pe_ix ix_list (pe_fld (pv 0) rfl) (pv 1) (fun _ _=>rfl)) rfl) pa_nil)))))),?_⟩
 walk_at "rd"
 refine ⟨_,_,h.hb,fB_refusal,tb,slot,s,M,rfl,hT,fun l hl=>⟨l,rfl,_,.inl (SqL.of upd_same),?_⟩⟩
 have kl:Kp [] H (upd H l (.lst ((refL s slot).map V.int))):=(Kp.refl _).new hl
 rcases refL_cases h slot with ⟨c,e⟩ | ⟨c,e0,e⟩ | ⟨f,a,c,e0,e,ea,sen⟩
 ·have hd:Rc82.does s (.rank slot)=(s,Rc82.refused):=by unfold Rc82.does;simp only [c];rfl
  rw [e] at kl ⊢
  rw [if_pos (by decide)]
  exact kq.same hT hd kl hl upd_same
 ·have hd:Rc82.does s (.rank slot)=(s,{ value:=-2 }):=by unfold Rc82.does;simp only [c,e0];rfl
  rw [e] at kl ⊢
  rw [if_pos (by decide)]
  exact kq.same hT hd kl hl upd_same
 rw [e] at kl ⊢
 rw [if_neg (by decide)]
 have h1:=h.kp kl
 obtain ⟨ds,lc,ls,as,hs,hlc,_,_,_,hw,wl⟩:=sen
 have hd:Rc82.does s (.rank slot)=(s,{ value:=(Rc82.rank f:Nat) }):=by unfold Rc82.does;simp only [c,e0];rfl
 refine ⟨_,_,_,h1.hb,T.c_B.cl,T.n_B_sentences,_,rfl,lsn,rfl,_,SqL.of h1.hn,_,ea,a,rfl,_,_,_,kl _ _ hs (by simp),T.c_N.cl,T.n_N_depth,_,rfl,by decide,fun p hp=>?_⟩
 exact kq.same hT hd (kl.new hp) (kl.free hp (by simp)) upd_same
theorem cut_take (xs:List V) {m:Int} (h0:0≤m) : cutV xs none (some m)=xs.take m.toNat:=by
 unfold cutV
 obtain ⟨k,rfl⟩:=Int.eq_ofNat_of_zero_le h0
 rw [HT.sIx_none,HT.sIx_nat,List.drop_zero,Nat.sub_zero,Int.toNat_natCast,Nat.min_comm,←List.take_take]
 rw [List.take_of_length_le (by rw [List.length_take];omega)]
def sp_B_text (K:Frag) : Sp:=fun vs H Q _=>∃ (tb:Addr) (slot most:Int) (s:Rc82.Abs) (M:List Addr),vs=[.ref tb,.int slot,.int most]∧TbAt K H tb s M∧DPost K H tb M s (.text slot most) Q
theorem ok_B_text (T:Txt P w K mg) : FM P w K mg base 3 "Table" "text" ["self","slot","most"] (sp_B_text K):=by
 refine T.x_B_text.F.ok sc_B_text (fun _ _ _ _ h=>ex5 h fun _ _ _ _ _ e=>e.1▸rfl) fun _ _ _ s H vs Q E hr zh=>ex5 zh fun tb slot most s M yh=>an3 yh fun vz hT kq=>?_
 clear zh yh;subst vz
 have hT':=hT
 refine ex8 hT' fun dx lst lsn p0 p1 f0 f1 sl y=>?_
 obtain ⟨eM,h⟩:=y
 refine ⟨_,(pss_cons (ps_set (i:=3) sc_B_text.nd rfl (Or.inl rfl) (pe_meth (pv 0) T.c_B.cl T.x_B_refusal.m (ok_B_refusal T) (hr.mono (by decide)) T.x_B_refusal.b .nil pass0 (pa_cons (pv 1) pa_nil)))
   (pss_cons (ps_if (pt_gt (pe_callB call_len_seq (by rfl) T.nb_len PySem.boot_len (pa_cons (pv 3) pa_nil)) pe_int (nomark _)) (pss_one (ps_ret (pv 3))) pss_nil)
   (pss_cons (ps_set (i:=4) sc_B_text.nd rfl (Or.inl rfl) (pe_fld (pe_ix ix_list (pe_fld (pv 0) rfl) (pv 1) (fun _ _=>rfl)) rfl))
   (pss_cons (ps_if (pt_not (pt_val (pe_call (ok_is_byte_count T) (hr.mono (by decide)) rfl T.x_is_byte_count.g T.x_is_byte_count.k T.x_is_byte_count.b .nil pass0 (pa_cons (pv 2) pa_nil)))) (pss_one (ps_ret (pe_lst (pa_cons (pe_callB call_len_seq (by rfl) T.nb_len PySem.boot_len (pa_cons (pv 4) pa_nil)) pa_nil)))) pss_nil)
   (pss_one (ps_ret (pe_op op_cat (pe_lst (pa_cons (pe_callB call_len_seq (by rfl) T.nb_len PySem.boot_len (pa_cons (pv 4) pa_nil)) pa_nil)) (pe_slice sl_list (pv 4) po_none (po_some (pv 2)))))))))),?_⟩
 walk_at "rd"
 refine ⟨_,_,h.hb,fB_refusal,tb,slot,s,M,rfl,hT,fun l hl=>⟨l,rfl,_,.inl (SqL.of upd_same),?_⟩⟩
 have kl:Kp [] H (upd H l (.lst ((refL s slot).map V.int))):=(Kp.refl _).new hl
 rcases refL_cases h slot with ⟨c,e⟩ | ⟨c,e0,e⟩ | ⟨f,a,c,e0,e,ea,sen⟩
 ·have hd:Rc82.does s (.text slot most)=(s,Rc82.refused):=by unfold Rc82.does;simp only [c];rfl
  rw [e] at kl ⊢
  rw [if_pos (by decide)]
  exact kq.same hT hd kl hl upd_same
 ·have hd:Rc82.does s (.text slot most)=(s,{ value:=-2 }):=by unfold Rc82.does;simp only [c,e0];rfl
  rw [e] at kl ⊢
  rw [if_pos (by decide)]
  exact kq.same hT hd kl hl upd_same
 rw [e] at kl ⊢
 rw [if_neg (by decide)]
 have h1:=h.kp kl
 obtain ⟨ds,lc,ls,as,hs,hlc,_,_,_,hw,wl⟩:=sen
 have hd:Rc82.does s (.text slot most)=(s,{ value:=((Rc82.written f).length:Nat),numbers:=(Rc82.written f).take (Rc82.room_ most) }):=by unfold Rc82.does;simp only [c,e0];rfl
 refine ⟨_,_,_,h1.hb,T.c_B.cl,T.n_B_sentences,_,rfl,lsn,rfl,_,SqL.of h1.hn,_,ea,a,rfl,_,_,_,kl _ _ hs (by simp),T.c_N.cl,T.n_N_codes,_,rfl,?_⟩
 generalize upd H l _=H1 at *
 have hl1:=kl _ _ hlc (by simp)
 have nl:((Rc82.written f).map fun (x:Nat)=>V.int (x:Int)).length=(Rc82.written f).length:=List.length_map _
 refine ⟨most,rfl,_,rfl,?_⟩
 unfold Rc82.room_ Rc82.LONG at hd
 by_cases c2:1≤most∧most≤256
 ·rw [if_neg (by simp [c2.1,c2.2])]
  rw [if_pos ⟨c2.1,by omega⟩] at hd
  refine ⟨lc,rfl,_,.inl (SqL.of hl1),by decide,fun p hp=>⟨lc,rfl,_,SqL.of (upd_old hl1 hp),fun p1 hp1=>⟨_,upd_old upd_same hp1,_,upd_same,?_,fun p2 hp2=>?_⟩⟩⟩
  ·rw [cut_take _ (by omega),List.length_take,nl]
   have:(1:Nat)+256≤sizeLine:=by decide
   simp only [List.length_cons,List.length_nil]
   omega
  ·refine kq.same hT hd (((kl.new hp).new hp1).new hp2) (Kp.free ((kl.new hp).new hp1) hp2 (by simp)) ?_
   rw [upd_same,cut_take _ (by omega),nl]
   simp only [ans,List.map_cons,List.map_map,List.singleton_append,List.map_take]
   rfl
 ·rw [if_pos (by simp only [Bool.and_eq_false_iff,decide_eq_false_iff_not];omega)]
  rw [if_neg (by omega)] at hd
  refine ⟨lc,rfl,_,.inl (SqL.of hl1),by decide,fun p hp=>?_⟩
  refine kq.same hT hd (kl.new hp) (kl.free hp (by simp)) ?_
  rw [upd_same,nl]
  rfl
def sp_B_form (K:Frag) : Sp:=fun vs H Q _=>∃ (tb lc:Addr) (slot n:Int) (t:List Nat) (s:Rc82.Abs) (M:List Addr),vs=[.ref tb,.int slot,.int n,.ref lc]∧TbAt K H tb s M∧lc∉M∧H lc=some (nats t)∧(∀ c∈t,c < 256)∧(1≤n→n≤256→(t.length:Int)=n)∧DPost K H tb M s (.form slot t n) Q
theorem TbX.setF {H:Hp} {tb dx lst lsn p0 p1:Addr} {s:Rc82.Abs} {f0 f1:List Addr} {sl:List V} (h:TbX K H tb s dx lst lsn p0 p1 f0 f1 sl) {f:Rc82.Form} {a:Addr} {i:Nat} (sen:SenAt K (hide (lst :: lsn :: (f0 ++ f1)) H) a f) : TbX K (upd H lsn (.lst (sl.set i (.ref a)))) tb { s with forms:=s.forms.set i (some f) } dx lst lsn p0 p1 f0 f1 (sl.set i (.ref a)):=by
 refine ⟨fun x hx=>?_,h.ne,?_,?_,upd_same,?_,?_,h.d0,h.d1,h.n0,h.n1,by rw [List.length_set];exact h.sl8,by show (s.forms.set i (some f)).length=8;rw [List.length_set];exact h.fl8,fun j v o hv ho=>?_⟩
 ·by_cases e:x=lsn
  ·rw [e,upd_same];simp
  ·rw [upd_ne e];exact h.al x hx
 ·rw [upd_ne (ne_of h.hb h.hn (by intro z;cases z))];exact h.hb
 ·rw [upd_ne h.ne];exact h.hs
 ·rw [hide_in (by simp)];exact h.s0
 ·rw [hide_in (by simp)];exact h.s1
 ·rw [hide_in (by simp)]
  have ho':(s.forms.set i (some f))[j]? = some o:=ho
  rw [List.getElem?_set] at hv ho'
  by_cases e:i=j
  ·rw [if_pos e] at hv ho'
   have:i < sl.length:=by
    by_cases c:i < sl.length
    ·exact c
    ·rw [if_neg c] at hv;cases hv
   rw [if_pos this] at hv
   rw [if_pos (by rw [h.fl8,←h.sl8];exact this)] at ho'
   cases hv;cases ho'
   exact .inr ⟨f,a,rfl,rfl,sen⟩
  ·rw [if_neg e] at hv ho'
   exact h.sen j v o hv ho'
theorem ok_B_form (T:Txt P w K mg) : FM P w K mg base 6 "Table" "form" ["self","slot","n","codes"] (sp_B_form K):=by
 refine T.x_B_form.F.ok sc_B_form (fun _ _ _ _ h=>ex7 h fun _ _ _ _ _ _ _ e=>e.1▸rfl) fun _ _ _ s H vs Q E hr zh=>ex7 zh fun tb lc slot n t s M yh=>an7 yh fun vz hT lM hlc tb8 tn kq=>?_
 clear zh yh;subst vz
 refine ⟨_,(pss_cons (ps_if (PW.pt (pw_or (pt_not (pt_val (pe_call (ok_is_slot T) (hr.mono (by decide)) rfl T.x_is_slot.g T.x_is_slot.k T.x_is_slot.b .nil pass0 (pa_cons (pv 1) pa_nil)))) (pw_or1 (pt_not (pt_val (pe_call (ok_is_byte_count T) (hr.mono (by decide)) rfl T.x_is_byte_count.g T.x_is_byte_count.k T.x_is_byte_count.b .nil pass0 (pa_cons (pv 2) pa_nil))))))) (pss_one (ps_ret (pe_lst (pa_cons (pe_gint rfl T.g_OUTSIDE) pa_nil)))) pss_nil)
   (pss_cons (ps_set (i:=4) sc_B_form.nd rfl (Or.inl rfl) (pe_call (ok_sentence_of T) (hr.mono (by decide)) rfl T.x_sentence_of.g T.x_sentence_of.k T.x_sentence_of.b .nil pass0 (pa_cons (pv 3) pa_nil)))
   (pss_cons (ps_if (pt_cmp (pc_isN (pv 4))) (pss_one (ps_ret (pe_lst (pa_cons (pe_gint rfl T.g_MISSING) pa_nil)))) pss_nil)
   (pss_cons (ps_asg (pv 4) (pg_sub (pe_fld (pv 0) rfl) (pv 1) set_list))
   (pss_one (ps_ret (pe_lst (pa_cons (pe_gint rfl T.g_DONE) pa_nil)))))))),?_⟩
 walk_at "rd"
 have hd:Rc82.does s (.form slot t n)=if (Rc82.below slot 8 && (decide (1≤n) && (Rc82.upTo n Rc82.LONG && t.length == n.toNat)))=false then (s,Rc82.refused) else match Rc82.sentence t with
  | none=>(s,{ value:=-2 })
  | some f=>({ s with forms:=s.forms.set slot.toNat (some f) },{ value:=0 }):=rfl
 refine ⟨slot,rfl,_,rfl,?_⟩
 rw [←below8]
 by_cases c1:Rc82.below slot 8=false
 ·rw [if_pos c1]
  rw [c1,Bool.false_and,if_pos rfl] at hd
  exact kq.refuse hT hd
 rw [if_neg c1]
 rw [Bool.not_eq_false] at c1
 refine ⟨n,rfl,_,rfl,?_⟩
 by_cases c2:1≤n∧n≤256
 ·rw [if_neg (by simp [c2.1,c2.2])]
  have tl:=tn c2.1 c2.2
  have cc:(Rc82.below slot 8 && (decide (1≤n) && (Rc82.upTo n Rc82.LONG && t.length == n.toNat)))=true:=by
   unfold Rc82.upTo Rc82.LONG
   simp only [c1,Bool.true_and,Bool.and_eq_true,decide_eq_true_eq,beq_iff_eq]
   omega
  rw [if_neg (by rw [cc];simp)] at hd
  have hT':=hT
  refine ex8 hT' fun dx lst lsn p0 p1 f0 f1 sl y=>?_
  obtain ⟨eM,h⟩:=y
  have al:∀ x∈M,∃ o,H x=some o:=fun x hx=>Option.ne_none_iff_exists'.mp (h.al x (by rw [←eM];exact hx))
  refine ⟨lc,t,M,rfl,fun x hx=>h.al x (by rw [←eM];exact hx),lM,hlc,by omega,tb8,fun f hf H1 a k1 ha sen=>?_,fun hf H1 k1=>?_⟩
  ·rw [hf] at hd
   rw [if_neg (by intro z;cases z)]
   have h1:=h.kp k1
   unfold Rc82.below at c1
   simp only [Bool.and_eq_true,decide_eq_true_eq] at c1
   refine ⟨_,_,_,h1.hb,T.c_B.cl,T.n_B_sentences,_,rfl,lsn,rfl,_,h1.hn,_,ixN_in c1.1 (by rw [h1.sl8];exact c1.2),?_⟩
   have tA:=h1.setF (i:=slot.toNat) (f:=f) (a:=a) (by rw [←eM];exact sen)
   refine kq.done ⟨_,_,_,_,_,_,_,_,rfl,tA⟩ (fun x hx=>.inl (by rw [eM];exact hx)) ((k1.of).set (by rw [eM];simp)) hd fun x hx=>tA.al x (by rw [←eM];exact hx)
  ·rw [hf] at hd
   rw [if_pos rfl]
   exact ⟨by decide,fun p hp=>kq.same hT hd (k1.new hp) (k1.free hp (by simp)) upd_same⟩
 ·rw [if_pos (by simp only [Bool.and_eq_false_iff,decide_eq_false_iff_not];omega)]
  rw [if_pos] at hd
  ·exact kq.refuse hT hd
  ·unfold Rc82.upTo Rc82.LONG
   rw [c1,Bool.true_and]
   by_cases c3:1≤n
   ·rw [decide_eq_true c3,Bool.true_and]
    have:¬ (n≤((256:Nat) : Int)):=by omega
    rw [decide_eq_false this];simp
   ·rw [decide_eq_false c3,Bool.false_and]
def sp_B_holds (K:Frag) : Sp:=fun vs H Q _=>∃ (tb:Addr) (g slot:Int) (s:Rc82.Abs) (M:List Addr),vs=[.ref tb,.int g,.int slot]∧TbAt K H tb s M∧DPost K H tb M s (.holds g slot) Q
theorem ok_B_holds (T:Txt P w K mg) : FM P w K mg base 7 "Table" "holds" ["self","g","slot"] (sp_B_holds K):=by
 refine T.x_B_holds.F.ok sc_B_holds (fun _ _ _ _ h=>ex5 h fun _ _ _ _ _ e=>e.1▸rfl) fun _ _ _ s H vs Q E hr zh=>ex5 zh fun tb g slot s M yh=>an3 yh fun vz hT kq=>?_
 clear zh yh;subst vz
 refine ⟨_,(pss_cons (ps_if (pt_not (pt_val (pe_call (ok_is_structure T) (hr.mono (by decide)) rfl T.x_is_structure.g T.x_is_structure.k T.x_is_structure.b .nil pass0 (pa_cons (pv 1) pa_nil)))) (pss_one (ps_ret (pe_lst (pa_cons (pe_gint rfl T.g_OUTSIDE) pa_nil)))) pss_nil)
   (pss_cons (ps_set (i:=3) sc_B_holds.nd rfl (Or.inl rfl) (pe_meth (pv 0) T.c_B.cl T.x_B_refusal.m (ok_B_refusal T) (hr.mono (by decide)) T.x_B_refusal.b .nil pass0 (pa_cons (pv 2) pa_nil)))
   (pss_cons (ps_if (pt_gt (pe_callB call_len_seq (by rfl) T.nb_len PySem.boot_len (pa_cons (pv 3) pa_nil)) pe_int (nomark _)) (pss_one (ps_ret (pv 3))) pss_nil)
   (pss_one (ps_ret (pe_lst (pa_cons (pe_ifExp (pt_val (pe_call (ok_is_so T) (hr.mono (by decide)) rfl T.x_is_so.g T.x_is_so.k T.x_is_so.b .nil pass0 (pa_cons (pe_ix ix_list (pe_fld (pv 0) rfl) (pv 2) (fun _ _=>rfl)) (pa_cons (pe_ix ix_list (pe_fld (pv 0) rfl) (pv 1) (fun _ _=>rfl)) pa_nil)))) pe_int pe_int) pa_nil))))))),?_⟩
 walk_at "rd"
 refine ⟨g,rfl,_,rfl,?_⟩
 have hT':=hT
 refine ex8 hT' fun dx lst lsn p0 p1 f0 f1 sl y=>?_
 obtain ⟨eM,h⟩:=y
 rw [←isWhich_is]
 by_cases cg:Rc82.isWhich g=false
 ·rw [if_pos cg]
  have hd:Rc82.does s (.holds g slot)=(s,Rc82.refused):=by unfold Rc82.does;simp only [cg,Bool.false_and];rfl
  exact kq.refuse hT hd
 rw [if_neg cg]
 rw [Bool.not_eq_false] at cg
 refine ⟨_,_,h.hb,fB_refusal,tb,slot,s,M,rfl,hT,fun l hl=>⟨l,rfl,_,.inl (SqL.of upd_same),?_⟩⟩
 have kl:Kp [] H (upd H l (.lst ((refL s slot).map V.int))):=(Kp.refl _).new hl
 rcases refL_cases h slot with ⟨c,e⟩ | ⟨c,e0,e⟩ | ⟨f,a,c,e0,e,ea,sen⟩
 ·have hd:Rc82.does s (.holds g slot)=(s,Rc82.refused):=by unfold Rc82.does;simp only [c,Bool.and_false];rfl
  rw [e] at kl ⊢
  rw [if_pos (by decide)]
  exact kq.same hT hd kl hl upd_same
 ·have hd:Rc82.does s (.holds g slot)=(s,{ value:=-2 }):=by unfold Rc82.does;simp only [c,e0,cg,Bool.and_true];rfl
  rw [e] at kl ⊢
  rw [if_pos (by decide)]
  exact kq.same hT hd kl hl upd_same
 rw [e] at kl ⊢
 rw [if_neg (by decide)]
 have h1:=h.kp kl
 skip
 have hd:Rc82.does s (.holds g slot)=(s,{ value:=(Rc82.bit (Rc82.holds (s.at_ g) f) : Nat) }):=by unfold Rc82.does;simp only [c,e0,cg,Bool.and_true];rfl
 rw [isWhich_is] at cg
 simp only [Bool.and_eq_true,decide_eq_true_eq] at cg
 obtain ⟨p,fp,ep,st⟩:=h1.at_ cg.1 cg.2
 have n12:(s.at_ g).n≤12:=by unfold Rc82.Abs.at_;split;exact h.n0;exact h.n1
 refine ⟨_,_,_,h1.hb,T.c_B.cl,T.n_B_sentences,_,rfl,lsn,rfl,_,SqL.of h1.hn,_,ea,_,_,_,h1.hb,T.c_B.cl,T.n_B_structures,_,rfl,lst,rfl,_,SqL.of h1.hs,_,ep,?_⟩
 refine ⟨a,p,f,s.at_ g,fp,rfl,sen.kp kl,st,n12,fun H2 k2=>⟨_,rfl,?_⟩⟩
 have k3:=kl.trans k2
 cases hb:Rc82.holds (s.at_ g) f with
 | true =>
  rw [hb] at hd
  rw [if_pos rfl]
  exact ⟨by decide,fun q hq=>kq.same hT hd (k3.new hq) (k3.free hq (by simp)) upd_same⟩
 | false =>
  rw [hb] at hd
  rw [if_neg (by decide)]
  exact ⟨by decide,fun q hq=>kq.same hT hd (k3.new hq) (k3.free hq (by simp)) upd_same⟩
def sp_B_game (K:Frag) : Sp:=fun vs H Q _=>∃ (tb:Addr) (s:Rc82.Abs) (M:List Addr),vs=[.ref tb]∧TbAt K H tb s M∧s.a.n≤4∧s.b.n≤4∧∀ H' g df dk kf kk,GameAt K H' g s.a s.b df dk kf kk→FK kf 0→H df=none→H dk=none→Kp [] H H'→Q (.ref g) H'
theorem ok_B_game (T:Txt P w K mg) : FM P w K mg base 6 "Table" "game" ["self"] (sp_B_game K):=by
 refine T.x_B_game.F.ok sc_B_game (fun _ _ _ _ h=>ex3 h fun _ _ _ e=>e.1▸rfl) fun _ _ _ s H vs Q E hr zh=>ex3 zh fun tb s M yh=>an5 yh fun vz z0 na nb kq=>?_
 clear zh yh;subst vz
 obtain ⟨dx,lst,lsn,p0,p1,f0,f1,sl,eM,h⟩:=z0
 refine ⟨_,(pss_one (ps_ret (pe_make T.c_G.mkr (ok_G_init T) (hr.mono (by decide)) rfl T.c_G.c T.x_G_init.b .nil pass0 (pa_cons (pe_ix ix_list (pe_fld (pv 0) rfl) pe_int (fun _ _=>rfl)) (pa_cons (pe_ix ix_list (pe_fld (pv 0) rfl) pe_int (fun _ _=>rfl)) pa_nil))))),?_⟩
 walk_at "rd"
 simp only [h.hb,T.c_B.cl,T.n_B_structures,T.n_B_sentences,fs_B_structures,fs_B_sentences,fB_has_point,fB_begin,fB_refusal,fB_game,fB_can_lie,hpL,V.int.injEq,V.ref.injEq]
 refine ⟨_,SqL.of h.hs,_,rfl,_,SqL.of h.hs,_,rfl,fun g dg hg hdg hne=>?_⟩
 have kn:=kp_new2 (C:=cA K "Game") hg hdg hne
 refine ⟨g,dg,p0,p1,s.a,s.b,f0,f1,rfl,upd_same,(h.s0.kp hide_kp).kp kn,(h.s1.kp hide_kp).kp kn,na,nb,fun H' df dk kf kk ga fk hdf hdk k2=>⟨rfl,?_⟩⟩
 exact kq H' g df dk kf kk ga fk (kn.free hdf (by simp)) (kn.free hdk (by simp)) (made_kp hg hdg k2)
theorem fG_lnw {a b c d e f g:V}:(fs_G a b c d e f g).lookup ("least_not_withstood" : Str)=none:=rfl
theorem fG_reply {a b c d e f g:V}:(fs_G a b c d e f g).lookup ("reply" : Str)=none:=rfl
theorem kp_dd {H H1 H2:Hp} {xs:List Addr} (k1:Kp [] H H1) (k2:Kp xs H1 H2) (h:∀ x∈xs,H x=none) : Kp [] H H2:=fun b o e _=>k2 b o (k1 b o e (by simp)) fun m=>by rw [h b m] at e;cases e
def sp_B_told (K:Frag) : Sp:=fun vs H Q _=>∃ (tb:Addr) (s:Rc82.Abs) (M:List Addr),vs=[.ref tb]∧TbAt K H tb s M∧s.a.n≤4∧s.b.n≤4∧DPost K H tb M s .told Q
theorem ok_B_told (T:Txt P w K mg) : FM P w K mg base 15 "Table" "told" ["self"] (sp_B_told K):=by
 refine T.x_B_told.F.ok sc_B_told (fun _ _ _ _ h=>ex3 h fun _ _ _ e=>e.1▸rfl) fun _ _ _ s H vs Q E hr zh=>ex3 zh fun tb s M yh=>an5 yh fun vz hT na nb kq=>?_
 clear zh yh;subst vz
 have hT':=hT
 refine ex8 hT' fun dx lst lsn p0 p1 f0 f1 sl y=>?_
 obtain ⟨eM,h⟩:=y
 refine ⟨_,(pss_cons (ps_set (i:=1) sc_B_told.nd rfl (Or.inl rfl) (pe_meth (pe_meth0 (pv 0) T.c_B.cl T.x_B_game.m (ok_B_game T) (hr.mono (by decide)) T.x_B_game.b .nil pass0) T.c_G.cl T.x_G_least_not_withstood.m (ok_G_least_not_withstood T) (hr.mono (by decide)) T.x_G_least_not_withstood.b .nil pass0 (pa_cons (pe_gint rfl T.g_MOST_ROUNDS) pa_nil)))
   (pss_one (ps_ret (pe_lst (pa_cons (pe_ifExp (pt_le (pv 1) (pe_gint rfl T.g_MOST_ROUNDS) (nomark _)) (pv 1) (pe_gint rfl T.g_MISSING)) pa_nil))))),?_⟩
 walk_at "rd"
 refine ⟨_,_,h.hb,fB_game,tb,s,M,rfl,hT,na,nb,fun H1 g df dk kf kk ga fk hdf hdk k1=>?_⟩
 obtain ⟨dg,pl,pr,ll,lf,hg,_⟩:=ga.obj
 refine ⟨g,rfl,_,_,hg,fG_lnw,g,df,dk,s.a,s.b,kf,kk,rfl,ga,fk,fun r r1 lo hi H2 kf2 kk2 ga2 k2 m2=>⟨_,rfl,?_⟩⟩
 have k3:Kp [] H H2:=kp_dd k1 k2 fun x hx=>by
  simp only [List.mem_cons,List.not_mem_nil,or_false] at hx
  rcases hx with rfl | rfl
  ·exact hdf
  ·exact hdk
 have ht:=told_is s.a s.b
 by_cases r4:(r:Int)≤4
 ·rw [if_pos r4]
  have hd:Rc82.does s .told=(s,{ value:=(r:Nat) }):=by
   have:Rc82.told s.a s.b=some r:=by
    have w0:wst s.a s.b r 0=false:=by
     rcases hi with ⟨_,e⟩ | e
     ·exact e
     ·omega
    have r14:r=1∨r=2∨r=3∨r=4:=by omega
    rw [ht]
    rcases r14 with rfl | rfl | rfl | rfl
    ·rw [if_pos w0]
    ·rw [if_neg (by rw [lo 1 (by omega) (by omega)];simp),if_pos w0]
    ·rw [if_neg (by rw [lo 1 (by omega) (by omega)];simp),if_neg (by rw [lo 2 (by omega) (by omega)];simp),if_pos w0]
    ·rw [if_neg (by rw [lo 1 (by omega) (by omega)];simp),if_neg (by rw [lo 2 (by omega) (by omega)];simp),if_neg (by rw [lo 3 (by omega) (by omega)];simp),if_pos w0]
   unfold Rc82.does;simp only [this]
  exact ⟨by decide,fun q hq=>kq.same hT hd (k3.new hq) (k3.free hq (by simp)) upd_same⟩
 ·rw [if_neg r4]
  have hd:Rc82.does s .told=(s,{ value:=-2 }):=by
   have:Rc82.told s.a s.b=none:=by
    have r5:r=5:=by
     rcases hi with ⟨a,_⟩ | e
     ·omega
     ·exact e
    subst r5
    rw [ht,if_neg (by rw [lo 1 (by omega) (by omega)];simp),if_neg (by rw [lo 2 (by omega) (by omega)];simp),if_neg (by rw [lo 3 (by omega) (by omega)];simp),if_neg (by rw [lo 4 (by omega) (by omega)];simp)]
   unfold Rc82.does;simp only [this]
  exact ⟨by decide,fun q hq=>kq.same hT hd (k3.new hq) (k3.free hq (by simp)) upd_same⟩
def sp_B_stones (K:Frag) : Sp:=fun vs H Q _=>∃ (tb:Addr) (p:Int) (s:Rc82.Abs) (M:List Addr),vs=[.ref tb,.int p]∧TbAt K H tb s M∧s.a.n≤4∧s.b.n≤4∧DPost K H tb M s (.stones p) Q
theorem ok_B_stones (T:Txt P w K mg) : FM P w K mg base 15 "Table" "stones" ["self","p"] (sp_B_stones K):=by
 refine T.x_B_stones.F.ok sc_B_stones (fun _ _ _ _ h=>ex4 h fun _ _ _ _ e=>e.1▸rfl) fun _ _ _ s H vs Q E hr zh=>ex4 zh fun tb p s M yh=>an5 yh fun vz hT na nb kq=>?_
 clear zh yh;subst vz
 have hT':=hT
 refine ex8 hT' fun dx lst lsn p0 p1 f0 f1 sl y=>?_
 obtain ⟨eM,h⟩:=y
 have hd0:Rc82.does s (.stones p)=if Rc82.upTo p 3=false then (s,Rc82.refused) else (s,{ value:=(Rc82.bit (Rc82.everOf s.a s.b p.toNat) : Nat) }):=rfl
 refine ⟨_,(pss_cons (ps_if (PW.pt (pw_or (pt_lt (pv 1) pe_int (nomark _)) (pw_or1 (pt_gt (pv 1) (pe_gint rfl T.g_MOST_STONES) (nomark _))))) (pss_one (ps_ret (pe_lst (pa_cons (pe_gint rfl T.g_OUTSIDE) pa_nil)))) pss_nil)
   (pss_one (ps_ret (pe_lst (pa_cons (pe_ifExp (pt_val (pe_call (ok_withstood_for_ever T) (hr.mono (by decide)) rfl T.x_withstood_for_ever.g T.x_withstood_for_ever.k T.x_withstood_for_ever.b .nil pass0 (pa_cons (pe_meth0 (pv 0) T.c_B.cl T.x_B_game.m (ok_B_game T) (hr.mono (by decide)) T.x_B_game.b .nil pass0) (pa_cons (pv 1) pa_nil)))) pe_int pe_int) pa_nil))))),?_⟩
 walk_at "rd"
 by_cases c1:p < 0
 ·rw [if_pos c1]
  refine kq.refuse hT ?_
  rw [hd0,if_pos]
  unfold Rc82.upTo
  rw [decide_eq_false (by omega),Bool.false_and]
 rw [if_neg c1]
 by_cases c2:3 < p
 ·rw [if_pos c2]
  refine kq.refuse hT ?_
  rw [hd0,if_pos]
  unfold Rc82.upTo
  rw [decide_eq_false (p:=p≤((3:Nat) : Int)) (by omega),Bool.and_false]
 rw [if_neg c2]
 have hd:Rc82.does s (.stones p)=(s,{ value:=(Rc82.bit (Rc82.everOf s.a s.b p.toNat) : Nat) }):=by
  rw [hd0,if_neg]
  unfold Rc82.upTo
  rw [decide_eq_true (by omega),decide_eq_true (p:=p≤((3:Nat) : Int)) (by omega)];decide
 obtain ⟨n,rfl⟩:=Int.eq_ofNat_of_zero_le (show 0≤p by omega)
 rw [Int.toNat_natCast] at hd
 refine ⟨_,_,h.hb,fB_game,tb,s,M,rfl,hT,na,nb,fun H1 g df dk kf kk ga fk hdf hdk k1=>?_⟩
 refine ⟨g,df,dk,n,s.a,s.b,kf,kk,rfl,by omega,ga,fk,fun H2 k2=>⟨_,rfl,?_⟩⟩
 have k3:Kp [] H H2:=kp_dd k1 k2 fun x hx=>by
  rw [List.mem_singleton.mp hx];exact hdf
 cases hb:Rc82.everOf s.a s.b n with
 | true =>
  rw [hb] at hd
  rw [if_pos rfl]
  exact ⟨by decide,fun q hq=>kq.same hT hd (k3.new hq) (k3.free hq (by simp)) upd_same⟩
 | false =>
  rw [hb] at hd
  rw [if_neg (by decide)]
  exact ⟨by decide,fun q hq=>kq.same hT hd (k3.new hq) (k3.free hq (by simp)) upd_same⟩
def canL (s:Rc82.Abs) (l:List Nat) : Bool:=((List.range l.length).map fun i=>hasP s ((i:Nat) % (2:Int)) ((l.getD i 0:Nat) : Int)).all id
def sp_B_can_lie (K:Frag) : Sp:=fun vs H Q _=>∃ (tb L:Addr) (l:List Nat) (s:Rc82.Abs) (M:List Addr),vs=[.ref tb,.ref L]∧TbAt K H tb s M∧H L=some (nats l)∧l.length≤6∧∀ H',Kp [] H H'→Q (.bl (canL s l)) H'
theorem ok_B_can_lie (T:Txt P w K mg) : FM P w K mg base 3 "Table" "can_lie" ["self","lie"] (sp_B_can_lie K):=by
 refine T.x_B_can_lie.F.ok sc_B_can_lie (fun _ _ _ _ h=>ex5 h fun _ _ _ _ _ e=>e.1▸rfl) fun _ _ _ s H vs Q E hr zh=>ex5 zh fun tb L l s M yh=>an5 yh fun vz hT hL l6 kq=>?_
 clear zh yh;subst vz
 refine ⟨_,(pss_one (ps_ret (pe_callB (cr_all rfl) (by rfl) T.nb_all bt_all (pa_cons (pe_lc rfl sc_B_can_lie.nd (pi_enum rfl T.nb_enumerate (pa_cons (pv 1) pa_nil)) (blkOk_by (own:=[("at",2),("x",3)]) rfl) (fun _ _ _ _ _=>(show PG _ _ (gTup K 2 _) from pg_tup rfl (pgs_cons (pg_name (i:=2) sc_B_can_lie.nd rfl (Or.inl rfl)) (pgs_cons (pg_name (i:=3) sc_B_can_lie.nd rfl (Or.inl rfl)) pgs_nil)))) (fun _ _ _ _ _=>pts_nil) (fun _ _ _ _ _=>(pe_meth (pv 0) T.c_B.cl T.x_B_has_point.m (ok_B_has_point T) (hr.mono (by decide)) T.x_B_has_point.b .nil pass0 (pa_cons (pe_op op_mod (pv 2) (pe_gint rfl T.g_STRUCTURE_COUNT)) (pa_cons (pv 3) pa_nil))))) pa_nil)))),?_⟩
 dsimp only [tSeq,tRet,tCB,tCons,tNil]
 refine tlc_all (H1:=H) (J:=Ite K L) (n:=(l.map fun (z:Nat)=>V.int (z:Int)).length) (fun i=>.bl (hasP s ((i:Nat) % (2:Int)) ((l.getD i 0:Nat) : Int))) ?_ (turns_enum (SqL.of hL)) (by rw [List.length_map,sizeLine_eq];omega) gTup2_mono ?_ fun D H1 hD k1 h1=>?_
 ·intro R q
  walk_at "ev"
  exact ⟨_,SqL.of hL,q⟩
 ·rintro i _ H2 Q2 hi ⟨Tp,y,rfl,hT2,hy⟩ k2 q
  obtain ⟨z,hz,rfl⟩ : ∃ z,l[i]? = some z∧y=.int (z:Int):=by
   rw [List.getElem?_map] at hy
   cases e:l[i]? with
   | none=>rw [e] at hy;cases hy
   | some z=>rw [e] at hy;cases hy;exact ⟨z,rfl,rfl⟩
  have hT3:=hT.kp k2
  have hT3':=hT3
  refine ex8 hT3' fun dx lst lsn p0 p1 f0 f1 sl y=>?_
  obtain ⟨eM,h⟩:=y
  have q0:=q H2 (Kp.refl _)
  rw [List.getD_eq_getElem?_getD,hz] at q0
  refine ⟨Tp,[.int (i:Nat),.int (z:Int)],rfl,SqT.of hT2,rfl,_,_,rfl,_,_,rfl,rfl,rfl,?_⟩
  walk_at "rd"
  refine ⟨_,_,h.hb,fB_has_point,by decide,tb,_,_,s,M,rfl,hT3,q0⟩
 ·refine ⟨D,_,rfl,SqL.of (xs:=((List.range l.length).map fun i=>hasP s ((i:Nat) % (2:Int)) ((l.getD i 0:Nat) : Int)).map V.bl) ?_,kq H1 k1⟩
  rw [h1,List.length_map,List.map_map];rfl
theorem all_pairs (s:Rc82.Abs) : ∀ (m:Nat) (l:List Nat),l.length=2*m→canL s l=(Rc82.pairs l).all fun y=>decide (y.1 < s.a.n) && decide (y.2 < s.b.n)
 | 0,[],_=>rfl
 | 0,_ :: _,h=>by simp at h
 | m+1,[],h=>by simp at h
 | m+1,[_],h=>by simp at h;omega
 | m+1,a :: b :: r,h=>by
  have ih:=all_pairs s m r (by simp at h;omega)
  rw [Rc82.pairs,List.all_cons,←ih]
  unfold canL
  rw [List.all_map,List.all_map,show (a :: b :: r).length=r.length+1+1 from rfl,List.range_succ_eq_map,List.all_cons,List.range_succ_eq_map,List.map_cons,List.all_cons,List.map_map,List.all_map]
  have e1:hasP s (((0:Nat) : Int) % 2) ((((a :: b :: r).getD 0 0:Nat)) : Int)=decide (a < s.a.n):=by
   unfold hasP Rc82.Abs.at_
   simp
  have e2:hasP s (((Nat.succ 0:Nat) : Int) % 2) ((((a :: b :: r).getD (Nat.succ 0) 0:Nat)) : Int)=decide (b < s.b.n):=by
   unfold hasP Rc82.Abs.at_
   simp
  simp only [Function.comp,id]
  rw [e1,e2,Bool.and_assoc]
  congr 2
  refine List.all_congr rfl fun i=>?_
  have:((Nat.succ (Nat.succ i) : Nat) : Int) % 2=(i:Int) % 2:=by omega
  simp only [Function.comp,id]
  rw [this]
  rfl
theorem rep_cond {s:Rc82.Abs} {side x k n:Int} {l:List Nat} (ll:(l.length:Int)=if 1≤n∧n≤6 then n else 0) : (Rc82.isWhich side && (Rc82.below x (s.at_ side).n && (Rc82.upTo n 6 && (n.toNat % 2 == 0 && (l.length == n.toNat && (Rc82.upTo k 3 && (decide (n.toNat / 2+k.toNat≤3) && (Rc82.pairs l).all fun y=>decide (y.1 < s.a.n) && decide (y.2 < s.b.n)))))))) =
  (hasP s side x && ((decide (0≤n) && (decide (n≤6) && decide (n % 2=0))) && ((decide (0≤k) && (decide (k≤3) && decide (n / 2+k≤3))) && canL s l))):=by
 rw [hasP_is,Bool.eq_iff_iff]
 unfold Rc82.upTo
 by_cases c:0≤n∧n≤6∧n % 2=0
 ·have ln:(l.length:Int)=n:=by
   rw [ll]
   split <;> omega
  rw [←all_pairs s (n.toNat / 2) l (by omega)]
  simp only [Bool.and_eq_true,decide_eq_true_eq,beq_iff_eq,and_assoc]
  constructor
  ·rintro ⟨a,b,c1,c2,d,e,f1,f2,g,h⟩
   exact ⟨a,b,c1,c.2.1,c.2.2,f1,by omega,by omega,h⟩
  ·rintro ⟨a,b,c1,c2,d,f1,f2,g,h⟩
   exact ⟨a,b,c1,by omega,by omega,by omega,f1,by omega,by omega,h⟩
 ·simp only [Bool.and_eq_true,decide_eq_true_eq,beq_iff_eq,and_assoc]
  constructor
  ·rintro ⟨a,b,c1,c2,d,e,f1,f2,g,h⟩
   exact absurd ⟨c1,by omega,by omega⟩ c
  ·rintro ⟨a,b,c1,c2,d,f1,f2,g,h⟩
   exact absurd ⟨c1,c2,d⟩ c
def sp_B_reply (K:Frag) : Sp:=fun vs H Q _=>∃ (tb L:Addr) (side x k n:Int) (l:List Nat) (s:Rc82.Abs) (M:List Addr),vs=[.ref tb,.int side,.int x,.int k,.int n,.ref L]∧TbAt K H tb s M∧s.a.n≤4∧s.b.n≤4∧H L=some (nats l)∧((l.length:Int)=if 1≤n∧n≤6 then n else 0)∧DPost K H tb M s (.reply side x k l n) Q
theorem ok_B_reply (T:Txt P w K mg) : FM P w K mg base 15 "Table" "reply" ["self","side","x","k","n","lie"] (sp_B_reply K):=by
 refine T.x_B_reply.F.ok sc_B_reply (fun _ _ _ _ h=>ex9 h fun _ _ _ _ _ _ _ _ _ e=>e.1▸rfl) fun _ _ _ s H vs Q E hr zh=>ex9 zh fun tb L side x k n l s M yh=>an7 yh fun vz hT na nb hL ll kq=>?_
 clear zh yh;subst vz
 have hT':=hT
 refine ex8 hT' fun dx lst lsn p0 p1 f0 f1 sl y=>?_
 obtain ⟨eM,h⟩:=y
 have hd0:Rc82.does s (.reply side x k l n)=if (Rc82.isWhich side && (Rc82.below x (s.at_ side).n && (Rc82.upTo n 6 && (n.toNat % 2 == 0 && (l.length == n.toNat && (Rc82.upTo k 3 && (decide (n.toNat / 2+k.toNat≤3) && (Rc82.pairs l).all fun y=>decide (y.1 < s.a.n) && decide (y.2 < s.b.n))))))))=false then (s,Rc82.refused)
   else match Rc82.reply s.a s.b side.toNat k.toNat (Rc82.pairs l) x.toNat with
   | some y=>(s,{ value:=(y:Nat) })
   | none=>(s,{ value:=-2 }):=rfl
 refine ⟨_,(pss_cons (ps_if (PW.pt (pw_or (pt_not (pt_val (pe_meth (pv 0) T.c_B.cl T.x_B_has_point.m (ok_B_has_point T) (hr.mono (by decide)) T.x_B_has_point.b .nil pass0 (pa_cons (pv 1) (pa_cons (pv 2) pa_nil))))) (pw_or (pt_not (pt_val (pe_call (ok_is_lie_count T) (hr.mono (by decide)) rfl T.x_is_lie_count.g T.x_is_lie_count.k T.x_is_lie_count.b .nil pass0 (pa_cons (pv 4) pa_nil)))) (pw_or1 (pt_not (pt_val (pe_call (ok_is_round_count T) (hr.mono (by decide)) rfl T.x_is_round_count.g T.x_is_round_count.k T.x_is_round_count.b .nil pass0 (pa_cons (pv 3) (pa_cons (pe_op op_fdiv (pv 4) pe_int) pa_nil))))))))) (pss_one (ps_ret (pe_lst (pa_cons (pe_gint rfl T.g_OUTSIDE) pa_nil)))) pss_nil)
   (pss_cons (ps_if (pt_not (pt_val (pe_meth (pv 0) T.c_B.cl T.x_B_can_lie.m (ok_B_can_lie T) (hr.mono (by decide)) T.x_B_can_lie.b .nil pass0 (pa_cons (pv 5) pa_nil)))) (pss_one (ps_ret (pe_lst (pa_cons (pe_gint rfl T.g_OUTSIDE) pa_nil)))) pss_nil)
   (pss_cons (ps_set (i:=6) sc_B_reply.nd rfl (Or.inl rfl) (pe_meth (pe_meth0 (pv 0) T.c_B.cl T.x_B_game.m (ok_B_game T) (hr.mono (by decide)) T.x_B_game.b .nil pass0) T.c_G.cl T.x_G_reply.m (ok_G_reply T) (hr.mono (by decide)) T.x_G_reply.b .nil pass0 (pa_cons (pv 1) (pa_cons (pv 2) (pa_cons (pv 3) (pa_cons (pv 5) pa_nil))))))
   (pss_one (ps_ret (pe_lst (pa_cons (pe_ifExp (pt_cmpR op_eq (pv 6) (pe_gint rfl T.g_NONE_FITS) (nomark _)) (pe_gint rfl T.g_MISSING) (pv 6)) pa_nil))))))),?_⟩
 walk_at "rd"
 rw [rep_cond ll] at hd0
 refine ⟨_,_,h.hb,fB_has_point,tb,side,x,s,M,rfl,hT,_,rfl,?_⟩
 by_cases c1:hasP s side x=false
 ·rw [if_pos c1]
  exact kq.refuse hT (by rw [hd0,if_pos];rw [c1,Bool.false_and])
 rw [if_neg c1]
 rw [Bool.not_eq_false] at c1
 rw [c1,Bool.true_and] at hd0
 refine ⟨n,rfl,_,rfl,?_⟩
 by_cases c2:(decide (0≤n) && (decide (n≤6) && decide (n % 2=0)))=false
 ·rw [if_pos c2]
  exact kq.refuse hT (by rw [hd0,if_pos];rw [c2,Bool.false_and])
 rw [if_neg c2]
 rw [Bool.not_eq_false] at c2
 rw [c2,Bool.true_and] at hd0
 simp only [Bool.and_eq_true,decide_eq_true_eq] at c2
 refine ⟨?_,k,n / 2,rfl,_,rfl,?_⟩
 ·exact ⟨by decide,by decide⟩
 by_cases c3:(decide (0≤k) && (decide (k≤3) && decide (n / 2+k≤3)))=false
 ·rw [if_pos c3]
  exact kq.refuse hT (by rw [hd0,if_pos];rw [c3,Bool.false_and])
 rw [if_neg c3]
 rw [Bool.not_eq_false] at c3
 rw [c3,Bool.true_and] at hd0
 simp only [Bool.and_eq_true,decide_eq_true_eq] at c3
 have ln:(l.length:Int)=n:=by
  rw [ll]
  split <;> omega
 refine ⟨_,_,h.hb,fB_can_lie,tb,L,l,s,M,rfl,hT,hL,by omega,fun H1 k1=>⟨_,rfl,?_⟩⟩
 by_cases c4:canL s l=false
 ·rw [if_pos c4]
  rw [if_pos c4] at hd0
  exact ⟨by decide,fun q hq=>kq.same hT hd0 (k1.new hq) (k1.free hq (by simp)) upd_same⟩
 rw [if_neg c4]
 rw [if_neg c4] at hd0
 rw [Bool.not_eq_false] at c4
 have hT1:=hT.kp k1
 have h1:=h.kp k1
 refine ⟨_,_,h1.hb,fB_game,tb,s,M,rfl,hT1,na,nb,fun H2 g df dk kf kk ga fk hdf hdk k2=>?_⟩
 obtain ⟨dg,pl,pr,lL,lf,hg,_⟩:=ga.obj
 obtain ⟨x',rfl⟩:=Int.eq_ofNat_of_zero_le (show 0≤x by unfold hasP at c1;simp only [Bool.and_eq_true,decide_eq_true_eq] at c1;exact c1.2.1)
 obtain ⟨k',rfl⟩:=Int.eq_ofNat_of_zero_le c3.1
 have inr:∀ y∈Rc82.pairs l,InR s.a s.b y:=fun y hy=>by
  rw [all_pairs s (n.toNat / 2) l (by omega),List.all_eq_true] at c4
  have:=c4 y hy
  simp only [Bool.and_eq_true,decide_eq_true_eq] at this
  exact this
 have sx:side=0∧x' < s.a.n∨side=1∧x' < s.b.n:=by
  unfold hasP Rc82.Abs.at_ at c1
  simp only [Bool.and_eq_true,decide_eq_true_eq] at c1
  have:side=0∨side=1:=by omega
  rcases this with rfl | rfl
  ·exact .inl ⟨rfl,by have:=c1.2.2;simp at this;omega⟩
  ·exact .inr ⟨rfl,by have:=c1.2.2;simp at this;omega⟩
 refine ⟨g,rfl,_,_,hg,fG_reply,g,df,dk,L,side,x',k',n.toNat / 2,l,s.a,s.b,kf,kk,rfl,k2 _ _ (k1 _ _ hL (by simp)) (by simp),by omega,by omega,inr,sx,by omega,ga,fk,fun H3 kf3 kk3 ga3 k3 m3=>?_⟩
 have k4:Kp [] H H3:=kp_dd (k1.trans k2) k3 fun y hy=>by
  simp only [List.mem_cons,List.not_mem_nil,or_false] at hy
  rcases hy with rfl | rfl
  ·exact k1.free hdf (by simp)
  ·exact k1.free hdk (by simp)
 rw [Int.toNat_natCast,Int.toNat_natCast,reply_is inr (by rcases sx with e | e <;> omega) (by rcases sx with ⟨rfl,e⟩ | ⟨rfl,e⟩ <;> simpa using e)] at hd0
 generalize ((laid s.a s.b 0 (Rc82.pairs l)).bind fun s_1=>place s.a s.b k' s_1 (lineOf s.a s.b side.toNat x'))=o at hd0 ⊢
 cases o with
 | some y =>
  refine ⟨rfl,?_⟩
  rw [if_neg (by unfold placeV;intro z;injection z with z;omega)]
  exact ⟨by decide,fun q hq=>kq.same hT hd0 (k4.new hq) (k4.free hq (by simp)) upd_same⟩
 | none =>
  refine ⟨rfl,?_⟩
  rw [if_pos (show placeV none=V.int (-1) from rfl)]
  exact ⟨by decide,fun q hq=>kq.same hT hd0 (k4.new hq) (k4.free hq (by simp)) upd_same⟩
def sp_has_row (_:Frag) : Sp:=fun vs H Q _=>∃ c:Int,vs=[.int c]∧Q (.bl (decide (c=4) || decide (c=9))) H
theorem ok_has_row (T:Txt P w K mg) : FF P w K mg base 1 "has_row" ["call"] (sp_has_row K):=by
 refine T.x_has_row.F.ok sc_has_row (fun _ _ _ _ h=>ex1 h fun _ e=>e.1▸rfl) fun _ _ _ s H vs Q E hr zh=>ex1 zh fun c yh=>an2 yh fun vz kq=>?_
 clear zh yh;subst vz
 refine ⟨_,(pss_one (ps_ret (pe_or (pe_cmpR op_eq (pv 0) (pe_gint rfl T.g_FORM) (nomark _)) (pe_one (pe_cmpR op_eq (pv 0) (pe_gint rfl T.g_REPLY) (nomark _)))))),?_⟩
 walk_at "rd"
 by_cases c4:c=4
 ·simp only [c4,decide_true,Bool.true_or,if_true] at kq ⊢
  exact kq
 ·simp only [c4,decide_false,Bool.false_or,if_false] at kq ⊢
  exact kq
inductive Asks (s:Rc82.Abs) : Int→List Int→List Nat→Rc82.Call→Prop
 | begin {t:List Nat}:Asks s 0 [] t .init
 | points {t:List Nat} (g n:Int) : Asks s 1 [g,n] t (.points g n)
 | arc {t:List Nat} (g x y on:Int) : Asks s 2 [g,x,y,on] t (.arc g x y on)
 | mark {t:List Nat} (g m x on:Int) : Asks s 3 [g,m,x,on] t (.mark g m x on)
 | form {t:List Nat} (k n:Int) : (∀ c∈t,c < 256)→(1≤n→n≤256→(t.length:Int)=n)→Asks s 4 [k,n] t (.form k t n)
 | text {t:List Nat} (k m:Int) : Asks s 5 [k,m] t (.text k m)
 | rank {t:List Nat} (k:Int) : Asks s 6 [k] t (.rank k)
 | holds {t:List Nat} (g k:Int) : Asks s 7 [g,k] t (.holds g k)
 | told {t:List Nat}:s.a.n≤4→s.b.n≤4→Asks s 8 [] t .told
 | reply {t:List Nat} (side x k n:Int) : s.a.n≤4→s.b.n≤4→((t.length:Int)=if 1≤n∧n≤6 then n else 0)→Asks s 9 [side,x,k,n] t (.reply side x k t n)
 | stones {t:List Nat} (p:Int) : s.a.n≤4→s.b.n≤4→Asks s 10 [p] t (.stones p)
theorem fB_points {a b:V}:(fs_B a b).lookup ("points" : Str)=none:=rfl
theorem fB_arc {a b:V}:(fs_B a b).lookup ("arc" : Str)=none:=rfl
theorem fB_mark {a b:V}:(fs_B a b).lookup ("mark" : Str)=none:=rfl
theorem fB_form {a b:V}:(fs_B a b).lookup ("form" : Str)=none:=rfl
theorem fB_text {a b:V}:(fs_B a b).lookup ("text" : Str)=none:=rfl
theorem fB_rank {a b:V}:(fs_B a b).lookup ("rank" : Str)=none:=rfl
theorem fB_holds {a b:V}:(fs_B a b).lookup ("holds" : Str)=none:=rfl
theorem fB_told {a b:V}:(fs_B a b).lookup ("told" : Str)=none:=rfl
theorem fB_reply {a b:V}:(fs_B a b).lookup ("reply" : Str)=none:=rfl
theorem fB_stones {a b:V}:(fs_B a b).lookup ("stones" : Str)=none:=rfl
def sp_ask (K:Frag) : Sp:=fun vs H Q _=>∃ (tb lw lr:Addr) (p:Int) (a:List Int) (t:List Nat) (s:Rc82.Abs) (M:List Addr) (q:Rc82.Call),vs=[.ref tb,.int p,.ref lw,.ref lr]∧TbAt K H tb s M∧H lw=some (.lst (a.map V.int))∧H lr=some (nats t)∧lr∉M∧Asks s p a t q∧DPost K H tb M s q Q
theorem ok_ask (T:Txt P w K mg) : FF P w K mg base 16 "ask" ["table","call","wholes","row"] (sp_ask K):=by
 refine T.x_ask.F.ok sc_ask (fun _ _ _ _ h=>ex9 h fun _ _ _ _ _ _ _ _ _ e=>e.1▸rfl) fun _ _ _ s H vs Q E hr zh=>ex9 zh fun tb lw lr p a t s M q yh=>an7 yh fun vz hT hlw hlr lrM hA kq=>?_
 clear zh yh;subst vz
 have hT':=hT
 refine ex8 hT' fun dx lst lsn p0 p1 f0 f1 sl y=>?_
 obtain ⟨eM,h⟩:=y
 refine ⟨_,(pss_cons (ps_if (pt_eq (pv 1) (pe_gint rfl T.g_BEGIN) (nomark _)) (pss_one (ps_ret (pe_meth0 (pv 0) T.c_B.cl T.x_B_begin.m (ok_B_begin T) (hr.mono (by decide)) T.x_B_begin.b .nil pass0))) pss_nil)
   (pss_cons (ps_if (pt_eq (pv 1) (pe_gint rfl T.g_POINTS) (nomark _)) (pss_one (ps_ret (pe_meth (pv 0) T.c_B.cl T.x_B_points.m (ok_B_points T) (hr.mono (by decide)) T.x_B_points.b .nil pass0 (pa_cons (pe_ix ix_list (pv 2) pe_int (fun _ _=>rfl)) (pa_cons (pe_ix ix_list (pv 2) pe_int (fun _ _=>rfl)) pa_nil))))) pss_nil)
   (pss_cons (ps_if (pt_eq (pv 1) (pe_gint rfl T.g_ARC) (nomark _)) (pss_one (ps_ret (pe_meth (pv 0) T.c_B.cl T.x_B_arc.m (ok_B_arc T) (hr.mono (by decide)) T.x_B_arc.b .nil pass0 (pa_cons (pe_ix ix_list (pv 2) pe_int (fun _ _=>rfl)) (pa_cons (pe_ix ix_list (pv 2) pe_int (fun _ _=>rfl)) (pa_cons (pe_ix ix_list (pv 2) pe_int (fun _ _=>rfl)) (pa_cons (pe_ix ix_list (pv 2) pe_int (fun _ _=>rfl)) pa_nil))))))) pss_nil)
   (pss_cons (ps_if (pt_eq (pv 1) (pe_gint rfl T.g_MARK) (nomark _)) (pss_one (ps_ret (pe_meth (pv 0) T.c_B.cl T.x_B_mark.m (ok_B_mark T) (hr.mono (by decide)) T.x_B_mark.b .nil pass0 (pa_cons (pe_ix ix_list (pv 2) pe_int (fun _ _=>rfl)) (pa_cons (pe_ix ix_list (pv 2) pe_int (fun _ _=>rfl)) (pa_cons (pe_ix ix_list (pv 2) pe_int (fun _ _=>rfl)) (pa_cons (pe_ix ix_list (pv 2) pe_int (fun _ _=>rfl)) pa_nil))))))) pss_nil)
   (pss_cons (ps_if (pt_eq (pv 1) (pe_gint rfl T.g_FORM) (nomark _)) (pss_one (ps_ret (pe_meth (pv 0) T.c_B.cl T.x_B_form.m (ok_B_form T) (hr.mono (by decide)) T.x_B_form.b .nil pass0 (pa_cons (pe_ix ix_list (pv 2) pe_int (fun _ _=>rfl)) (pa_cons (pe_ix ix_list (pv 2) pe_int (fun _ _=>rfl)) (pa_cons (pv 3) pa_nil)))))) pss_nil)
   (pss_cons (ps_if (pt_eq (pv 1) (pe_gint rfl T.g_TEXT) (nomark _)) (pss_one (ps_ret (pe_meth (pv 0) T.c_B.cl T.x_B_text.m (ok_B_text T) (hr.mono (by decide)) T.x_B_text.b .nil pass0 (pa_cons (pe_ix ix_list (pv 2) pe_int (fun _ _=>rfl)) (pa_cons (pe_ix ix_list (pv 2) pe_int (fun _ _=>rfl)) pa_nil))))) pss_nil)
   (pss_cons (ps_if (pt_eq (pv 1) (pe_gint rfl T.g_RANK) (nomark _)) (pss_one (ps_ret (pe_meth (pv 0) T.c_B.cl T.x_B_rank.m (ok_B_rank T) (hr.mono (by decide)) T.x_B_rank.b .nil pass0 (pa_cons (pe_ix ix_list (pv 2) pe_int (fun _ _=>rfl)) pa_nil)))) pss_nil)
   (pss_cons (ps_if (pt_eq (pv 1) (pe_gint rfl T.g_HOLDS) (nomark _)) (pss_one (ps_ret (pe_meth (pv 0) T.c_B.cl T.x_B_holds.m (ok_B_holds T) (hr.mono (by decide)) T.x_B_holds.b .nil pass0 (pa_cons (pe_ix ix_list (pv 2) pe_int (fun _ _=>rfl)) (pa_cons (pe_ix ix_list (pv 2) pe_int (fun _ _=>rfl)) pa_nil))))) pss_nil)
   (pss_cons (ps_if (pt_eq (pv 1) (pe_gint rfl T.g_TOLD) (nomark _)) (pss_one (ps_ret (pe_meth0 (pv 0) T.c_B.cl T.x_B_told.m (ok_B_told T) (hr.mono (by decide)) T.x_B_told.b .nil pass0))) pss_nil)
   (pss_cons (ps_if (pt_eq (pv 1) (pe_gint rfl T.g_REPLY) (nomark _)) (pss_one (ps_ret (pe_meth (pv 0) T.c_B.cl T.x_B_reply.m (ok_B_reply T) (hr.mono (by decide)) T.x_B_reply.b .nil pass0 (pa_cons (pe_ix ix_list (pv 2) pe_int (fun _ _=>rfl)) (pa_cons (pe_ix ix_list (pv 2) pe_int (fun _ _=>rfl)) (pa_cons (pe_ix ix_list (pv 2) pe_int (fun _ _=>rfl)) (pa_cons (pe_ix ix_list (pv 2) pe_int (fun _ _=>rfl)) (pa_cons (pv 3) pa_nil)))))))) pss_nil)
   (pss_one (ps_ret (pe_meth (pv 0) T.c_B.cl T.x_B_stones.m (ok_B_stones T) (hr.mono (by decide)) T.x_B_stones.b .nil pass0 (pa_cons (pe_ix ix_list (pv 2) pe_int (fun _ _=>rfl)) pa_nil)))))))))))))),?_⟩
 walk_at "rd"
 cases hA with
 | begin =>
  rw [if_pos rfl]
  exact ⟨_,_,h.hb,fB_begin,tb,dx,_,_,rfl,h.hb,fun H' M' l tA fr k hl e=>kq H' M' l tA (fun x hx=>.inr (fr x hx)) (k.mono (by simp)) hl e⟩
 | points g n =>
  rw [if_neg (by decide),if_pos rfl]
  exact ⟨_,_,h.hb,fB_points,_,SqL.of hlw,_,rfl,_,SqL.of hlw,_,rfl,tb,g,n,s,M,rfl,hT,kq⟩
 | arc g x y on =>
  rw [if_neg (by decide),if_neg (by decide),if_pos rfl]
  exact ⟨_,_,h.hb,fB_arc,_,SqL.of hlw,_,rfl,_,SqL.of hlw,_,rfl,_,SqL.of hlw,_,rfl,_,SqL.of hlw,_,rfl,tb,g,x,y,on,s,M,rfl,hT,kq⟩
 | mark g m x on =>
  rw [if_neg (by decide),if_neg (by decide),if_neg (by decide),if_pos rfl]
  exact ⟨_,_,h.hb,fB_mark,_,SqL.of hlw,_,rfl,_,SqL.of hlw,_,rfl,_,SqL.of hlw,_,rfl,_,SqL.of hlw,_,rfl,tb,g,m,x,on,s,M,rfl,hT,kq⟩
 | form k n b8 bn =>
  rw [if_neg (by decide),if_neg (by decide),if_neg (by decide),if_neg (by decide),if_pos rfl]
  exact ⟨_,_,h.hb,fB_form,_,SqL.of hlw,_,rfl,_,SqL.of hlw,_,rfl,tb,lr,k,n,t,s,M,rfl,hT,lrM,hlr,b8,bn,kq⟩
 | text k m =>
  rw [if_neg (by decide),if_neg (by decide),if_neg (by decide),if_neg (by decide),if_neg (by decide),if_pos rfl]
  exact ⟨_,_,h.hb,fB_text,_,SqL.of hlw,_,rfl,_,SqL.of hlw,_,rfl,tb,k,m,s,M,rfl,hT,kq⟩
 | rank k =>
  rw [if_neg (by decide),if_neg (by decide),if_neg (by decide),if_neg (by decide),if_neg (by decide),if_neg (by decide),if_pos rfl]
  exact ⟨_,_,h.hb,fB_rank,_,SqL.of hlw,_,rfl,tb,k,s,M,rfl,hT,kq⟩
 | holds g k =>
  rw [if_neg (by decide),if_neg (by decide),if_neg (by decide),if_neg (by decide),if_neg (by decide),if_neg (by decide),if_neg (by decide),if_pos rfl]
  exact ⟨_,_,h.hb,fB_holds,_,SqL.of hlw,_,rfl,_,SqL.of hlw,_,rfl,tb,g,k,s,M,rfl,hT,kq⟩
 | told na nb =>
  rw [if_neg (by decide),if_neg (by decide),if_neg (by decide),if_neg (by decide),if_neg (by decide),if_neg (by decide),if_neg (by decide),if_neg (by decide),if_pos rfl]
  exact ⟨_,_,h.hb,fB_told,tb,s,M,rfl,hT,na,nb,kq⟩
 | reply side x k n na nb ll =>
  rw [if_neg (by decide),if_neg (by decide),if_neg (by decide),if_neg (by decide),if_neg (by decide),if_neg (by decide),if_neg (by decide),if_neg (by decide),if_neg (by decide),if_pos rfl]
  exact ⟨_,_,h.hb,fB_reply,_,SqL.of hlw,_,rfl,_,SqL.of hlw,_,rfl,_,SqL.of hlw,_,rfl,_,SqL.of hlw,_,rfl,tb,lr,side,x,k,n,t,s,M,rfl,hT,na,nb,hlr,ll,kq⟩
 | stones p na nb =>
  rw [if_neg (by decide),if_neg (by decide),if_neg (by decide),if_neg (by decide),if_neg (by decide),if_neg (by decide),if_neg (by decide),if_neg (by decide),if_neg (by decide),if_neg (by decide)]
  exact ⟨_,_,h.hb,fB_stones,_,SqL.of hlw,_,rfl,tb,p,s,M,rfl,hT,na,nb,kq⟩
theorem len0 {a:List Int} (h:a.length=0) : a=[]:=List.eq_nil_of_length_eq_zero h
theorem len1 {a:List Int} (h:a.length=1) : ∃ x,a=[x]:=match a,h with | [x],_=>⟨x,rfl⟩
theorem len2 {a:List Int} (h:a.length=2) : ∃ x y,a=[x,y]:=match a,h with | [x,y],_=>⟨x,y,rfl⟩
theorem len4 {a:List Int} (h:a.length=4) : ∃ x y z u,a=[x,y,z,u]:=match a,h with | [x,y,z,u],_=>⟨x,y,z,u,rfl⟩
theorem shape_in {p:Int} {n k:Nat} (h:PyRc82.shape p=some (n,k)) : (p=0∧n=0∧k=0)∨(p=1∧n=2∧k=0)∨(p=2∧n=4∧k=0)∨(p=3∧n=4∧k=0)∨(p=4∧n=2∧k=1)∨(p=5∧n=2∧k=0)∨(p=6∧n=1∧k=0)∨(p=7∧n=2∧k=0)∨(p=8∧n=0∧k=0)∨(p=9∧n=4∧k=1)∨(p=10∧n=1∧k=0):=by
 unfold PyRc82.shape at h
 by_cases h0:p=0
 ·rw [if_pos h0] at h
  cases h
  exact .inl ⟨h0,rfl,rfl⟩
 rw [if_neg h0] at h
 by_cases h1:p=1
 ·rw [if_pos h1] at h
  cases h
  exact .inr <| .inl ⟨h1,rfl,rfl⟩
 rw [if_neg h1] at h
 by_cases h2:p=2
 ·rw [if_pos h2] at h
  cases h
  exact .inr <| .inr <| .inl ⟨h2,rfl,rfl⟩
 rw [if_neg h2] at h
 by_cases h3:p=3
 ·rw [if_pos h3] at h
  cases h
  exact .inr <| .inr <| .inr <| .inl ⟨h3,rfl,rfl⟩
 rw [if_neg h3] at h
 by_cases h4:p=4
 ·rw [if_pos h4] at h
  cases h
  exact .inr <| .inr <| .inr <| .inr <| .inl ⟨h4,rfl,rfl⟩
 rw [if_neg h4] at h
 by_cases h5:p=5
 ·rw [if_pos h5] at h
  cases h
  exact .inr <| .inr <| .inr <| .inr <| .inr <| .inl ⟨h5,rfl,rfl⟩
 rw [if_neg h5] at h
 by_cases h6:p=6
 ·rw [if_pos h6] at h
  cases h
  exact .inr <| .inr <| .inr <| .inr <| .inr <| .inr <| .inl ⟨h6,rfl,rfl⟩
 rw [if_neg h6] at h
 by_cases h7:p=7
 ·rw [if_pos h7] at h
  cases h
  exact .inr <| .inr <| .inr <| .inr <| .inr <| .inr <| .inr <| .inl ⟨h7,rfl,rfl⟩
 rw [if_neg h7] at h
 by_cases h8:p=8
 ·rw [if_pos h8] at h
  cases h
  exact .inr <| .inr <| .inr <| .inr <| .inr <| .inr <| .inr <| .inr <| .inl ⟨h8,rfl,rfl⟩
 rw [if_neg h8] at h
 by_cases h9:p=9
 ·rw [if_pos h9] at h
  cases h
  exact .inr <| .inr <| .inr <| .inr <| .inr <| .inr <| .inr <| .inr <| .inr <| .inl ⟨h9,rfl,rfl⟩
 rw [if_neg h9] at h
 by_cases h10:p=10
 ·rw [if_pos h10] at h
  cases h
  exact .inr <| .inr <| .inr <| .inr <| .inr <| .inr <| .inr <| .inr <| .inr <| .inr <| ⟨h10,rfl,rfl⟩
 rw [if_neg h10] at h
 cases h
theorem counts_in {p:Int} {n k:Nat} (h:PyRc82.shape p=some (n,k)) : valV kv_WHOLE_COUNTS (.inl p)=some (.int (n:Int)):=by
 rcases shape_in h with ⟨rfl,rfl,rfl⟩ | ⟨rfl,rfl,rfl⟩ | ⟨rfl,rfl,rfl⟩ | ⟨rfl,rfl,rfl⟩ | ⟨rfl,rfl,rfl⟩ | ⟨rfl,rfl,rfl⟩ | ⟨rfl,rfl,rfl⟩ | ⟨rfl,rfl,rfl⟩ | ⟨rfl,rfl,rfl⟩ | ⟨rfl,rfl,rfl⟩ | ⟨rfl,rfl,rfl⟩ <;> rfl
theorem small_in {s:Rc82.Abs} {c:List (List Int)} (h:Rc82Neutral.small s c=true) (m : [8,9,10].contains ((c.headD []).headD 0)=true) : s.a.n≤4∧s.b.n≤4:=by
 unfold Rc82Neutral.small at h
 rw [m] at h
 simpa using h
theorem asks_of {s:Rc82.Abs} {p:Int} {a:List Int} (sh:PyRc82.shape p=some (a.length,0)) (sm:Rc82Neutral.small s [p :: a]=true) : ∃ q,Rc82Neutral.callOf [p :: a]=some q∧Asks s p a [] q:=by
 rcases shape_in sh with ⟨rfl,e,k⟩ | ⟨rfl,e,k⟩ | ⟨rfl,e,k⟩ | ⟨rfl,e,k⟩ | ⟨rfl,e,k⟩ | ⟨rfl,e,k⟩ | ⟨rfl,e,k⟩ | ⟨rfl,e,k⟩ | ⟨rfl,e,k⟩ | ⟨rfl,e,k⟩ | ⟨rfl,e,k⟩
 ·cases len0 e
  exact ⟨_,rfl,.begin ⟩
 ·obtain ⟨x,y,rfl⟩:=len2 e
  exact ⟨_,rfl,.points x y⟩
 ·obtain ⟨x,y,z,u,rfl⟩:=len4 e
  exact ⟨_,rfl,.arc x y z u⟩
 ·obtain ⟨x,y,z,u,rfl⟩:=len4 e
  exact ⟨_,rfl,.mark x y z u⟩
 ·cases k
 ·obtain ⟨x,y,rfl⟩:=len2 e
  exact ⟨_,rfl,.text x y⟩
 ·obtain ⟨x,rfl⟩:=len1 e
  exact ⟨_,rfl,.rank x⟩
 ·obtain ⟨x,y,rfl⟩:=len2 e
  exact ⟨_,rfl,.holds x y⟩
 ·cases len0 e
  obtain ⟨na,nb⟩:=small_in sm rfl
  exact ⟨_,rfl,.told  na nb⟩
 ·cases k
 ·obtain ⟨x,rfl⟩:=len1 e
  obtain ⟨na,nb⟩:=small_in sm rfl
  exact ⟨_,rfl,.stones x na nb⟩
theorem asks_row {s:Rc82.Abs} {p:Int} {a b:List Int} (sh:PyRc82.shape p=some (a.length,1)) (hk:Rc82Neutral.asked1 [p :: a,b]=true) (sm:Rc82Neutral.small s [p :: a,b]=true) : ∃ q,Rc82Neutral.callOf [p :: a,b]=some q∧Asks s p a (b.map Int.toNat) q∧∀ z∈b,0≤z:=by
 rcases shape_in sh with ⟨rfl,e,k⟩ | ⟨rfl,e,k⟩ | ⟨rfl,e,k⟩ | ⟨rfl,e,k⟩ | ⟨rfl,e,k⟩ | ⟨rfl,e,k⟩ | ⟨rfl,e,k⟩ | ⟨rfl,e,k⟩ | ⟨rfl,e,k⟩ | ⟨rfl,e,k⟩ | ⟨rfl,e,k⟩
 ·cases k
 ·cases k
 ·cases k
 ·cases k
 ·obtain ⟨x,y,rfl⟩:=len2 e
  have r:Rc82Neutral.row b y 256=true:=by
   unfold Rc82Neutral.asked1 at hk
   rw [Bool.and_eq_true,Bool.and_eq_true] at hk
   exact hk.2.2
  unfold Rc82Neutral.row at r
  rw [Bool.and_eq_true,List.all_eq_true,decide_eq_true_eq] at r
  have rb:∀ z∈b,0≤z∧z≤255:=fun z hz=>by
   have:=r.1 z hz
   simpa only [Bool.and_eq_true,decide_eq_true_eq] using this
  refine ⟨_,rfl,.form x y (fun c hc=>?_) (fun h1 h2=>?_),fun z hz=>(rb z hz).1⟩
  ·obtain ⟨z,hz,rfl⟩:=List.mem_map.mp hc
   have:=rb z hz
   omega
  ·rw [List.length_map,r.2,if_pos ⟨h1,h2⟩]
 ·cases k
 ·cases k
 ·cases k
 ·cases k
 ·obtain ⟨x,y,z,u,rfl⟩:=len4 e
  have r:Rc82Neutral.row b u 6=true:=by
   unfold Rc82Neutral.asked1 at hk
   rw [Bool.and_eq_true,Bool.and_eq_true] at hk
   exact hk.2.2
  unfold Rc82Neutral.row at r
  rw [Bool.and_eq_true,List.all_eq_true,decide_eq_true_eq] at r
  have rb:∀ z∈b,0≤z∧z≤255:=fun z hz=>by
   have:=r.1 z hz
   simpa only [Bool.and_eq_true,decide_eq_true_eq] using this
  obtain ⟨na,nb⟩:=small_in sm rfl
  refine ⟨_,rfl,.reply x y z u na nb ?_,fun z hz=>(rb z hz).1⟩
  rw [List.length_map,r.2]
 ·cases k
theorem nats_of {b:List Int} (h:∀ z∈b,0≤z) : nats (b.map Int.toNat)=.lst (b.map V.int):=by
 unfold nats
 rw [List.map_map]
 congr 1
 refine List.map_congr_left fun z hz=>?_
 show V.int ((z.toNat:Nat) : Int)=V.int z
 rw [Int.toNat_of_nonneg (h z hz)]
theorem ans_len (s:Rc82.Abs) (q:Rc82.Call) : (ans (Rc82.does s q).2).length≤257:=by
 have r:∀ m,Rc82.room_ m≤256:=fun m=>by
  unfold Rc82.room_ Rc82.LONG
  split <;> omega
 cases q <;> simp only [Rc82.does] <;> (repeat' split) <;> simp only [ans,Rc82.refused,List.length_cons,List.length_map,List.length_nil,List.length_take] <;> first | omega | exact Nat.succ_le_succ (Nat.le_trans (Nat.min_le_left _ _) (r _))
theorem step_is {s:Rc82.Abs} {c:List (List Int)} {q:Rc82.Call} (h:Rc82Neutral.callOf c=some q) : Rc82Neutral.step s c=((Rc82.does s q).1,ans (Rc82.does s q).2):=by
 unfold Rc82Neutral.step
 rw [h];rfl
theorem told_cons (x:List Int) (r:List (List Int)) : PyFlat.told (x :: r)=((x.length:Int) :: x) ++ PyFlat.told r:=rfl
theorem cut_mid (xs:List V) {i m:Nat} (h:i+m≤xs.length) : cutV xs (some (i:Int)) (some ((i+m:Nat) : Int))=(xs.drop i).take m:=by
 unfold cutV
 rw [HT.sIx_nat,HT.sIx_nat,Nat.min_eq_left h,Nat.min_eq_left (show i≤xs.length by omega),show i+m - i=m by omega]
def sp_answers_of (K:Frag) : Sp:=fun vs H Q _=>∃ (tb lc:Addr) (ns:List Int) (s:Rc82.Abs) (M:List Addr) (f:Nat) (cs:List (List (List Int))),vs=[.ref tb,.ref lc]∧TbAt K H tb s M∧(∀ H',Kp (tb :: M) H H'→SqL K H' lc (ns.map V.int))∧PyFlat.calls PyRc82.shape f ns=some cs∧Rc82Neutral.goes s cs=true∧cs.length≤400 ∧
 ∀ H' l,H' l=some (.lst ((PyFlat.told (PyFlat.played Rc82Neutral.step s cs)).map V.int))→Q (.ref l) H'
theorem has_row_is {p:Int} {n k:Nat} (h:PyRc82.shape p=some (n,k)) : (decide (p=4) || decide (p=9))=decide (k=1):=by
 rcases shape_in h with ⟨rfl,rfl,rfl⟩ | ⟨rfl,rfl,rfl⟩ | ⟨rfl,rfl,rfl⟩ | ⟨rfl,rfl,rfl⟩ | ⟨rfl,rfl,rfl⟩ | ⟨rfl,rfl,rfl⟩ | ⟨rfl,rfl,rfl⟩ | ⟨rfl,rfl,rfl⟩ | ⟨rfl,rfl,rfl⟩ | ⟨rfl,rfl,rfl⟩ | ⟨rfl,rfl,rfl⟩ <;> rfl
theorem drop_at {l r:List Int} {n:Nat} {x:Int} (h:l.drop n=x :: r) : l[n]? = some x∧l.drop (n+1)=r∧n < l.length:=by
 have a:(l.drop n)[0]? = some x:=by rw [h];rfl
 rw [List.getElem?_drop] at a
 refine ⟨a,?_,(List.getElem?_eq_some_iff.mp a).1⟩
 rw [←List.drop_drop,h];rfl
theorem drop_app {l a r:List Int} {n:Nat} (h:l.drop n=a ++ r) : l.drop (n+a.length)=r:=by
 rw [←List.drop_drop,h,List.drop_left]
theorem cut_at {l a r:List Int} {n:Nat} {lo hi:Int} (h:l.drop n=a ++ r) (e1:lo=(n:Int)) (e2:hi=((n+a.length:Nat) : Int)) (hn:n≤l.length) : cutV (l.map V.int) (some lo) (some hi)=a.map V.int:=by
 have:=congrArg List.length h
 rw [List.length_drop,List.length_append] at this
 rw [e1,e2,cut_mid _ (by rw [List.length_map];omega),←List.map_drop,h,List.map_append,List.take_left' (by rw [List.length_map])]
def Kn (H H':Hp) : Prop:=∀ b o,H b=some o→(∀ a u,o≠.frz a u)→H' b=some o
theorem StrAt.kn {H H':Hp} {p:Addr} {S:Struct} {fp:List Addr} (st:StrAt K H p S fp) (k:Kn H H') : StrAt K H' p S fp:=by
 obtain ⟨dx',la,lm,ra,rm,E,M,hp,hla,hlm,e,hE,hM,R⟩:=st
 exact ⟨dx',la,lm,ra,rm,E,M,k _ _ hp (by simp),k _ _ hla (by simp),k _ _ hlm (by simp),e,hE.keep fun b r h _=>k _ _ h (by simp [bls]),hM.keep fun b r h _=>k _ _ h (by simp [bls]),R⟩
theorem SenAt.kn {H H':Hp} {s:Addr} {f:Rc82.Form} (h:SenAt K H s f) (k:Kn H H') : SenAt K H' s f:=by
 obtain ⟨dx,lc,ls,as,a,b,c,d,e,g⟩:=h
 refine ⟨dx,lc,ls,as,k _ _ a (by simp),k _ _ b (by simp [nats]),k _ _ c (by simp),d,fun i x q h1 h2=>?_,g⟩
 obtain ⟨dy,la,z1,z2⟩:=e i x q h1 h2
 exact ⟨dy,la,k _ _ z1 (by simp),k _ _ z2 (by simp [nats])⟩
theorem TbAt.frz {H:Hp} {tb g:Addr} {s:Rc82.Abs} {M:List Addr} {o:Obj} {u:HO} (h:TbAt K H tb s M) (hg:H g=some (.frz o u)) : TbAt K (hide [g] H) tb s M∧g∉M:=by
 have kn:∀ X:List Addr,Kn (hide X H) (hide X (hide [g] H)):=fun X b z e n=>by
  obtain ⟨m,e⟩:=hide_some e
  have:b≠g:=fun q=>by rw [q,hg] at e;cases e;exact n _ _ rfl
  rw [hide_at m,hide_at (by simpa using this)];exact e
 have k1:Kn H (hide [g] H):=fun b z e n=>by
  have:b≠g:=fun q=>by rw [q,hg] at e;cases e;exact n _ _ rfl
  rw [hide_at (by simpa using this)];exact e
 obtain ⟨dx,lst,lsn,p0,p1,f0,f1,sl,eM,x⟩:=h
 have ng:∀ y∈M,y≠g:=fun y hy q=>by
  rw [eM] at hy
  simp only [List.mem_cons,List.mem_append] at hy
  subst q
  rcases hy with rfl | rfl | hy | hy
  ·rw [x.hs] at hg;cases hg
  ·rw [x.hn] at hg;cases hg
  ·obtain ⟨r,e⟩:=x.s0.row_in hy
   rw [(hide_some e).2] at hg;cases hg
  ·obtain ⟨r,e⟩:=x.s1.row_in hy
   rw [(hide_some e).2] at hg;cases hg
 refine ⟨⟨dx,lst,lsn,p0,p1,f0,f1,sl,eM,⟨fun y hy=>?_,x.ne,k1 _ _ x.hb (by simp),k1 _ _ x.hs (by simp),k1 _ _ x.hn (by simp),x.s0.kn (kn _),x.s1.kn (kn _),x.d0,x.d1,x.n0,x.n1,x.sl8,x.fl8,fun i v o a b=>?_⟩⟩,fun m=>ng g m rfl⟩
 ·rw [hide_at (by simpa using ng y (by rw [eM];exact hy))];exact x.al y hy
 ·rcases x.sen i v o a b with z | ⟨f,c,e1,e2,e3⟩
  ·exact .inl z
  ·exact .inr ⟨f,c,e1,e2,e3.kn (kn _)⟩
theorem hide_none {X:List Addr} {H:Hp} {b:Addr}:(hide X H b=none)=(b∈X∨H b=none):=by
 unfold hide
 split <;> simp [*]
theorem ty_list {H:Hp} {a:Addr} {xs:List V} (h:H a=some (.lst xs)) : tyV K "list" (.ref a) H:=.inl ⟨rfl,xs,SqL.of h⟩
theorem TbAt.al {H:Hp} {tb:Addr} {s:Rc82.Abs} {M:List Addr} (h:TbAt K H tb s M) : (∀ x∈M,H x≠none)∧H tb≠none:=by
 obtain ⟨dx,lst,lsn,p0,p1,f0,f1,sl,eM,x⟩:=h
 exact ⟨fun y hy=>x.al y (by rw [←eM];exact hy),by rw [x.hb];simp⟩
theorem ok_answers_of (T:Txt P w K mg) : FF P w K mg base 17 "answers_of" ["table","calls"] (sp_answers_of K):=by
 refine T.x_answers_of.F.ok sc_answers_of (fun _ _ _ _ h=>ex7 h fun _ _ _ _ _ _ _ e=>e.1▸rfl) fun _ _ _ s H vs Q E hr zh=>ex7 zh fun tb lc ns s M f cs yh=>an7 yh fun vz hT src hcs hgo c400 kq=>?_
 clear zh yh;subst vz
 refine ⟨_,(pss_cons (ps_set (i:=2) sc_answers_of.nd rfl (Or.inl rfl) (pe_lst pa_nil))
   (pss_cons (ps_set (i:=3) sc_answers_of.nd rfl (Or.inl rfl) pe_int)
   (pss_cons (ps_while PassesOwn.never (pt_lt (pv 3) (pe_callB call_len_seq (by rfl) T.nb_len PySem.boot_len (pa_cons (pv 1) pa_nil)) (nomark _)) (pss_cons (ps_set (i:=4) sc_answers_of.nd rfl (Or.inl rfl) (pe_ix ix_list (pv 1) (pv 3) (fun _ _=>rfl)))
   (pss_cons (ps_set (i:=5) sc_answers_of.nd rfl (Or.inl rfl) (pe_op op_add (pe_op op_add (pv 3) pe_int) (pe_gget T.d_WHOLE_COUNTS (pe_gref rfl T.g_WHOLE_COUNTS) (pv 4) (fun _ _=>rfl))))
   (pss_cons (ps_set (i:=6) sc_answers_of.nd rfl (Or.inl rfl) (pe_slice sl_list (pv 1) (po_some (pe_op op_add (pv 3) pe_int)) (po_some (pv 5))))
   (pss_cons (ps_set (i:=7) sc_answers_of.nd rfl (Or.inl rfl) (pe_lst pa_nil))
   (pss_cons (ps_if (pt_val (pe_call (ok_has_row T) (hr.mono (by decide)) rfl T.x_has_row.g T.x_has_row.k T.x_has_row.b .nil pass0 (pa_cons (pv 4) pa_nil))) (pss_cons (ps_set (i:=8) sc_answers_of.nd rfl (Or.inl rfl) (pe_op op_add (pv 5) pe_int))
   (pss_cons (ps_set (i:=5) sc_answers_of.nd rfl (Or.inl rfl) (pe_op op_add (pv 8) (pe_ix ix_list (pv 1) (pe_op op_sub (pv 8) pe_int) (fun _ _=>rfl))))
   (pss_one (ps_set (i:=7) sc_answers_of.nd rfl (Or.inl rfl) (pe_slice sl_list (pv 1) (po_some (pv 8)) (po_some (pv 5))))))) pss_nil)
   (pss_cons (ps_set (i:=9) sc_answers_of.nd rfl (Or.inl rfl) (pe_lock (pe_call (ok_ask T) (hr.mono (by decide)) rfl T.x_ask.g T.x_ask.k T.x_ask.b .nil pass0 (pa_cons (pv 0) (pa_cons (pv 4) (pa_cons (pv 6) (pa_cons (pv 7) pa_nil)))))))
   (pss_cons (ps_expr (pe_bm PySem.F.plainAttrs_list PySem.F.slot_list_append PySem.F.type_list_append mt_append (pv 2) (pa_cons (pe_callB call_len_seq (by rfl) T.nb_len PySem.boot_len (pa_cons (pv 9) pa_nil)) pa_nil)))
   (pss_cons (ps_expr (pe_bm PySem.F.plainAttrs_list PySem.F.slot_list_extend PySem.F.type_list_extend mt_extend (pv 2) (pa_cons (pv 9) pa_nil)))
   (pss_one (ps_set (i:=3) sc_answers_of.nd rfl (Or.inl rfl) (pv 5))))))))))))
   (pss_one (ps_ret (pv 2)))))),?_⟩
 walk_at "rd"
 refine ⟨Nat.zero_le _,fun gv hgv=>?_⟩
 have gM:gv∉M:=fun m=>hT.al.1 gv m hgv
 have gt:gv≠tb:=fun e=>hT.al.2 (by rw [←e];exact hgv)
 have k0:Kp [] H (upd H gv (.lst [])):=(Kp.refl _).new hgv
 have kh0:Kp [] H (hide [gv] (upd H gv (.lst []))):=fun b o e _=>by
  rw [hide_at (by simpa using ne_of_none e hgv)];exact k0 b o e (by simp)
 refine ⟨fun m σ H'=>∃ (n:Nat) (acc:List Int) (s':Rc82.Abs) (M':List Addr) (f':Nat) (cs':List (List (List Int))) (a b c d e g:Option V),m=ns.length - n∧TbAt K (hide [gv] H') tb s' M'∧(∀ x∈M',x∈M∨H x=none)∧Kp (tb :: M) H H'∧gv∉M'∧H' gv=some (.lst (acc.map V.int))∧n≤ns.length∧PyFlat.calls PyRc82.shape f' (ns.drop n)=some cs'∧Rc82Neutral.goes s' cs'=true∧acc.length+258*cs'.length≤258*400 ∧
   PyFlat.told (PyFlat.played Rc82Neutral.step s cs)=acc ++ PyFlat.told (PyFlat.played Rc82Neutral.step s' cs')∧σ=[some (.ref tb),some (.ref lc),some (.ref gv),some (.int (n:Int)),a,b,c,d,e,g],
  ⟨_,0,[],s,M,f,cs,none,none,none,none,none,none,rfl,hT.kp kh0,fun x hx=>.inl hx,k0.of,gM,upd_same,Nat.zero_le _,hcs,hgo,by simp only [List.length_nil];omega,rfl,rfl⟩,?_⟩
 rintro m _ H2 ⟨n,acc,s2,M2,f2,cs2,v4,v5,v6,v7,v8,v9,rfl,hT2,fr2,k2,g2,hg2,nl,hc2,go2,al2,eq2,rfl⟩
 walk_at "rd"
 have sq:=src H2 k2
 have s40:258*400 < sizeLine:=by rw [sizeLine_eq];decide
 refine ⟨_,.inl sq,?_⟩
 rw [List.length_map]
 rcases calls_step hc2 with ⟨e1,e2⟩ | ⟨c,t,cs3,f3,hcall,rfl,hc3⟩
 ·have:=List.drop_eq_nil_iff.mp e1
  rw [if_neg (by omega)]
  refine kq H2 gv ?_
  rw [hg2,eq2,e2]
  simp [PyFlat.played,PyFlat.told]
 have gs:Rc82Neutral.asked1 c=true∧Rc82Neutral.small s2 c=true∧Rc82Neutral.goes (Rc82Neutral.step s2 c).1 cs3=true:=by
  simpa only [Rc82Neutral.goes,Bool.and_eq_true] using go2
 obtain ⟨ga,gm,gg⟩:=gs
 obtain ⟨p,a,⟨sh,hl,rfl⟩ | ⟨b,sh,hl,rfl⟩⟩:=call_in hcall
 ·obtain ⟨hp,hr1,hn⟩:=drop_at hl
  have hp':(ns.map V.int)[((n:Nat) : Int).toNat]? = some (V.int p):=by rw [Int.toNat_natCast,List.getElem?_map,hp];rfl
  rw [if_pos (by omega)]
  refine ⟨_,fun σ' H' h=>h,_,sq,_,at_in (by omega) hp',.inl p,rfl,_,counts_in sh,_,rfl,_,sq,fun lw hlw=>⟨Nat.zero_le _,fun lr hlr=>⟨p,rfl,_,rfl,?_⟩⟩⟩
  rw [has_row_is sh]
  rw [cut_at hr1 (by omega) (by omega) (by omega)] at hlr ⊢
  have kw:Kp [] H2 (upd H2 lw (.lst (a.map V.int))):=(Kp.refl _).new hlw
  have kr:Kp [] H2 (upd (upd H2 lw (.lst (a.map V.int))) lr (.lst [])):=kw.new hlr
  rw [if_neg (by simp)]
  obtain ⟨q,hq,hA⟩:=asks_of sh gm
  have k4:=kr
  have hw4:upd (upd H2 lw (.lst (a.map V.int))) lr (.lst []) lw=some (.lst (a.map V.int)):=upd_old upd_same hlr
  have hr4:upd (upd H2 lw (.lst (a.map V.int))) lr (.lst []) lr=some (nats []):=upd_same
  have rM:lr∉M2:=fun m=>hT2.al.1 lr m (by rw [hide_none];exact .inr (kw.free hlr (by simp)))
  generalize upd (upd H2 lw (.lst (a.map V.int))) lr (.lst [])=H4 at *
  have hg4:=k4 _ _ hg2 (by simp)
  unfold tLockE
  refine ⟨gv,_,hg4,trivial,fun od=>?_⟩
  obtain ⟨Hf,hHf⟩ : ∃ Hf,Hf=upd H4 gv (.frz od (.lst (acc.map V.int))):=⟨_,rfl⟩
  rw [←hHf]
  have kf:∀ {b o},H4 b=some o→b≠gv→Hf b=some o:=fun {b o} e n=>by rw [hHf,upd_ne n];exact e
  have hTf:TbAt K Hf tb s2 M2:=hT2.kp fun b o e _=>by
   obtain ⟨m,e⟩:=hide_some e
   exact kf (k4 b o e (by simp)) (by simpa using m)
  have ngw:lw≠gv:=(ne_of_none hg2 hlw).symm
  have ngr:lr≠gv:=(ne_of_none (kw _ _ hg2 (by simp)) hlr).symm
  walk_at "rd"
  refine ⟨tb,lw,lr,p,a,[],s2,M2,q,rfl,hTf,kf hw4 ngw,kf hr4 ngr,rM,hA,fun H5 M5 l tA fr5 k5 hl5 hv=>?_⟩
  have gn:gv∉tb :: M2:=by simp only [List.mem_cons,not_or];exact ⟨gt,g2⟩
  have hf5:H5 gv=some (.frz od (.lst (acc.map V.int))):=k5 gv _ (by rw [hHf];exact upd_same) gn
  have nlg:l≠gv:=fun e=>by rw [e,hHf,upd_same] at hl5;cases hl5
  obtain ⟨tA',g5⟩:=tA.frz hf5
  refine ⟨hf5,?_⟩
  obtain ⟨n1,hn1⟩ : ∃ n1,n1=n+1+a.length:=⟨_,rfl⟩
  have en1:(n:Int)+1+(a.length:Int)=(n1:Int):=by omega
  have hd1:ns.drop n1=t:=by rw [hn1];exact drop_app hr1
  have n1l:n1≤ns.length:=by
   have:=congrArg List.length hr1
   rw [List.length_drop,List.length_append] at this
   omega
  have xl:=ans_len s2 q
  rw [List.length_cons] at al2
  have st:=step_is (s:=s2) hq
  have k05:Kp (tb :: M) H H5:=fun y o e ny=>k5 y o (kf (k4 y o (k2 y o e ny) (by simp)) (ne_of_none e hgv)) fun m=>by
   rcases List.mem_cons.mp m with m | m
   ·exact ny (by rw [m];simp)
   ·rcases fr2 y m with m | m
    ·exact ny (by simp [m])
    ·rw [m] at e;cases e
  have fr05:∀ x∈M5,x∈M∨H x=none:=fun x hx=>by
   rcases fr5 x hx with m | m
   ·exact fr2 x m
   ·cases e:H x with
    | none=>exact .inr rfl
    | some o =>
     by_cases mm:x∈M
     ·exact .inl mm
     ·by_cases xt:x=tb
      ·rw [xt] at m
       exact absurd m hTf.al.2
      ·rw [kf (k4 x o (k2 x o e (by simp only [List.mem_cons,not_or];exact ⟨xt,mm⟩)) (by simp)) (ne_of_none e hgv)] at m;cases m
  refine ⟨ty_list upd_same,l,rfl,_,.inl (SqL.of (by rw [upd_ne nlg];exact hv)),_,upd_same,by rw [List.length_map];omega,ty_list upd_same,l,rfl,_,upd_same,_,by rw [upd_ne nlg,upd_ne nlg];exact hv,by simp only [List.length_append,List.length_map,List.length_cons,List.length_nil];omega,ns.length - n1,by omega,n1,rfl,acc ++ ((ans (Rc82.does s2 q).2).length:Int) :: ans (Rc82.does s2 q).2,(Rc82.does s2 q).1,M5,?_,fr05,?_,g5,?_,n1l,f3,cs3,?_,?_,?_,?_,?_⟩
  ·rw [hide_in (by simp),hide_in (by simp),hide_in (by simp)];exact tA'
  ·exact ((k05.young hgv).young hgv).young hgv
  ·rw [upd_same,List.length_map,List.map_append,List.map_cons]
   simp only [List.append_assoc,List.singleton_append]
  ·rw [hd1];exact hc3
  ·rw [st] at gg;exact gg
  ·simp only [List.length_append,List.length_cons];omega
  ·rw [eq2,PyFlat.played,told_cons,st]
   simp only [List.append_assoc,List.cons_append]
  ·exact ⟨en1,_,rfl⟩
 ·obtain ⟨hp,hr1,hn⟩:=drop_at hl
  have hp':(ns.map V.int)[((n:Nat) : Int).toNat]? = some (V.int p):=by rw [Int.toNat_natCast,List.getElem?_map,hp];rfl
  rw [if_pos (by omega)]
  refine ⟨_,fun σ' H' h=>h,_,sq,_,at_in (by omega) hp',.inl p,rfl,_,counts_in sh,_,rfl,_,sq,fun lw hlw=>⟨Nat.zero_le _,fun lr hlr=>⟨p,rfl,_,rfl,?_⟩⟩⟩
  rw [has_row_is sh]
  rw [cut_at hr1 (by omega) (by omega) (by omega)] at hlr ⊢
  have kw:Kp [] H2 (upd H2 lw (.lst (a.map V.int))):=(Kp.refl _).new hlw
  have kr:Kp [] H2 (upd (upd H2 lw (.lst (a.map V.int))) lr (.lst [])):=kw.new hlr
  rw [if_pos (by simp)]
  obtain ⟨q,hq,hA,b0⟩:=asks_row sh ga gm
  have sq1:=src _ (k2.trans kr.of)
  obtain ⟨hb,hr2,hn2⟩:=drop_at (drop_app hr1)
  have hb':(ns.map V.int)[((n:Int)+1+(a.length:Int)+1 - 1).toNat]? = some (V.int (b.length:Int)):=by
   rw [show ((n:Int)+1+(a.length:Int)+1 - 1).toNat=n+1+a.length by omega,List.getElem?_map,hb];rfl
  refine ⟨_,sq1,_,at_in (by omega) hb',_,rfl,_,sq1,fun lz hlz=>?_⟩
  rw [cut_at hr2 (by omega) (by omega) (by omega)]
  have k4:Kp [] H2 (upd (upd (upd H2 lw (.lst (a.map V.int))) lr (.lst [])) lz (.lst (b.map V.int))):=kr.new hlz
  have hw4:upd (upd (upd H2 lw (.lst (a.map V.int))) lr (.lst [])) lz (.lst (b.map V.int)) lw=some (.lst (a.map V.int)):=upd_old (upd_old upd_same hlr) hlz
  have hr4:upd (upd (upd H2 lw (.lst (a.map V.int))) lr (.lst [])) lz (.lst (b.map V.int)) lz=some (nats (b.map Int.toNat)):=by rw [upd_same,nats_of b0]
  have rM:lz∉M2:=fun m=>hT2.al.1 lz m (by rw [hide_none];exact .inr (kr.free hlz (by simp)))
  generalize upd (upd (upd H2 lw (.lst (a.map V.int))) lr (.lst [])) lz (.lst (b.map V.int))=H4 at *
  have hg4:=k4 _ _ hg2 (by simp)
  unfold tLockE
  refine ⟨gv,_,hg4,trivial,fun od=>?_⟩
  obtain ⟨Hf,hHf⟩ : ∃ Hf,Hf=upd H4 gv (.frz od (.lst (acc.map V.int))):=⟨_,rfl⟩
  rw [←hHf]
  have kf:∀ {b o},H4 b=some o→b≠gv→Hf b=some o:=fun {b o} e n=>by rw [hHf,upd_ne n];exact e
  have hTf:TbAt K Hf tb s2 M2:=hT2.kp fun b o e _=>by
   obtain ⟨m,e⟩:=hide_some e
   exact kf (k4 b o e (by simp)) (by simpa using m)
  have ngw:lw≠gv:=(ne_of_none hg2 hlw).symm
  have ngr:lz≠gv:=(ne_of_none (kr _ _ hg2 (by simp)) hlz).symm
  walk_at "rd"
  refine ⟨tb,lw,lz,p,a,b.map Int.toNat,s2,M2,q,rfl,hTf,kf hw4 ngw,kf hr4 ngr,rM,hA,fun H5 M5 l tA fr5 k5 hl5 hv=>?_⟩
  have gn:gv∉tb :: M2:=by simp only [List.mem_cons,not_or];exact ⟨gt,g2⟩
  have hf5:H5 gv=some (.frz od (.lst (acc.map V.int))):=k5 gv _ (by rw [hHf];exact upd_same) gn
  have nlg:l≠gv:=fun e=>by rw [e,hHf,upd_same] at hl5;cases hl5
  obtain ⟨tA',g5⟩:=tA.frz hf5
  refine ⟨hf5,?_⟩
  obtain ⟨n1,hn1⟩ : ∃ n1,n1=n+1+a.length+1+b.length:=⟨_,rfl⟩
  have en1:(n:Int)+1+(a.length:Int)+1+(b.length:Int)=(n1:Int):=by omega
  have hd1:ns.drop n1=t:=by rw [hn1];exact drop_app hr2
  have n1l:n1≤ns.length:=by
   have:=congrArg List.length hr2
   rw [List.length_drop,List.length_append] at this
   omega
  have xl:=ans_len s2 q
  rw [List.length_cons] at al2
  have st:=step_is (s:=s2) hq
  have k05:Kp (tb :: M) H H5:=fun y o e ny=>k5 y o (kf (k4 y o (k2 y o e ny) (by simp)) (ne_of_none e hgv)) fun m=>by
   rcases List.mem_cons.mp m with m | m
   ·exact ny (by rw [m];simp)
   ·rcases fr2 y m with m | m
    ·exact ny (by simp [m])
    ·rw [m] at e;cases e
  have fr05:∀ x∈M5,x∈M∨H x=none:=fun x hx=>by
   rcases fr5 x hx with m | m
   ·exact fr2 x m
   ·cases e:H x with
    | none=>exact .inr rfl
    | some o =>
     by_cases mm:x∈M
     ·exact .inl mm
     ·by_cases xt:x=tb
      ·rw [xt] at m
       exact absurd m hTf.al.2
      ·rw [kf (k4 x o (k2 x o e (by simp only [List.mem_cons,not_or];exact ⟨xt,mm⟩)) (by simp)) (ne_of_none e hgv)] at m;cases m
  refine ⟨ty_list upd_same,l,rfl,_,.inl (SqL.of (by rw [upd_ne nlg];exact hv)),_,upd_same,by rw [List.length_map];omega,ty_list upd_same,l,rfl,_,upd_same,_,by rw [upd_ne nlg,upd_ne nlg];exact hv,by simp only [List.length_append,List.length_map,List.length_cons,List.length_nil];omega,ns.length - n1,by omega,n1,rfl,acc ++ ((ans (Rc82.does s2 q).2).length:Int) :: ans (Rc82.does s2 q).2,(Rc82.does s2 q).1,M5,?_,fr05,?_,g5,?_,n1l,f3,cs3,?_,?_,?_,?_,?_⟩
  ·rw [hide_in (by simp),hide_in (by simp),hide_in (by simp)];exact tA'
  ·exact ((k05.young hgv).young hgv).young hgv
  ·rw [upd_same,List.length_map,List.map_append,List.map_cons]
   simp only [List.append_assoc,List.singleton_append]
  ·rw [hd1];exact hc3
  ·rw [st] at gg;exact gg
  ·simp only [List.length_append,List.length_cons];omega
  ·rw [eq2,PyFlat.played,told_cons,st]
   simp only [List.append_assoc,List.cons_append]
  ·exact ⟨en1,_,rfl⟩
def sp_answers (K:Frag) : Sp:=fun vs H Q _=>∃ (lc:Addr) (ns:List Int),vs=[.ref lc]∧SqL K H lc (ns.map V.int)∧PyRc82.answers_asked ns=true∧∀ H' l,H' l=some (.lst ((PyRc82.answers ns).map V.int))→Q (.ref l) H'
theorem ok_answers (T:Txt P w K mg) : FF P w K mg base 18 "answers" ["calls"] (sp_answers K):=by
 refine T.x_answers.F.ok sc_answers (fun _ _ _ _ h=>ex2 h fun _ _ e=>e.1▸rfl) fun _ _ _ s H vs Q E hr zh=>ex2 zh fun lc ns yh=>an4 yh fun vz sq hk kq=>?_
 clear zh yh;subst vz
 obtain ⟨f,cs,hcs,c400,_,hgo,ha⟩:=answers_of hk
 refine ⟨_,(pss_one (ps_ret (pe_call (ok_answers_of T) (hr.mono (by decide)) rfl T.x_answers_of.g T.x_answers_of.k T.x_answers_of.b .nil pass0 (pa_cons (pe_make0 T.c_B.mkr (ok_B_init T) (hr.mono (by decide)) rfl T.c_B.c T.x_B_init.b .nil pass0) (pa_cons (pv 0) pa_nil))))),?_⟩
 walk_at "rd"
 intro tb dt htb hdt hne
 have kn:=kp_new2 (C:=cA K "Table") htb hdt hne
 refine ⟨tb,dt,rfl,upd_same,fun H1 M tA fr k1=>⟨rfl,?_⟩⟩
 have k01:=made_kp htb hdt k1
 have frM:∀ x∈tb :: M,H x=none:=fun x hx=>by
  rcases List.mem_cons.mp hx with rfl | hx
  ·exact htb
  ·exact kn.free (fr x hx) (by simp)
 refine ⟨tb,lc,ns,{},M,f,cs,rfl,tA,fun H' k=>(kp_dd k01 k frM).sqL sq,hcs,hgo,c400,fun H' l h=>kq H' l ?_⟩
 rw [h,ha];rfl
theorem top_ok {fa:Addr} (T:Txt P w K mg) (hmg:mg "answers" = some (.ref fa)) : ∃ fd:FuncData,(∀ (s:Shared) (us:List Value),us.length=(["calls"] : List Str).length→BindsTo s fd ⟨us,[]⟩ ((["calls"] : List Str).zip us))∧∀ base:Heap,K.In base→base.Ns mainGlobals mg→FnOk P w K mg base CX0 18 fa fd ["calls"] (sp_answers K):=by
 have e:=hmg.symm.trans T.x_answers.g
 cases e
 refine ⟨dA K (cA K "answers"),fun s us hu=>?_,fun base _ _=>ok_answers T⟩
 obtain ⟨oc,od,kV,doc,pm,an,cdv,ct,osl,e,lk,hcd⟩:=T.x_answers.F.ex
 rw [e]
 exact match us,hu with | [_],_=>.of_eq rfl
theorem req_ok (K:Frag) (H:Hp) (xs:List V) (a:Codec.denoteAll PySem.Challenge.rw_pointgame_s01_answers.args) (hO:OnlyF H) (hwi:Codec.withinAll PySem.Challenge.rw_pointgame_s01_answers.args a=true) (hask:Codec.app PySem.Challenge.rw_pointgame_s01_answers.args PySem.Challenge.rw_pointgame_s01_answers.asked a=true)
  (hx:DwAll K H xs (Codec.encAll PySem.Challenge.rw_pointgame_s01_answers.args a)) : sp_answers K xs H (fun v H'=>Dw K H' v (PySem.Challenge.rw_pointgame_s01_answers.ret.enc (Codec.app PySem.Challenge.rw_pointgame_s01_answers.args PySem.Challenge.rw_pointgame_s01_answers.f a))) fun _ _ _=>False:=by
 cases hx with
 | cons h1 h2 =>
  cases h2
  cases h1 with
  | lst hs ha =>
   have e:=L2.ints_dw a.1 _ ha
   subst e
   exact ⟨_,a.1,rfl,hs,hask,fun H' p hp=>.lst (L2.SqL.of hp) (L2.dw_ints _)⟩
end
end Pg
namespace PySem.W.Fast
theorem tw10333347394323868642:0=0:=rfl
theorem tw1145296863550319430:0=0:=rfl
theorem tw16521803439369193480:0=0:=rfl
theorem tw18111413222897055080:0=0:=rfl
theorem tw10525067955922916459:0=0:=rfl
theorem tw3762880614037531627:0=0:=rfl
theorem tw9155503807254469293:0=0:=rfl
theorem tw15068262442453453999:0=0:=rfl
theorem tw16260274460539136721:0=0:=rfl
theorem tw8307524191680720849:0=0:=rfl
theorem tw1229697578978528788:0=0:=rfl
theorem tw16328132026541730972:0=0:=rfl
theorem tw4650435948555938780:0=0:=rfl
theorem tw17084855907890873853:0=0:=rfl
theorem tw7672446823375632893:0=0:=rfl
theorem tw14351551005167059709:0=0:=rfl
theorem tw3782553033912627646:0=0:=rfl
theorem tw1827767709809690719:0=0:=rfl
theorem tw17753613785264526273:0=0:=rfl
theorem tw8924481714046506452:0=0:=rfl
theorem tw1007212682229437722:0=0:=rfl
theorem tw13438381540064408568:0=0:=rfl
theorem tw1905000101091632681:0=0:=rfl
theorem tw17605096175984882593:0=0:=rfl
theorem tw10015044469513332921:0=0:=rfl
theorem tw2136527263259775908:0=0:=rfl
theorem tw18260019380448498479:0=0:=rfl
theorem tw15915095856716736159:0=0:=rfl
theorem tw5167796159185005714:0=0:=rfl
theorem tw15620468252749792445:0=0:=rfl
theorem tw8410429353932149626:0=0:=rfl
theorem tw3064895392032312602:0=0:=rfl
theorem tw15391231556116248476:0=0:=rfl
theorem tw1346884359640493841:0=0:=rfl
theorem tw858742869502989949:0=0:=rfl
theorem tw13629095752480566514:0=0:=rfl
theorem tw2581787580413042056:0=0:=rfl
theorem tw13201544854207421274:0=0:=rfl
theorem tw3803002103609627800:0=0:=rfl
theorem tw17264912242605809510:0=0:=rfl
theorem tw10988351208532894979:0=0:=rfl
theorem tw15071844794903236390:0=0:=rfl
theorem tw862443639376157496:0=0:=rfl
theorem tw7259273605434128708:0=0:=rfl
theorem tw172078757440562935:0=0:=rfl
theorem tw4449485769872989307:0=0:=rfl
theorem tw9228128124462158532:0=0:=rfl
theorem tw4072823932553263417:0=0:=rfl
theorem tw4777108323437190954:0=0:=rfl
theorem tw2440459850039630536:0=0:=rfl
theorem tw12460542116562018678:0=0:=rfl
theorem tw9395258881229437435:0=0:=rfl
theorem tw2618185738747650448:0=0:=rfl
theorem tw5008450590444134184:0=0:=rfl
theorem tw5546688624844921577:0=0:=rfl
theorem tw2034071233873898201:0=0:=rfl
theorem tw15297678058256566531:0=0:=rfl
theorem tw2427936499840685275:0=0:=rfl
theorem tw1946663625981331463:0=0:=rfl
theorem tw399965534694556492:0=0:=rfl
theorem tw8968302390450012701:0=0:=rfl
theorem tw18156396820627551301:0=0:=rfl
theorem tw12420568102248171103:0=0:=rfl
theorem tw13637800262929588687:0=0:=rfl
theorem tw11549054343575718256:0=0:=rfl
theorem tw8369837559407713008:0=0:=rfl
theorem tw2820145212448733748:0=0:=rfl
theorem tw6375257358804529790:0=0:=rfl
theorem tw9681471410364461877:0=0:=rfl
theorem tw2007067098645369258:0=0:=rfl
theorem tw16063659232545914400:0=0:=rfl
theorem tw8847020830447564664:0=0:=rfl
theorem tw14398243784717825267:0=0:=rfl
theorem tw16042008195979832707:0=0:=rfl
theorem tw1205978629361555066:0=0:=rfl
theorem tw15038428445392840714:0=0:=rfl
theorem tw8517055379576157763:0=0:=rfl
theorem tw15818850744651815906:0=0:=rfl
theorem tw144143112076512332:0=0:=rfl
theorem tw2961743384846285362:0=0:=rfl
theorem tw15662768896733243450:0=0:=rfl
theorem tw10443278197417889667:0=0:=rfl
theorem tw9599623635861701552:0=0:=rfl
theorem tw2427641669772335397:0=0:=rfl
theorem tw9206906678539742007:0=0:=rfl
theorem tw2872694480301780250:0=0:=rfl
theorem tw640875868323486251:0=0:=rfl
theorem tw17537316054278033536:0=0:=rfl
theorem tw4203152908403603021:0=0:=rfl
theorem tw4152745431571834228:0=0:=rfl
theorem tw11312217479399529412:0=0:=rfl
theorem tw14801000153403866427:0=0:=rfl
theorem tw2951450884454617774:0=0:=rfl
theorem tw16213826570970383896:0=0:=rfl
theorem tw735097946127997389:0=0:=rfl
theorem tw1982775276233268438:0=0:=rfl
theorem tw852368695673584401:0=0:=rfl
theorem tw619598249269757026:0=0:=rfl
theorem tw8105425756569038593:0=0:=rfl
theorem tw5131104912664042776:0=0:=rfl
theorem tw13185696043926391605:0=0:=rfl
theorem tw8972166042867180183:0=0:=rfl
theorem tw413734857223034738:0=0:=rfl
theorem tw11501729771015525158:0=0:=rfl
theorem tw5873808918059765516:0=0:=rfl
theorem tw15525593513369386042:0=0:=rfl
theorem tw9783929492636240942:0=0:=rfl
theorem tw6466806088325314127:0=0:=rfl
theorem tw3321251120764357548:0=0:=rfl
theorem tw10229236622511857834:0=0:=rfl
theorem tw3585316831169842431:0=0:=rfl
theorem tw900901813580937758:0=0:=rfl
theorem tw3534093911648744478:0=0:=rfl
theorem tw12722598239210818634:0=0:=rfl
theorem tw9709213732977430199:0=0:=rfl
theorem tw10534925658693255594:0=0:=rfl
theorem tw8121148111352644212:0=0:=rfl
theorem tw8281542636786191090:0=0:=rfl
theorem tw11210311865126497847:0=0:=rfl
theorem tw7433971488746035866:0=0:=rfl
theorem tw9359664309989538679:0=0:=rfl
theorem tw15802590882652986965:0=0:=rfl
theorem tw15917022311899084312:0=0:=rfl
theorem tw3287104546769217351:0=0:=rfl
theorem tw13373186317221750802:0=0:=rfl
theorem tw15114039028766109382:0=0:=rfl
theorem tw9663512554008389635:0=0:=rfl
theorem tw15287885339030642060:0=0:=rfl
theorem tw10170554517331109632:0=0:=rfl
theorem tw2792789861696128543:0=0:=rfl
theorem tw5258452733970464669:0=0:=rfl
theorem tw3331534842516753640:0=0:=rfl
theorem tw12495483480912473073:0=0:=rfl
theorem tw6056081301219567997:0=0:=rfl
theorem tw14222735889593827259:0=0:=rfl
theorem tw8868844783898700755:0=0:=rfl
theorem tw15343824876201009705:0=0:=rfl
theorem tw9271824714969794648:0=0:=rfl
theorem tw3273969677026791058:0=0:=rfl
theorem tw6170179807861156309:0=0:=rfl
theorem tw18236399088411677234:0=0:=rfl
theorem tw18190049409536809242:0=0:=rfl
theorem tw6466209812049218900:0=0:=rfl
theorem tw6217263381672552867:0=0:=rfl
theorem tw8601322406112820297:0=0:=rfl
theorem tw1334248618687819469:0=0:=rfl
theorem tw2324857941459080786:0=0:=rfl
theorem tw17761126060145375510:0=0:=rfl
theorem tw6350777350018816247:0=0:=rfl
theorem tw5754203168280537772:0=0:=rfl
theorem tw17330910209472444437:0=0:=rfl
theorem tw14514537728002721601:0=0:=rfl
theorem tw17426810870911301318:0=0:=rfl
theorem tw7486667259915987723:0=0:=rfl
theorem tw2961484269086477919:0=0:=rfl
theorem tw4715858071600366021:0=0:=rfl
theorem tw4237642981822221645:0=0:=rfl
theorem tw11923443130321397830:0=0:=rfl
theorem tw7614643895777940282:0=0:=rfl
theorem tw4476487179786903281:0=0:=rfl
theorem tw2719989494284042037:0=0:=rfl
theorem tw8035045290833831053:0=0:=rfl
theorem tw11689110946701324537:0=0:=rfl
theorem tw9428424936608134429:0=0:=rfl
theorem tw15707467757724103209:0=0:=rfl
theorem tw2327881778627862062:0=0:=rfl
theorem tw11157577402445656891:0=0:=rfl
theorem tw13990376762898435353:0=0:=rfl
theorem tw17524575052799850638:0=0:=rfl
theorem tw10335952879297415665:0=0:=rfl
theorem tw17256460263339211272:0=0:=rfl
theorem tw17128903062091169937:0=0:=rfl
theorem tw9867483502201366611:0=0:=rfl
theorem tw13975395052487110167:0=0:=rfl
theorem tw13321349916576051437:0=0:=rfl
theorem tw12233628899033870781:0=0:=rfl
theorem tw6506185032117821754:0=0:=rfl
theorem tw9965498092016899423:0=0:=rfl
theorem tw18446373859858873099:0=0:=rfl
theorem tw14585148160336595605:0=0:=rfl
theorem tw6157434021220959745:0=0:=rfl
theorem tw10545809178818190779:0=0:=rfl
theorem tw7883581509131473827:0=0:=rfl
theorem tw18438243915869445908:0=0:=rfl
theorem tw6413427542629359297:0=0:=rfl
theorem tw3591422424270479062:0=0:=rfl
theorem tw5324545249936676069:0=0:=rfl
theorem tw3945202924426991334:0=0:=rfl
theorem tw6602398399783148313:0=0:=rfl
theorem tw7524602934448978616:0=0:=rfl
theorem tw14575394806156151753:0=0:=rfl
theorem tw6542663989060823554:0=0:=rfl
theorem tw14564472814139641664:0=0:=rfl
theorem tw6198753266917958365:0=0:=rfl
theorem tw1505276402088428668:0=0:=rfl
theorem tw9363204006171337271:0=0:=rfl
theorem tw9760887504859409801:0=0:=rfl
theorem tw13113160296608732066:0=0:=rfl
theorem tw18052818912325787141:0=0:=rfl
theorem tw11671219444489092493:0=0:=rfl
theorem tw11014314090704104949:0=0:=rfl
theorem tw7065329137392128441:0=0:=rfl
theorem tw324633448981924396:0=0:=rfl
theorem tw6204947640556317016:0=0:=rfl
theorem tw1232292707521564848:0=0:=rfl
theorem tw13842421994654352407:0=0:=rfl
theorem tw16511759423237566024:0=0:=rfl
theorem tw5911951518093500843:0=0:=rfl
theorem tw9388907689325059977:0=0:=rfl
theorem tw16623374630004665228:0=0:=rfl
theorem tw10441484801928345507:0=0:=rfl
theorem tw8791621127487682475:0=0:=rfl
theorem tw6651699928806371661:0=0:=rfl
theorem tw13137079624425329245:0=0:=rfl
theorem tw4907166937342388107:0=0:=rfl
theorem tw10420092437603942097:0=0:=rfl
theorem tw6747360057969064922:0=0:=rfl
theorem tw3979010799229391620:0=0:=rfl
theorem tw11095543172188886942:0=0:=rfl
theorem tw16954759891915140560:0=0:=rfl
theorem tw1047314972270424079:0=0:=rfl
theorem tw12410579714658485638:0=0:=rfl
theorem tw15802657357342965838:0=0:=rfl
theorem tw12706036771758167449:0=0:=rfl
theorem tw15041198069967832991:0=0:=rfl
theorem tw1904888851084090173:0=0:=rfl
theorem tw10887422501709564640:0=0:=rfl
theorem tw6514028695895709034:0=0:=rfl
theorem tw373061237365987491:0=0:=rfl
theorem tw14128598367390773596:0=0:=rfl
theorem tw9616753460985613873:0=0:=rfl
theorem tw9258215027210582664:0=0:=rfl
theorem tw3129629648192458498:0=0:=rfl
end PySem.W.Fast
section
set_option Elab.async false
open PySem PySem.W PyProof.Rows
local macro_rules | `(tactic| walk_at "bnd")=>`(tactic| first | exact fun _ _ _ _ _ _=>L2.usS fun _=>L2.us0 rfl | exact fun _ _ _ _ _ _=>L2.usS fun _=>L2.usS fun _=>L2.us0 rfl | exact fun _ _ _ _ _ _=>L2.usS fun _=>L2.usS fun _=>L2.usS fun _=>L2.us0 rfl | exact fun _ _ _ _ _ _=>L2.usS fun _=>L2.usS fun _=>L2.usS fun _=>L2.usS fun _=>L2.us0 rfl | exact fun _ _ _ _ _ _=>L2.usS fun _=>L2.usS fun _=>L2.usS fun _=>L2.usS fun _=>L2.usS fun _=>L2.us0 rfl | exact fun _ _ _ _ _ _=>L2.usS fun _=>L2.usS fun _=>L2.usS fun _=>L2.usS fun _=>L2.usS fun _=>L2.usS fun _=>L2.us0 rfl)
set_option maxRecDepth 100000 in
set_option maxHeartbeats 0 in
theorem PySem.Challenge.cw_pointgame_s01_answers_holds : PySem.Challenge.rw_pointgame_s01_answers.Holds := by
  w_on; k_headS; (case hw => exact ⟨[.list [.int 0]], by decide +kernel, by decide +kernel⟩)
  k_fillS
  refine L2.walk_specK (r := PySem.Challenge.rw_pointgame_s01_answers) (k := 18) (CX := L2.CX0) (ps := ["calls"]) (sp := Pg.sp_answers) (by decide +kernel) rfl rfl ⟨rfl, by decide, by decide⟩ (fun w h Y => PySem.W.kIn_of Y) ?F ?S (fun _ _ _ _ z => z)
  case F =>
    intro w mg fa h Y KX G hmg
    have T : Pg.Txt PySem.Challenge.pw_pointgame_s01_answers w (L2.KOf KX) mg := by
      dsimp only [L2.KOf]
      constructor
      all_goals try first
        | (refine' L2.clf_mk KX G ?a ?b ?c ?d ?e ?f ?g ?h ?i; (case a => k_is); (case b => k_is); (case c => k_is); (case d => k_is); (case e => k_is); (case f => k_is); (case g => k_is); (case h => k_is); (case i => k_is))
        | (refine' L2.noa_mk ?a ?b; (case a => k_is); (case b => k_is))
        | (refine' L2.mtf_mk ?a ?b ?c ?d ?e ?f ?g; (case a => k_is); (case b => k_is); (case c => k_is); (case d => k_is); (case e => k_is); (case f => k_is); (case g => walk_at "bnd"))
        | (refine' L2.fnf_mk KX G ?a ?b ?c ?d ?e; (case a => k_is); (case b => k_is); (case c => k_is); (case d => k_is); (case e => walk_at "bnd"))
        | (refine' L2.gint_mk KX G ?a; (case a => k_is))
        | (refine' PySem.W.mg_none_of KX G ?a; (case a => k_is))
        | (refine' L2.gref_mk KX G ?a; (case a => k_is))
        | (refine' L2.gtup_mk ?a ?b ?c ?d; (case a => k_is); (case b => k_is); (case c => (repeat' (first | exact .nil | refine .cons ⟨_, rfl⟩ ?_ | refine .cons rfl ?_))); (case d => decide))
        | (refine' L2.gdict_mk ?a ?b ?c ?d ?e; (case a => k_is); (case b => k_is); (case c => decide); (case d => (repeat' (first | exact .nil | refine .cons rfl rfl ⟨_, rfl⟩ ?_ | refine .cons rfl rfl rfl ?_))); (case e => decide +kernel))
        | (refine' L2.xtup_mk ?a ?b ?c ?d ?e ?f ?g; (case a => k_is); (case b => k_is); (case c => rfl); (case d => rfl); (case e => k_is); (case f => (repeat' (first | exact .nil | refine .cons ⟨_, rfl⟩ ?_ | refine .cons rfl ?_))); (case g => decide))
      refine' L2.gdref_mk ?a ?b ?c ?d ?e
      (case a => k_is)
      (case b => k_is)
      (case c => decide)
      (case d =>
        intro hx
        unfold Pg.kv_FOLLOWING
        refine .cons rfl rfl (by rw [hx 0 _ _ rfl rfl]; rfl) (.cons rfl rfl (by rw [hx 1 _ _ rfl rfl]; rfl) (.cons rfl rfl (by rw [hx 2 _ _ rfl rfl]; rfl) (.cons rfl rfl (by rw [hx 3 _ _ rfl rfl]; rfl) (.cons rfl rfl (by rw [hx 4 _ _ rfl rfl]; rfl) (.cons rfl rfl (by rw [hx 5 _ _ rfl rfl]; rfl) (.cons rfl rfl (by rw [hx 6 _ _ rfl rfl]; rfl) (.cons rfl rfl (by rw [hx 7 _ _ rfl rfl]; rfl) .nil))))))))
      (case e => exact (by decide : ([Sum.inr "E", Sum.inr "P", Sum.inr "Q", Sum.inr "=", Sum.inr "!", Sum.inr "(", Sum.inr "A", Sum.inr "S"] : List L2.Key).Nodup))
    exact Pg.top_ok T hmg
  case S => exact Pg.req_ok
end
