/- Of what the proof is made: 2 texts, one behind the other. -/
import Derived.Test.YtkdlcomfpffhhaaGreatDoorTo1
import Derived.Test.YtkdlcomfpffhhaaGreatDoorM10
import Derived.Test.YtkdlcomfpffhhaaGreatDoorM6
set_option linter.unusedSimpArgs false
set_option linter.unusedVariables false
namespace Go.Proofs.YtkdlcomfpffhhaaGreatDoor
open Go.RowKit
theorem Ca{L:List UInt8}{p k:Nat}(h:(bf L p k).1<agN L p (k+1)):bf L p (k+1)=(agN L p (k+1),k+1):=by simp only[bf];rw[a0d h]
theorem Fo{L:List UInt8}{p k:Nat}(h:¬ (bf L p k).1<agN L p (k+1)):bf L p (k+1)=bf L p k:=by simp only[bf];rw[a0e h]
theorem Ih(L:List UInt8)(p b:Nat)(hb:1<=b)(hbp:b<=p):∀n,p+n<=L.length->(∀i,i<n->L.getD (p+i) 0=L.getD (p+i-b) 0)->rep (L.take p) b n=L.take (p+n):=by
 intro n;induction n with
 | zero=>intro _ _;rfl
 | succ n ih=>
  intro h hi;have e:=ih (by omega) (fun i h2=>hi i (by omega));simp only[rep];rw[e,a0t,show min (p+n) L.length=p+n by omega];have e2:(L.take (p+n)).getD (p+n-b) 0=L.getD (p+n) 0:=by
   rw[hi n (by omega)];simp only[List.getD_eq_getElem?_getD];rw[List.getElem?_take,a0d (by omega)]
  rw[e2,←a1W,List.take_add_one]
  congr 1
  rw[List.getD_eq_getElem?_getD,List.getElem?_eq_getElem (by omega)];rfl
theorem vB(b:UInt8):jT (b.toNat:Int)=b:=by
 unfold jT;simp
theorem BW{L:List UInt8}{p:Nat}(h:p<L.length)(hl:L.length<=300):dE (L.take p) (fp L p)=some (L.take (p+ik L p)):=by
 obtain⟨h1,h2,h3,h4⟩:=jP L p (min p 250);have hin:=pQ h;have hlen:(L.take p).length=p:=by rw[a0t];omega
 unfold fp;unfold ik at hin ⊢;by_cases hc:(bf L p (min p 250)).1<3
 ·
  rw[a0d hc,a0d hc];have hx:=a2L (L.getD p 0);have hB:isB (((L.getD p 0).toNat:Int),0,0)=true:=by
   generalize L.getD p 0=c at *
   simp only[isB,inB];simp;omega
  rw[iL (by unfold okT;rw[hB];rfl) (fun hk=>by rw[s9 hB]at hk;cases hk) (by unfold nr;rw[hB,hlen];simp only[a0Z];omega),hB];simp only[a0Z];rw[vB,List.take_add_one,List.getD_eq_getElem?_getD,List.getElem?_eq_getElem h];rfl
 ·
  rw[a0e hc]at hin ⊢;rw[a0e hc];obtain⟨h5,h6⟩:=h3 (by omega);generalize hn:(bf L p (min p 250)).1=n at *
  generalize hb:(bf L p (min p 250)).2=b at *
  have hK:isK ((0:Int),(n:Int),(b:Int))=true:=by simp only[isK,inB];simp;omega
  have hB:isB ((0:Int),(n:Int),(b:Int))=false:=by
   cases e:isB ((0:Int),(n:Int),(b:Int))
   · rfl
   · rw[s9 e]at hK;cases hK
  rw[iL (by unfold okT;rw[hB,hK];rfl) (fun _=>by rw[hlen];simp only;omega) (by unfold nr;rw[hB,hlen];simp;omega),hB];simp only[a1w,a1x,a0r];rw[Ih L p b h5 (by omega) n hin (fun i hi=>Lj L p b i (by rw[←h6];exact hi))]
end Go.Proofs.YtkdlcomfpffhhaaGreatDoor
