/- Of what the proof is made: 2 texts, one behind the other. -/
import Derived.Test.YtfhdadkcophoaaaGreatDoorTo1
import Derived.Test.YtfhdadkcophoaaaGreatDoorM11
import Derived.Test.YtfhdadkcophoaaaGreatDoorM7
set_option linter.unusedSimpArgs false
set_option linter.unusedVariables false
namespace Go.Proofs.YtfhdadkcophoaaaGreatDoor
open Go.RowKit
theorem BW{L:List UInt8}{p k:Nat}(h:(bg L p k).1<agN L p (k+1)):bg L p (k+1)=(agN L p (k+1),k+1):=by simp only[bg];rw[a0d h]
theorem Fg{L:List UInt8}{p k:Nat}(h:¬ (bg L p k).1<agN L p (k+1)):bg L p (k+1)=bg L p k:=by simp only[bg];rw[a0e h]
theorem H9(L:List UInt8)(p b:Nat)(hb:1<=b)(hbp:b<=p):∀n,p+n<=L.length->(∀i,i<n->L.getD (p+i) 0=L.getD (p+i-b) 0)->rep (L.take p) b n=L.take (p+n):=by
 intro n;induction n with
 | zero=>intro _ _;rfl
 | succ n ih=>
  intro h hi;have e:=ih (by omega) (fun i h2=>hi i (by omega));simp only[rep];rw[e,a0x,show min (p+n) L.length=p+n by omega];have e2:(L.take (p+n)).getD (p+n-b) 0=L.getD (p+n) 0:=by
   rw[hi n (by omega)];simp only[List.getD_eq_getElem?_getD];rw[List.getElem?_take,a0d (by omega)]
  rw[e2,←a1I,List.take_add_one]
  congr 1
  rw[List.getD_eq_getElem?_getD,List.getElem?_eq_getElem (by omega)];rfl
theorem vE(b:UInt8):j9 (b.toNat:Int)=b:=by
 unfold j9;simp
theorem BP{L:List UInt8}{p:Nat}(h:p<L.length)(hl:L.length<=300):dA (L.take p) (ft L p)=some (L.take (p+iu L p)):=by
 obtain⟨h1,h2,h3,h4⟩:=jY L p (min p 250);have hin:=pL h;have hlen:(L.take p).length=p:=by rw[a0x];omega
 unfold ft;unfold iu at hin ⊢;by_cases hc:(bg L p (min p 250)).1<3
 ·
  rw[a0d hc,a0d hc];have hx:=a2x (L.getD p 0);have hB:isB (((L.getD p 0).toNat:Int),0,0)=true:=by
   generalize L.getD p 0=c at *
   simp only[isB,inB];simp;omega
  rw[iX (by unfold okT;rw[hB];rfl) (fun hk=>by rw[sY hB]at hk;cases hk) (by unfold nw;rw[hB,hlen];simp only[a0U];omega),hB];simp only[a0U];rw[vE,List.take_add_one,List.getD_eq_getElem?_getD,List.getElem?_eq_getElem h];rfl
 ·
  rw[a0e hc]at hin ⊢;rw[a0e hc];obtain⟨h5,h6⟩:=h3 (by omega);generalize hn:(bg L p (min p 250)).1=n at *
  generalize hb:(bg L p (min p 250)).2=b at *
  have hK:isK ((0:Int),(n:Int),(b:Int))=true:=by simp only[isK,inB];simp;omega
  have hB:isB ((0:Int),(n:Int),(b:Int))=false:=by
   cases e:isB ((0:Int),(n:Int),(b:Int))
   · rfl
   · rw[sY e]at hK;cases hK
  rw[iX (by unfold okT;rw[hB,hK];rfl) (fun _=>by rw[hlen];simp only;omega) (by unfold nw;rw[hB,hlen];simp;omega),hB];simp only[a1m,a1n,a0q];rw[H9 L p b h5 (by omega) n hin (fun i hi=>Lg L p b i (by rw[←h6];exact hi))]
end Go.Proofs.YtfhdadkcophoaaaGreatDoor
