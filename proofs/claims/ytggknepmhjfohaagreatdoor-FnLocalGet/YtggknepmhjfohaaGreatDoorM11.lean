/- Of what the proof is made: 2 texts, one behind the other. -/
import Derived.Test.YtggknepmhjfohaaGreatDoorTo1
import Derived.Test.YtggknepmhjfohaaGreatDoorM10
import Derived.Test.YtggknepmhjfohaaGreatDoorM6
set_option maxRecDepth 100000
set_option linter.unusedSimpArgs false
set_option linter.unusedVariables false
set_option maxHeartbeats 6400000
namespace Go.Proofs.YtggknepmhjfohaaGreatDoor
open Go.Proofs.Tryz
open Go.RowKit
variable {L:List UInt8}{p:Nat}
theorem ut{k:Nat}(h:(aY L p k).1<agN L p (k+1)):aY L p (k+1)=(agN L p (k+1),k+1):=by simp only[aY];rw[a0d h]
theorem xe{k:Nat}(h:¬ (aY L p k).1<agN L p (k+1)):aY L p (k+1)=aY L p k:=by simp only[aY];rw[a0e h]
theorem oo(s:ByteArray)(w:World)(hs:s.size<=100000) :
  Calls prog 137 #[.string s] w fun e w'=>∃v,e = .returned v/\dN w' w.heap.size v (bg s.data.toList 0)/\Below w.heap.size w w':=by
 obtain⟨i0,hi,V,W,X⟩:=a0t Tryz.infoTok;have al:(s.size:Int)<=100000:=by omega
 have HS:=af hs;have M:=af (iJ s);have R:dN (w.alloc (.cells #[] 226)) w.heap.size (.slice (some ⟨w.heap.size,0,none⟩) 0 0) []:=dN.lit _ _ (a0a _);have N:Below w.heap.size w (w.alloc (.cells #[] 226)):=(a0c _ _).alloc (a0a _) _;clear hs;go_enter func137,ntmps137;go_wp2_with fail
 go_loopw [3,4,5,6,7,8] (fun v i _ _ _ _ wr=>∃(p:Nat) (D:List Tk),p<=s.size/\i = .int .i64 p/\dN wr w.heap.size v D/\D++bg s.data.toList p=bg s.data.toList 0/\D.length<=p/\Below w.heap.size w wr) (fun _ i _ _ _ _ _=>s.size-(intOf i).toNat)
 case atStart=>exact⟨0,[],a0g _,rfl,R,rfl,a0a _,N⟩
 case round=>
  obtain⟨p,D,Z,rfl,hq,t,u,j⟩:=hrel;clear R N;obtain⟨va,vc,rfl⟩:=hq.form;by_cases z:p<s.size
  .
   have S:(p:Int)<(s.size:Int):=by omega
   have J:=af (a0b hq (a0b t (a0b u (a0b j Z))));clear hq t u j Z;go_wp2_with fail
   go_loopw [5,6,7,8] (fun lo fa ba _ wq=>∃k:Nat,k<=min p 250/\ba = .int .i64 ((k:Int)+1)/\lo = .int .i64 ((aY s.data.toList p k).1:Nat)/\fa = .int .i64 ((aY s.data.toList p k).2:Nat)/\Below wr.heap.size wr wq) (fun _ _ ba _ _=>252-(intOf ba).toNat)
   case atStart=>exact⟨0,a0g _,rfl,rfl,rfl,a0c _ _⟩
   case round=>
    obtain⟨k,hk,rfl,rfl,rfl,x⟩:=hrel;have P:=(jS s.data.toList p k).1;have HK:=af hk;have O:((aY s.data.toList p k).1:Int)<=60:=by omega
    obtain⟨b,hb⟩:∃b:Nat,k+1=b:=⟨_,rfl⟩;have ad:(k:Int)+1=(b:Int):=by omega
    have r:=af hb;rcases (by omega:((b:Int)<=250/\(b:Int)<=(p:Int))∨((b:Int)<=250/\¬ (b:Int)<=(p:Int))∨¬ (b:Int)<=250)with⟨E,aa⟩|⟨E,aa⟩|E
    .
     have HA:=af (yz s p b wr (by have:=ae HS;omega) (by omega) (by omega) (by omega));have d:=af (fun h=>ut (L:=s.data.toList) (p:=p) (k:=k) h);have m:=af (fun h=>xe (L:=s.data.toList) (p:=p) (k:=k) h);rw[hb]at d m;clear hk P hb;generalize aY s.data.toList p k=B at *
     obtain⟨g,B2⟩:=B;simp only at O d m ⊢;generalize agN s.data.toList p b=A at *
     by_cases f:g<A
     .
      have I:(g:Int)<(A:Int):=by omega
      have e1:=af (ae d f);clear d m f;go_wp2_with fail;refine(ae HA).mono ?_;rintro e x1 ⟨rfl,G⟩;go_wp2;go_roundw
      case rel=>exact⟨k+1,by have:=ae r;omega,by have:=ae r;go_num,by have:=ae r;rw[this,ae e1],by have:=ae r;rw[this,ae e1],ap x G⟩
      case measure=>simp[intOf];omega
     .
      have I:¬ (g:Int)<(A:Int):=by omega
      have e1:=af (ae m f);clear d m f;go_wp2_with fail;refine(ae HA).mono ?_;rintro e x1 ⟨rfl,G⟩;go_wp2;go_roundw
      case rel=>exact⟨k+1,by have:=ae r;omega,by have:=ae r;go_num,by have:=ae r;rw[this,ae e1],by have:=ae r;rw[this,ae e1],ap x G⟩
      case measure=>simp[intOf];omega
    all_goals
     have Q:Hid (k=min p 250):=by show k=min p 250;have:=ae HK;have:=ae r;omega
     have U:=af (gO (L:=s.data.toList) (p:=p) (by rw[ae M];exact z));have T:=af (oM (L:=s.data.toList) (p:=p) (by rw[ae M];exact z));have q:Hid (fe s.data.toList p=if (aY s.data.toList p k).1<3 then(((s.data.toList.getD p 0).toNat:Int),0,0)else(0,((aY s.data.toList p k).1:Int),((aY s.data.toList p k).2:Int))):=by show _=_;unfold fe;rw[ae Q]
     have o:Hid (ii s.data.toList p=if (aY s.data.toList p k).1<3 then 1 else(aY s.data.toList p k).1):=by show _=_;unfold ii;rw[ae Q]
     have ab:=af (wN s p z);have ac:(s[p].toNat:Int)<256:=by have:=a2h s[p];omega
     have C:=af ((ae J).1.later x (a0a _));have F:=af (ap (ae J).2.2.2.1 x);have y:=(ae F).size;have Y:Hid (D.length+1<=maxLen/\(D.length+1)*24<=140737488355328):=by show _/\_;have:=(ae J).2.2.1;have:=ae HS;unfold maxLen;omega
     clear hk P hb;generalize aY s.data.toList p k=B at *
     obtain⟨g,B2⟩:=B;simp only at O q o ⊢;by_cases f:g<3
     .
      have I:(g:Int)<3:=by omega
      have e1:Hid (fe s.data.toList p=((s[p].toNat:Int),0,0)):=by show _=_;rw[ae q,a0d f,ae ab]
      have e2:Hid (ii s.data.toList p=1):=by show _=_;rw[ae o,a0d f]
      clear f q o;go_wp2_with (at_builtin;refine a0x _ rfl _ _ 198 rfl w.heap.size 226 i0 (.agg #[.int .i64 0,.int .i64 0,.int .i64 0]) 3 24 underlying198 hi V W X rfl (by decide) _ _ _ rfl (a0r (ae C) _) ⟨wr.heap.size,0,none⟩ 1 1 [.int .i64 (s[p].toNat:Int),.int .i64 0,.int .i64 0] rfl rfl (GM _ _ _ _ _ _ rfl) (GN _ _ _) (ae Y).1 (ae Y).2 (ax y _) ?_;intro v' x2 c a l;clear l);have H:=aG (v:=.slice va D.length vc) a (ae C) (a0a _) y (ae F);have n:=uN rfl c;rw[←ae e1]at n;clear c a;go_wp2;go_roundw
      case rel=>
       obtain⟨_,t,u,_,Z⟩:=ae J;have K:=ae T;have h2:=ae e2;rw[h2,ae M]at K;refine⟨p+1,D++[fe s.data.toList p],K,by go_num,n,?_,by rw[a0m,a1g];omega,H⟩;rw[←t,ae U,h2,a0M];rfl
      case measure=>simp[intOf];omega
     .
      have I:¬ (g:Int)<3:=by omega
      have e1:Hid (fe s.data.toList p=(0,(g:Int),(B2:Int))):=by show _=_;rw[ae q,a0e f]
      have e2:Hid (ii s.data.toList p=g):=by show _=_;rw[ae o,a0e f]
      have Hc:=af f;clear f q o;go_wp2_with (at_builtin;refine a0x _ rfl _ _ 198 rfl w.heap.size 226 i0 (.agg #[.int .i64 0,.int .i64 0,.int .i64 0]) 3 24 underlying198 hi V W X rfl (by decide) _ _ _ rfl (a0r (ae C) _) ⟨wr.heap.size,0,none⟩ 1 1 [.int .i64 0,.int .i64 (g:Int),.int .i64 (B2:Int)] rfl rfl (GM _ _ _ _ _ _ rfl) (GN _ _ _) (ae Y).1 (ae Y).2 (ax y _) ?_;intro v' x2 c a l;clear l);have H:=aG (v:=.slice va D.length vc) a (ae C) (a0a _) y (ae F);have n:=uN rfl c;rw[←ae e1]at n;clear c a;go_wp2;go_roundw
      case rel=>
       obtain⟨_,t,u,_,Z⟩:=ae J;have K:=ae T;have h2:=ae e2;have h3:=ae Hc;rw[h2,ae M]at K;refine⟨p+g,D++[fe s.data.toList p],K,by go_num,n,?_,by rw[a0m,a1g];omega,H⟩;rw[←t,ae U,h2,a0M];rfl
      case measure=>have h3:=ae Hc;simp[intOf];omega
  .
   have S:¬ (p:Int)<(s.size:Int):=by omega
   have e0:bg s.data.toList p=[]:=ea (by rw[ae M];exact z);rw[e0,a03]at t;have HD:=af t;clear t e0;go_wp2;go_ret;exact⟨_,rfl,by rw[←ae HD];exact hq,j⟩
theorem IF(L:List UInt8)(p b:Nat)(hb:1<=b)(c:b<=p):∀n,p+n<=L.length->(∀i,i<n->L.getD (p+i) 0=L.getD (p+i-b) 0)->rep (L.take p) b n=L.take (p+n):=by
 intro n;induction n with
 | zero=>intro _ _;rfl
 | succ n ih=>
  intro h a;have e:=ih (by omega) (fun i h2=>a i (by omega));simp only[rep];rw[e,a0H,show min (p+n) L.length=p+n by omega];have e2:(L.take (p+n)).getD (p+n-b) 0=L.getD (p+n) 0:=by
   rw[a n (by omega)];simp only[List.getD_eq_getElem?_getD];rw[List.getElem?_take,a0d (by omega)]
  rw[e2,←a1T,List.take_add_one]
  congr 1
  rw[List.getD_eq_getElem?_getD,List.getElem?_eq_getElem (by omega)];rfl
theorem xr(b:UInt8):db (b.toNat:Int)=b:=by
 unfold db;simp
theorem DL(h:p<L.length)(t:L.length<=300):dR (L.take p) (fe L p)=some (L.take (p+ii L p)):=by
 obtain⟨r,h2,l,s⟩:=jS L p (min p 250);have f:=oM h;have a:(L.take p).length=p:=by rw[a0H];omega
 unfold fe;unfold ii at f ⊢;by_cases g:(aY L p (min p 250)).1<3
 .
  rw[a0d g,a0d g];have v:=a2h (L.getD p 0);have d:isB (((L.getD p 0).toNat:Int),0,0)=true:=by
   generalize L.getD p 0=c at *
   simp only[isB,inB];simp;omega
  rw[jO (by unfold okT;rw[d];rfl) (fun k=>by rw[uL d]at k;cases k) (by unfold oN;rw[d,a];simp only[a0T];omega),d];simp only[a0T];rw[xr,List.take_add_one,List.getD_eq_getElem?_getD,List.getElem?_eq_getElem h];rfl
 .
  rw[a0e g]at f ⊢;rw[a0e g];obtain⟨m,o⟩:=l (by omega);generalize u:(aY L p (min p 250)).1=n at *
  generalize hb:(aY L p (min p 250)).2=b at *
  have j:isK ((0:Int),(n:Int),(b:Int))=true:=by simp only[isK,inB];simp;omega
  have d:isB ((0:Int),(n:Int),(b:Int))=false:=by
   cases e:isB ((0:Int),(n:Int),(b:Int))
   . rfl
   . rw[uL e]at j;cases j
  rw[jO (by unfold okT;rw[d,j];rfl) (fun _=>by rw[a];simp only;omega) (by unfold oN;rw[d,a];simp;omega),d];simp only[a0Y,a0Z,a0p];rw[IF L p b m (by omega) n f (fun i q=>Ld L p b i (by rw[←o];exact q))]
end Go.Proofs.YtggknepmhjfohaaGreatDoor
