/- Contracts of the model's tokens of a text, over this seat's program. -/
import Derived.Test.YtkdlcomfpffhhaaGreatDoorTo1
import Derived.Test.YtkdlcomfpffhhaaGreatDoorM10
import Derived.Test.YtkdlcomfpffhhaaGreatDoorM6
set_option maxRecDepth 100000
set_option linter.unusedSimpArgs false
set_option linter.unusedVariables false
set_option maxHeartbeats 6400000
namespace Go.Proofs.YtkdlcomfpffhhaaGreatDoor
open Go.Proofs.Tryz
open Go.RowKit
theorem DX{L:List UInt8}{p k:Nat}(h:(bF L p k).1<agN L p (k+1)):bF L p (k+1)=(agN L p (k+1),k+1):=by simp only[bF];rw[a0e h]
theorem GQ{L:List UInt8}{p k:Nat}(h:¬ (bF L p k).1<agN L p (k+1)):bF L p (k+1)=bF L p k:=by simp only[bF];rw[a0d h]
theorem nH(s:ByteArray)(w:World)(hs:s.size<=100000) :
  Calls prog 241 #[.string s] w fun e w'=>∃v,e = .returned v/\dr w' w.heap.size v (eG s.data.toList 0)/\Below w.heap.size w w':=by
 obtain⟨i0,hi,V,W,X⟩:=a0s Tryz.infoTok;have al:(s.size:Int)<=100000:=by omega
 have HS:=af hs;have M:=af (jZ s);have R:dr (w.alloc (.cells #[] 343)) w.heap.size (.slice (some ⟨w.heap.size,0,none⟩) 0 0) []:=dr.lit _ _ (a0a _);have N:Below w.heap.size w (w.alloc (.cells #[] 343)):=(a0c _ _).alloc (a0a _) _;clear hs;go_enter func241,ntmps241;go_wp2_with fail
 go_loopw [3,4,5,6,7,8] (fun v i _ _ _ _ wr=>∃(p:Nat) (D:List Tk),p<=s.size/\i = .int .i64 p/\dr wr w.heap.size v D/\D++eG s.data.toList p=eG s.data.toList 0/\D.length<=p/\Below w.heap.size w wr) (fun _ i _ _ _ _ _=>s.size-(intOf i).toNat)
 case atStart=>exact⟨0,[],a0h _,rfl,R,rfl,a0a _,N⟩
 case round=>
  obtain⟨p,D,Z,rfl,hq,t,u,j⟩:=hrel;clear R N;obtain⟨va,vc,rfl⟩:=hq.form;by_cases z:p<s.size
  .
   have S:(p:Int)<(s.size:Int):=by omega
   have J:=af (a0b hq (a0b t (a0b u (a0b j Z))));clear hq t u j Z;go_wp2_with fail
   go_loopw [5,6,7,8] (fun lo fa ba _ wq=>∃k:Nat,k<=min p 250/\ba = .int .i64 ((k:Int)+1)/\lo = .int .i64 ((bF s.data.toList p k).1:Nat)/\fa = .int .i64 ((bF s.data.toList p k).2:Nat)/\Below wr.heap.size wr wq) (fun _ _ ba _ _=>252-(intOf ba).toNat)
   case atStart=>exact⟨0,a0h _,rfl,rfl,rfl,a0c _ _⟩
   case round=>
    obtain⟨k,hk,rfl,rfl,rfl,x⟩:=hrel;have P:=(nu s.data.toList p k).1;have HK:=af hk;have O:((bF s.data.toList p k).1:Int)<=60:=by omega
    obtain⟨b,hb⟩:∃b:Nat,k+1=b:=⟨_,rfl⟩;have ad:(k:Int)+1=(b:Int):=by omega
    have r:=af hb;rcases (by omega:((b:Int)<=250/\(b:Int)<=(p:Int))∨((b:Int)<=250/\¬ (b:Int)<=(p:Int))∨¬ (b:Int)<=250)with⟨E,aa⟩|⟨E,aa⟩|E
    .
     have HA:=af (xZ s p b wr (by have:=ae HS;omega) (by omega) (by omega) (by omega));have d:=af (fun h=>DX (L:=s.data.toList) (p:=p) (k:=k) h);have m:=af (fun h=>GQ (L:=s.data.toList) (p:=p) (k:=k) h);rw[hb]at d m;clear hk P hb;generalize bF s.data.toList p k=B at *
     obtain⟨g,B2⟩:=B;simp only at O d m ⊢;generalize agN s.data.toList p b=A at *
     by_cases f:g<A
     .
      have I:(g:Int)<(A:Int):=by omega
      have e1:=af (ae d f);clear d m f;go_wp2_with fail;refine(ae HA).mono ?_;rintro e x1 ⟨rfl,G⟩;go_wp2;go_roundw
      case rel=>exact⟨k+1,by have:=ae r;omega,by have:=ae r;go_num,by have:=ae r;rw[this,ae e1],by have:=ae r;rw[this,ae e1],am x G⟩
      case measure=>simp[intOf];omega
     .
      have I:¬ (g:Int)<(A:Int):=by omega
      have e1:=af (ae m f);clear d m f;go_wp2_with fail;refine(ae HA).mono ?_;rintro e x1 ⟨rfl,G⟩;go_wp2;go_roundw
      case rel=>exact⟨k+1,by have:=ae r;omega,by have:=ae r;go_num,by have:=ae r;rw[this,ae e1],by have:=ae r;rw[this,ae e1],am x G⟩
      case measure=>simp[intOf];omega
    all_goals
     have Q:Hid (k=min p 250):=by show k=min p 250;have:=ae HK;have:=ae r;omega
     have U:=af (ng (L:=s.data.toList) (p:=p) (by rw[ae M];exact z));have T:=af (Ma (L:=s.data.toList) (p:=p) (by rw[ae M];exact z));have q:Hid (tU s.data.toList p=if (bF s.data.toList p k).1<3 then(((s.data.toList.getD p 0).toNat:Int),0,0)else(0,((bF s.data.toList p k).1:Int),((bF s.data.toList p k).2:Int))):=by show _=_;unfold tU;rw[ae Q]
     have o:Hid (lh s.data.toList p=if (bF s.data.toList p k).1<3 then 1 else(bF s.data.toList p k).1):=by show _=_;unfold lh;rw[ae Q]
     have ab:=af (BR s p z);have ac:(s[p].toNat:Int)<256:=by have:=UInt8.toNat_lt s[p];omega
     have C:=af ((ae J).1.later x (a0a _));have F:=af (am (ae J).2.2.2.1 x);have y:=(ae F).size;have Y:Hid (D.length+1<=maxLen/\(D.length+1)*24<=140737488355328):=by show _/\_;have:=(ae J).2.2.1;have:=ae HS;unfold maxLen;omega
     clear hk P hb;generalize bF s.data.toList p k=B at *
     obtain⟨g,B2⟩:=B;simp only at O q o ⊢;by_cases f:g<3
     .
      have I:(g:Int)<3:=by omega
      have e1:Hid (tU s.data.toList p=((s[p].toNat:Int),0,0)):=by show _=_;rw[ae q,a0e f,ae ab]
      have e2:Hid (lh s.data.toList p=1):=by show _=_;rw[ae o,a0e f]
      clear f q o;go_wp2_with (at_builtin;refine a0v _ rfl _ _ 328 rfl w.heap.size 343 i0 (.agg #[.int .i64 0,.int .i64 0,.int .i64 0]) 3 24 underlying328 hi V W X rfl (by decide) _ _ _ rfl (a0k (ae C) _) ⟨wr.heap.size,0,none⟩ 1 1 [.int .i64 (s[p].toNat:Int),.int .i64 0,.int .i64 0] rfl rfl (It _ _ _ _ _ _ rfl) (Iu _ _ _) (ae Y).1 (ae Y).2 (av y _) ?_;intro v' x2 c a l;clear l);have H:=aI (v:=.slice va D.length vc) a (ae C) (a0a _) y (ae F);have n:=ux rfl c;rw[←ae e1]at n;clear c a;go_wp2;go_roundw
      case rel=>
       obtain⟨_,t,u,_,Z⟩:=ae J;have K:=ae T;have h2:=ae e2;rw[h2,ae M]at K;refine⟨p+1,D++[tU s.data.toList p],K,by go_num,n,?_,by rw[a0o,a1R];omega,H⟩;rw[←t,ae U,h2,a0U];rfl
      case measure=>simp[intOf];omega
     .
      have I:¬ (g:Int)<3:=by omega
      have e1:Hid (tU s.data.toList p=(0,(g:Int),(B2:Int))):=by show _=_;rw[ae q,a0d f]
      have e2:Hid (lh s.data.toList p=g):=by show _=_;rw[ae o,a0d f]
      have Hc:=af f;clear f q o;go_wp2_with (at_builtin;refine a0v _ rfl _ _ 328 rfl w.heap.size 343 i0 (.agg #[.int .i64 0,.int .i64 0,.int .i64 0]) 3 24 underlying328 hi V W X rfl (by decide) _ _ _ rfl (a0k (ae C) _) ⟨wr.heap.size,0,none⟩ 1 1 [.int .i64 0,.int .i64 (g:Int),.int .i64 (B2:Int)] rfl rfl (It _ _ _ _ _ _ rfl) (Iu _ _ _) (ae Y).1 (ae Y).2 (av y _) ?_;intro v' x2 c a l;clear l);have H:=aI (v:=.slice va D.length vc) a (ae C) (a0a _) y (ae F);have n:=ux rfl c;rw[←ae e1]at n;clear c a;go_wp2;go_roundw
      case rel=>
       obtain⟨_,t,u,_,Z⟩:=ae J;have K:=ae T;have h2:=ae e2;have h3:=ae Hc;rw[h2,ae M]at K;refine⟨p+g,D++[tU s.data.toList p],K,by go_num,n,?_,by rw[a0o,a1R];omega,H⟩;rw[←t,ae U,h2,a0U];rfl
      case measure=>have h3:=ae Hc;simp[intOf];omega
  .
   have S:¬ (p:Int)<(s.size:Int):=by omega
   have e0:eG s.data.toList p=[]:=jy (by rw[ae M];exact z);rw[e0,a1r]at t;have HD:=af t;clear t e0;go_wp2;go_ret;exact⟨_,rfl,by rw[←ae HD];exact hq,j⟩
end Go.Proofs.YtkdlcomfpffhhaaGreatDoor
