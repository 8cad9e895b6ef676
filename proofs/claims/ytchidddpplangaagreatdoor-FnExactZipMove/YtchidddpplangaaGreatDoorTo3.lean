/- Contracts of the program's best token at a place, over this seat's program. -/
import Derived.Test.YtchidddpplangaaGreatDoorTo2
import Derived.Test.YtchidddpplangaaGreatDoorTi1
set_option linter.unusedSimpArgs false
set_option linter.unusedVariables false
set_option maxHeartbeats 6400000
namespace Go.Proofs.YtchidddpplangaaGreatDoor
open Go.RowKit
variable {b:Nat}{w:World}
theorem NX{x y:Value}{t:TypeId}(h:w.heap[b]?=some (Obj.cells #[x,y] t)):w.frozen? ⟨b,0,none⟩=false/\w.frozen? ⟨b,1,none⟩=false:=⟨by simp[World.frozen?,h],by simp[World.frozen?,h]⟩
theorem NY{x y:Value}{t:TypeId}(h:w.heap[b]?=some (Obj.cells #[x,y] t))(u v:Value):((w.setCell ⟨b,0,none⟩ u).setCell ⟨b,1,none⟩ v).heap[b]?=some (Obj.cells #[u,v] t):=by
 have a:(w.setCell ⟨b,0,none⟩ u).heap[b]?=some (Obj.cells #[u,y] t):=by
  show(w.heap.modify b _)[b]?=_;rw[Array.getElem?_modify,a0e rfl,h];simp
 generalize w.setCell ⟨b,0,none⟩ u=W at *
 show(W.heap.modify b _)[b]?=_;rw[Array.getElem?_modify,a0e rfl,a];simp
theorem JQ{x:World}(h:Below b w x)(u v:Value):Below b w ((x.setCell ⟨b,0,none⟩ u).setCell ⟨b,1,none⟩ v):=
 (h.setCell (p:=⟨b,0,none⟩) (a0a _) u).setCell (p:=⟨b,1,none⟩) (a0a _) v
theorem sF(L:List UInt8)(p:Nat):okT (gK L p)=true:=by
 unfold gK;obtain⟨b,h2,a,d⟩:=lT L p (min p 250)
 split
 .
  have:=a2I (L.getD p 0);generalize L.getD p 0=c at *
  simp only[okT,isB,inB];simp;omega
 . rename_i hn;obtain⟨e,f⟩:=a (by omega);simp only[okT,isK,isB,inB];simp;omega
theorem DL(s:ByteArray)(p:Nat)(w:World)(O:s.size<=100000)(N:p<s.size) :
  Ds 213 #[.string s,.int .i64 (p:Nat)] w (fG (gK s.data.toList p)):=by
 have V:(s.size:Int)<=100000:=by omega
 have T:(p:Int)<(s.size:Int):=by omega
 have u:=ae (a0b O N);have z:(w.alloc (.cells #[.int .i64 0,.int .i64 0] 259)).heap[w.heap.size]?=some (Obj.cells #[.int .i64 0,.int .i64 0] 259):=alloc_at _ _;have v:Below w.heap.size w (w.alloc (.cells #[.int .i64 0,.int .i64 0] 259)):=(a0c _ _).alloc (a0a _) _;have I:=ae (a0b z v);obtain⟨M,hM⟩:∃M:Nat,min p 250=M:=⟨_,rfl⟩;have R:(if (250:Int)<(p:Int)then 250 else(p:Int))=(M:Int):=by split<;>omega
 have Q:(M:Int)<=250:=by omega
 have P:=ae (a0b hM (a0b (show M<=p by omega) (show M<=250 by omega)));have g:Hid (gK s.data.toList p=if (br s.data.toList p M).1<3 then(((s.data.toList.getD p 0).toNat:Int),0,0)else(0,((br s.data.toList p M).1:Int),((br s.data.toList p M).2:Int))):=by show _=_;unfold gK;rw[hM]
 clear O N z v hM;go_enter Tryz.func213,Tryz.ntmps213;go_wp2_with fail
 go_loopw [6,7] (fun D _ wr=>∃k:Nat,k<=M/\D = .int .i64 ((k:Int)+1)/\wr.heap[w.heap.size]?=some (Obj.cells #[.int .i64 ((br s.data.toList p k).1:Nat),.int .i64 ((br s.data.toList p k).2:Nat)] 259)/\Below w.heap.size w wr) (fun D _ _=>252-(intOf D).toNat)
 case atStart=>exact⟨0,a0g _,rfl,(ab I).1,(ab I).2⟩
 case round=>
  obtain⟨k,F,rfl,a,c⟩:=hrel;have y:=(lT s.data.toList p k).1;have W:=ae F;have x:((br s.data.toList p k).1:Int)<=60:=by omega
  obtain⟨b,hb⟩:∃b:Nat,k+1=b:=⟨_,rfl⟩;have K:(k:Int)+1=(b:Int):=by omega
  by_cases S:(b:Int)<=(M:Int)
  .
   have J:=ae (Aw s p b wr (by have:=(ab u).1;omega) (by have:=(ab u).2;omega) (by omega) (by have:=(ab P).2.1;omega));have f:=ae (fun h=>vD (L:=s.data.toList) (p:=p) (k:=k) h);have m:=ae (fun h=>yS (L:=s.data.toList) (p:=p) (k:=k) h);rw[hb]at f m;clear F y hb g;generalize br s.data.toList p k=B at *
   obtain⟨i,t⟩:=B;simp only at x f m a ⊢;have n:=ae (a0b a c);generalize agN s.data.toList p b=A at *
   by_cases o:i<A
   .
    have r:(i:Int)<(A:Int):=by omega
    have e1:=ae (ab f o);clear f m o a c;go_wp2_with fail;refine(ab J).mono ?_;rintro e x1 ⟨rfl,j⟩;have d:x1.heap[w.heap.size]?=some (Obj.cells #[.int .i64 (i:Nat),.int .i64 (t:Nat)] 259):=(j.block _ (df (ab n).1).2.2).trans (ab n).1;have l:=ai (ab n).2 j;obtain⟨c0,c1,C⟩:=df d;obtain⟨f0,f1⟩:=NX d;go_wp2;go_roundw
    case rel=>exact⟨b,by omega,by go_num,by rw[ab e1];exact NY d _ _,JQ l _ _⟩
    case measure=>simp[intOf];omega
   .
    have r:¬ (i:Int)<(A:Int):=by omega
    have e1:=ae (ab m o);clear f m o a c;go_wp2_with fail;refine(ab J).mono ?_;rintro e x1 ⟨rfl,j⟩;have d:x1.heap[w.heap.size]?=some (Obj.cells #[.int .i64 (i:Nat),.int .i64 (t:Nat)] 259):=(j.block _ (df (ab n).1).2.2).trans (ab n).1;have l:=ai (ab n).2 j;obtain⟨c0,c1,C⟩:=df d;go_wp2;go_roundw
    case rel=>exact⟨b,by omega,by go_num,by rw[ab e1];exact d,l⟩
    case measure=>simp[intOf];omega
  .
   have G:k=M:=by omega
   subst G;have E:=ae (yz s p (ab u).2);have H:(s[p]'((ab u).2)).toNat<256:=a2I _;have U:=(ab u).2;clear F y hb;generalize br s.data.toList p k=B at *
   obtain⟨i,t⟩:=B;simp only at x a g ⊢;have n:=ae (a0b a c);obtain⟨c0,c1,C⟩:=df a;by_cases o:i<3
   .
    have r:(i:Int)<3:=by omega
    have e1:Hid (gK s.data.toList p=((s[p].toNat:Int),0,0)):=by show _=_;rw[ab g,a0e o,ab E]
    have e2:Hid (fG (gK s.data.toList p) = .iface 257 (.int .u8 (s[p].toNat:Int))):=by
     show _=_;rw[ab e1];refine lB ?_;simp only[isB,inB];simp;omega
    clear g o a c;go_wp2;go_ret;exact⟨by rw[ab e2];rfl,(ab n).2⟩
   .
    have r:¬ (i:Int)<3:=by omega
    have e1:Hid (gK s.data.toList p=(0,(i:Int),(t:Int))):=by show _=_;rw[ab g,a0d o]
    have q:=sF s.data.toList p;have e2:Hid (fG (gK s.data.toList p) = .iface 259 (.agg #[.int .i64 (i:Int),.int .i64 (t:Int)])):=by
     show _=_;rw[ab e1]at q ⊢;refine oH ?_;simp only[okT,isB,isK,inB]at q ⊢;simp at q ⊢;omega
    clear g o a c q;go_wp2;go_ret;exact⟨by rw[ab e2];rfl,(ab n).2⟩
end Go.Proofs.YtchidddpplangaaGreatDoor
