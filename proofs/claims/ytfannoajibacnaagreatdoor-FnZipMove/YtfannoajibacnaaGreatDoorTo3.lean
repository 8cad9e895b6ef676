/- Contracts of the program's best token at a place, over this seat's program. -/
import Derived.Test.YtfannoajibacnaaGreatDoorM12
import Derived.Test.YtfannoajibacnaaGreatDoorTi1
set_option linter.all false
set_option maxHeartbeats 6400000
namespace Go.Proofs.YtfannoajibacnaaGreatDoor
open Go.RowKit
variable {b:Nat}{w:World}
def TW{x y:Value}{t:TypeId}(h:w.heap[b]?=some (Obj.cells #[x,y] t)):w.frozen? ⟨b,0,none⟩=false/\w.frozen? ⟨b,1,none⟩=false:=⟨by simp[World.frozen?,h],by simp[World.frozen?,h]⟩
def Ua{x y:Value}{t:TypeId}(h:w.heap[b]?=some (Obj.cells #[x,y] t))(u v:Value):((w.setCell ⟨b,0,none⟩ u).setCell ⟨b,1,none⟩ v).heap[b]?=some (Obj.cells #[u,v] t):=by
 have a:(w.setCell ⟨b,0,none⟩ u).heap[b]?=some (Obj.cells #[u,y] t):=by
  show(w.heap.modify b _)[b]?=_;rw[Array.getElem?_modify,a0d rfl,h];simp
 generalize w.setCell ⟨b,0,none⟩ u=W at *;show(W.heap.modify b _)[b]?=_;rw[Array.getElem?_modify,a0d rfl,a];simp
def OA{x:World}(h:Below b w x)(u v:Value):Below b w ((x.setCell ⟨b,0,none⟩ u).setCell ⟨b,1,none⟩ v):=
 (h.setCell (p:=⟨b,0,none⟩) (a0a _) u).setCell (p:=⟨b,1,none⟩) (a0a _) v
def vt(L:List UInt8)(p:Nat):okT (gq L p)=true:=by
 unfold gq;obtain⟨b,h2,a,d⟩:=lZ L p (min p 250)
 split
 .
  have:=a2v (L.getD p 0);generalize L.getD p 0=c at *;simp only[okT,isB,inB];simp;omega
 . rename_i hn;obtain⟨e,f⟩:=a (by omega);simp only[okT,isK,isB,inB];simp;omega
def H5(s:ByteArray)(p:Nat)(w:World)(O:s.size<=100000)(N:p<s.size) :
  Ds 211 #[s,p] w (hH (gq s.data.toList p)):=by
 have V:(s.size:Int)<=100000:=by omega
 have T:(p:Int)<(s.size:Int):=by omega
 have u:=af (a0b O N);have z:(w.alloc (.cells #[.int .i64 0,.int .i64 0] 248)).heap[w.heap.size]?=some (Obj.cells #[.int .i64 0,.int .i64 0] 248):=alloc_at _ _;have v:Below w.heap.size w (w.alloc (.cells #[.int .i64 0,.int .i64 0] 248)):=cC;have I:=af (a0b z v);obtain⟨M,hM⟩:∃M:Nat,min p 250=M:=⟨_,rfl⟩;have R:(if (250:Int)<(p:Int)then 250 else(p:Int))=(M:Int):=by split<;>omega
 have Q:(M:Int)<=250:=by omega
 have P:=af (a0b hM (a0b (show M<=p by omega) (show M<=250 by omega)));have g:Hid (gq s.data.toList p=if (bm s.data.toList p M).1<3 then(((s.data.toList.getD p 0).toNat:Int),0,0)else(0,((bm s.data.toList p M).1:Int),((bm s.data.toList p M).2:Int))):=by show _=_;unfold gq;rw[hM]
 clear O N z v hM;go_enter Tryz.func211,Tryz.ntmps211;go_wp2_with fail
 go_loopw [6,7] (fun D _ wr=>∃k:Nat,k<=M/\D = .int .i64 ((k:Int)+1)/\wr.heap[w.heap.size]?=some (Obj.cells #[.int .i64 ((bm s.data.toList p k).1:Nat),.int .i64 ((bm s.data.toList p k).2:Nat)] 248)/\Below w.heap.size w wr) (fun D _ _=>252-(intOf D).toNat)
 case atStart=>exact⟨0,a0g _,rfl,I.1,I.2⟩
 case round=>
  obtain⟨k,F,rfl,a,c⟩:=hrel;have y:=(lZ s.data.toList p k).1;have W:=af F;have x:((bm s.data.toList p k).1:Int)<=60:=by omega
  obtain⟨b,hb⟩:∃b:Nat,k+1=b:=⟨_,rfl⟩;have K:(k:Int)+1=(b:Int):=by omega
  by_cases S:(b:Int)<=(M:Int)
  .
   have J:=af (Eu s p b wr (by have:=u.1;omega) (by have:=u.2;omega) (by omega) (by have:=P.2.1;omega));have f:=af (fun h=>yS (L:=s.data.toList) (p:=p) (k:=k) h);have m:=af (fun h=>Cs (L:=s.data.toList) (p:=p) (k:=k) h);rw[hb]at f m;clear F y hb g;generalize bm s.data.toList p k=B at *;obtain⟨i,t⟩:=B;simp only at x f m a ⊢;have n:=af (a0b a c);generalize agN s.data.toList p b=A at *;by_cases o:i<A
   .
    have r:(i:Int)<(A:Int):=(by omega);have e1:=af (ae f o);clear f m o a c;go_wp2_with fail;apply J.mono;rintro e x1⟨rfl,j⟩;have d:x1.heap[w.heap.size]?=some (Obj.cells #[i,t] 248):=(j.block _ (ea n.1).2.2).trans n.1;have l:=aj n.2 j;obtain⟨c0,c1,C⟩:=ea d;obtain⟨f0,f1⟩:=TW d;go_wp2;go_roundw
    case rel=>exact⟨b,by omega,by go_num,by rw[ae e1];exact Ua d _ _,OA l _ _⟩
    case measure=>simp[intOf];omega
   .
    have r:¬ (i:Int)<(A:Int):=(by omega);have e1:=af (ae m o);clear f m o a c;go_wp2_with fail;apply J.mono;rintro e x1⟨rfl,j⟩;have d:x1.heap[w.heap.size]?=some (Obj.cells #[i,t] 248):=(j.block _ (ea n.1).2.2).trans n.1;have l:=aj n.2 j;obtain⟨c0,c1,C⟩:=ea d;go_wp2;go_roundw
    case rel=>exact⟨b,by omega,by go_num,by rw[ae e1];exact d,l⟩
    case measure=>simp[intOf];omega
  .
   have G:k=M:=(by omega);subst G;have E:=af (BU s p u.2);have H:(s[p]'(u.2)).toNat<256:=a2v _;have U:=u.2;clear F y hb;generalize bm s.data.toList p k=B at *;obtain⟨i,t⟩:=B;simp only at x a g ⊢;have n:=af (a0b a c);obtain⟨c0,c1,C⟩:=ea a;by_cases o:i<3
   .
    have r:(i:Int)<3:=(by omega);have e1:Hid (gq s.data.toList p=((s[p].toNat:Int),0,0)):=by show _=_;rw[ae g,a0d o,ae E]
    have e2:Hid (hH (gq s.data.toList p) = .iface 246 (.int .u8 (s[p].toNat:Int))):=by
     show _=_;rw[ae e1];refine oH ?_;simp only[isB,inB];simp;omega
    clear g o a c;go_wp2;go_ret;exact⟨by rw[ae e2];rfl,n.2⟩
   .
    have r:¬ (i:Int)<3:=(by omega);have e1:Hid (gq s.data.toList p=(0,(i:Int),(t:Int))):=by show _=_;rw[ae g,a0e o]
    have q:=vt s.data.toList p;have e2:Hid (hH (gq s.data.toList p) = .iface 248 (.agg #[.int .i64 (i:Int),.int .i64 (t:Int)])):=by
     show _=_;rw[ae e1]at q ⊢;refine tM ?_;simp only[okT,isB,isK,inB]at q ⊢;simp at q ⊢;omega
    clear g o a c q;go_wp2;go_ret;exact⟨by rw[ae e2];rfl,n.2⟩
