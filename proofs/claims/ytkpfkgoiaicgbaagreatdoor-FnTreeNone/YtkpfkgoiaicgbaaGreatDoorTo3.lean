/- Contracts of the program's best token at a place, over this seat's program. -/
import Derived.Test.YtkpfkgoiaicgbaaGreatDoorM14
import Derived.Test.YtkpfkgoiaicgbaaGreatDoorTi1
set_option linter.unusedSimpArgs false
set_option linter.unusedVariables false
set_option maxHeartbeats 6400000
namespace Go.Proofs.YtkpfkgoiaicgbaaGreatDoor
open Go.RowKit
theorem LQ{w:World}{b:Nat}{x y:Value}{t:TypeId}(h:w.heap[b]?=some (Obj.cells #[x,y] t)):w.frozen? ⟨b,0,none⟩=false/\w.frozen? ⟨b,1,none⟩=false:=⟨by simp[World.frozen?,h],by simp[World.frozen?,h]⟩
theorem LR{w:World}{b:Nat}{x y:Value}{t:TypeId}(h:w.heap[b]?=some (Obj.cells #[x,y] t))(u v:Value):((w.setCell ⟨b,0,none⟩ u).setCell ⟨b,1,none⟩ v).heap[b]?=some (Obj.cells #[u,v] t):=by
 have h1:(w.setCell ⟨b,0,none⟩ u).heap[b]?=some (Obj.cells #[u,y] t):=by
  show(w.heap.modify b _)[b]?=_;rw[Array.getElem?_modify,if_pos rfl,h];simp
 generalize w.setCell ⟨b,0,none⟩ u=W at *
 show(W.heap.modify b _)[b]?=_;rw[Array.getElem?_modify,if_pos rfl,h1];simp
theorem Gy{w x:World}{b:Nat}(h:Below b w x)(u v:Value):Below b w ((x.setCell ⟨b,0,none⟩ u).setCell ⟨b,1,none⟩ v):=
 (h.setCell (p:=⟨b,0,none⟩) (Nat.le_refl _) u).setCell (p:=⟨b,1,none⟩) (Nat.le_refl _) v
theorem qh(L:List UInt8)(p:Nat):okT (ft L p)=true:=by
 unfold ft;obtain⟨h1,h2,h3,h4⟩:=jV L p (min p 250)
 split
 ·
  have:=UInt8.toNat_lt (L.getD p 0);generalize L.getD p 0=c at *
  simp only[okT,isB,inB];simp;omega
 · rename_i hn;obtain⟨h5,h6⟩:=h3 (by omega);simp only[okT,isK,isB,inB];simp;omega
theorem z8(s:ByteArray)(p:Nat)(w:World)(hs:s.size<=100000)(hp:p<s.size) :
  Calls Tryz.prog 187 #[.string s,.int .i64 (p:Nat)] w fun e w'=>e = .returned (dX (ft s.data.toList p))/\Below w.heap.size w w':=by
 have hsI:(s.size:Int)<=100000:=by omega
 have hpI:(p:Int)<(s.size:Int):=by omega
 have HS:=af (And.intro hs hp);have hbx:(w.alloc (.cells #[.int .i64 0,.int .i64 0] 254)).heap[w.heap.size]?=some (Obj.cells #[.int .i64 0,.int .i64 0] 254):=alloc_at _ _;have hb0:Below w.heap.size w (w.alloc (.cells #[.int .i64 0,.int .i64 0] 254)):=(Below.refl _ _).alloc (Nat.le_refl _) _;have H0:=af (And.intro hbx hb0);obtain⟨M,hM⟩:∃M:Nat,min p 250=M:=⟨_,rfl⟩;have hMI:(if (250:Int)<(p:Int)then 250 else(p:Int))=(M:Int):=by split<;>omega
 have hM2:(M:Int)<=250:=by omega
 have HM:=af (And.intro hM (And.intro (show M<=p by omega) (show M<=250 by omega)));have htk:Hid (ft s.data.toList p=if (bf s.data.toList p M).1<3 then(((s.data.toList.getD p 0).toNat:Int),0,0)else(0,((bf s.data.toList p M).1:Int),((bf s.data.toList p M).2:Int))):=by show _=_;unfold ft;rw[hM]
 clear hs hp hbx hb0 hM;go_enter Tryz.func187,Tryz.ntmps187;go_wp2_with fail
 go_loopw [6,7] (fun ba _ wr=>∃k:Nat,k<=M/\ba = .int .i64 ((k:Int)+1)/\wr.heap[w.heap.size]?=some (Obj.cells #[.int .i64 ((bf s.data.toList p k).1:Nat),.int .i64 ((bf s.data.toList p k).2:Nat)] 254)/\Below w.heap.size w wr) (fun ba _ _=>252-(intOf ba).toNat)
 case atStart=>exact⟨0,Nat.zero_le _,rfl,(ae H0).1,(ae H0).2⟩
 case round=>
  obtain⟨k,hk,rfl,hbox,hbel⟩:=hrel;have hbd:=(jV s.data.toList p k).1;have HK:=af hk;have hbI:((bf s.data.toList p k).1:Int)<=60:=by omega
  obtain⟨b,hb⟩:∃b:Nat,k+1=b:=⟨_,rfl⟩;have hbbI:(k:Int)+1=(b:Int):=by omega
  by_cases hbM:(b:Int)<=(M:Int)
  ·
   have HA:=af (xw s p b wr (by have:=(ae HS).1;omega) (by have:=(ae HS).2;omega) (by omega) (by have:=(ae HM).2.1;omega));have hyes:=af (fun h=>Cm (L:=s.data.toList) (p:=p) (k:=k) h);have hno:=af (fun h=>FE (L:=s.data.toList) (p:=p) (k:=k) h);rw[hb]at hyes hno;clear hk hbd hb htk;generalize bf s.data.toList p k=B at *
   obtain⟨B1,B2⟩:=B;simp only at hbI hyes hno hbox ⊢;have HW:=af (And.intro hbox hbel);generalize agN s.data.toList p b=A at *
   by_cases hc:B1<A
   ·
    have hcI:(B1:Int)<(A:Int):=by omega
    have e1:=af (ae hyes hc);clear hyes hno hc hbox hbel;go_wp2_with fail;refine(ae HA).mono ?_;rintro e x1 ⟨rfl,hb1⟩;have hbx1:x1.heap[w.heap.size]?=some (Obj.cells #[.int .i64 (B1:Nat),.int .i64 (B2:Nat)] 254):=(hb1.block _ (ci (ae HW).1).2.2).trans (ae HW).1;have hbe1:=aj (ae HW).2 hb1;obtain⟨c0,c1,hlw⟩:=ci hbx1;obtain⟨f0,f1⟩:=LQ hbx1;go_wp2;go_roundw
    case rel=>exact⟨b,by omega,by go_num,by rw[ae e1];exact LR hbx1 _ _,Gy hbe1 _ _⟩
    case measure=>simp[intOf];omega
   ·
    have hcI:¬ (B1:Int)<(A:Int):=by omega
    have e1:=af (ae hno hc);clear hyes hno hc hbox hbel;go_wp2_with fail;refine(ae HA).mono ?_;rintro e x1 ⟨rfl,hb1⟩;have hbx1:x1.heap[w.heap.size]?=some (Obj.cells #[.int .i64 (B1:Nat),.int .i64 (B2:Nat)] 254):=(hb1.block _ (ci (ae HW).1).2.2).trans (ae HW).1;have hbe1:=aj (ae HW).2 hb1;obtain⟨c0,c1,hlw⟩:=ci hbx1;go_wp2;go_roundw
    case rel=>exact⟨b,by omega,by go_num,by rw[ae e1];exact hbx1,hbe1⟩
    case measure=>simp[intOf];omega
  ·
   have hkM:k=M:=by omega
   subst hkM;have hgx:=af (Aw s p (ae HS).2);have hx256:(s[p]'((ae HS).2)).toNat<256:=UInt8.toNat_lt _;have hps:=(ae HS).2;clear hk hbd hb;generalize bf s.data.toList p k=B at *
   obtain⟨B1,B2⟩:=B;simp only at hbI hbox htk ⊢;have HW:=af (And.intro hbox hbel);obtain⟨c0,c1,hlw⟩:=ci hbox;by_cases hc:B1<3
   ·
    have hcI:(B1:Int)<3:=by omega
    have e1:Hid (ft s.data.toList p=((s[p].toNat:Int),0,0)):=by show _=_;rw[ae htk,if_pos hc,ae hgx]
    have e2:Hid (dX (ft s.data.toList p) = .iface 252 (.int .u8 (s[p].toNat:Int))):=by
     show _=_;rw[ae e1];refine jB ?_;simp only[isB,inB];simp;omega
    clear htk hc hbox hbel;go_wp2;go_ret;exact⟨by rw[ae e2];rfl,(ae HW).2⟩
   ·
    have hcI:¬ (B1:Int)<3:=by omega
    have e1:Hid (ft s.data.toList p=(0,(B1:Int),(B2:Int))):=by show _=_;rw[ae htk,if_neg hc]
    have hok:=qh s.data.toList p;have e2:Hid (dX (ft s.data.toList p) = .iface 254 (.agg #[.int .i64 (B1:Int),.int .i64 (B2:Int)])):=by
     show _=_;rw[ae e1]at hok ⊢;refine mF ?_;simp only[okT,isB,isK,inB]at hok ⊢;simp at hok ⊢;omega
    clear htk hc hbox hbel hok;go_wp2;go_ret;exact⟨by rw[ae e2];rfl,(ae HW).2⟩
end Go.Proofs.YtkpfkgoiaicgbaaGreatDoor
