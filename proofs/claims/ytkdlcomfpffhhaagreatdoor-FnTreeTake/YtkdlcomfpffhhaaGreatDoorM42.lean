/- Of what the proof is made: 5 texts, one behind the other. -/
import Derived.Test.YtkdlcomfpffhhaaGreatDoorM18
import Derived.Test.YtkdlcomfpffhhaaGreatDoorM40
import Derived.Test.YtkdlcomfpffhhaaGreatDoorM26
import Derived.Test.YtkdlcomfpffhhaaGreatDoorM3
import Derived.Lib.QuietBelow
import Derived.Test.YtkdlcomfpffhhaaGreatDoorShelf
import Derived.Test.YtkdlcomfpffhhaaGreatDoorM14
import Derived.Test.YtkdlcomfpffhhaaGreatDoorM7
import Derived.Test.YtkdlcomfpffhhaaGreatDoorM6
set_option maxRecDepth 100000
set_option linter.unusedSimpArgs false
set_option linter.unusedVariables false
set_option maxHeartbeats 12800000
namespace Go.Proofs.YtkdlcomfpffhhaaGreatDoor
open Go.Proofs.Tryz
open Go.RowKit Corb
variable {A B c g how:Nat}{E:World->Prop}{N:Nat->Prop}{W W' w:World}{b s:ByteArray}{vs z:List Value}
def RdS(w W:World):Prop:=Below w.heap.size w W/\Blk W w.heap.size [.string ⟨#[]⟩,.int .i64 0,.int .i64 0,.int .i64 0,.int .i64 0,.int .i64 0,.int .i64 0,.string ⟨#[]⟩]
theorem RdS.later(k:RdS w W)(hb:Below W.heap.size W W'):RdS w W':=⟨am k.1 hb,k.2.later hb k.2.1⟩
theorem RdS.drew(k:RdS w W):RdS w W.drew:=⟨k.1.drew,k.2.drew⟩
theorem RdS.set(k:RdS w W)(a:w.heap.size<A)(o:Nat)(v:Value):RdS w (W.setCell ⟨A,o,none⟩ v):=⟨ap k.1 (a0y a) _,k.2.set_other v (by omega)⟩
theorem MC(h:hdB s=false):nR s = .tuple #[noE,.int .i64 0,.bool false]:=by simp[nR,gt,h]
theorem qJ(h:¬ (da s 0 4=67324752/\da s 4 2=20/\da s 6 2=0/\da s 28 2=0)):nR s = .tuple #[noE,.int .i64 0,.bool false]:=by
 refine MC ?_;cases hb:hdB s
 . rfl
 . obtain⟨a,h2,b⟩:=jM.1 hb;simp only[mB,a0n,a0E]at h2;obtain⟨e1,e2,e3,e4⟩:=h2;refine absurd ?_ h;rw[fH (by omega),fH (by omega),fH (by omega),fH (by omega),e1,e2,e3,e4];exact⟨rfl,rfl,rfl,rfl⟩
theorem Io(c:da s 0 4=67324752)(d:da s 4 2=20)(e:da s 6 2=0)(b:da s 28 2=0):30<=s.size/\mB s.data.toList=true:=by
 have a:28+2<=s.size:=by
  by_cases h:28+2<=s.size
  . exact h
  . rw[wk h]at b;omega
 rw[fH (by omega)]at c d e b;refine⟨a,?_⟩;simp only[mB,a0n,a0E];omega
theorem Ns(h:¬ 30+wd s.data.toList 26 2+wd s.data.toList 18 4<=s.size):nR s = .tuple #[noE,.int .i64 0,.bool false]:=MC (by simp[hdB,h])
theorem II(h:hdB s=true):nR s=if ((txO (wd s.data.toList 8 2) (bdB s)&&(decide (wd s.data.toList 14 4=aL 0 (txT (wd s.data.toList 8 2) (bdB s)).data.toList)&&decide (wd s.data.toList 22 4=(txT (wd s.data.toList 8 2) (bdB s)).size)))&&Ef s (txT (wd s.data.toList 8 2) (bdB s)))=true then .tuple #[E8 s (txT (wd s.data.toList 8 2) (bdB s)),.int .i64 ((30+wd s.data.toList 26 2+wd s.data.toList 18 4:Nat):Int),.bool true]else .tuple #[noE,.int .i64 0,.bool false]:=by
 unfold nR gt;rw[a0e h,Nt];cases a:txO (wd s.data.toList 8 2) (bdB s)
 . simp
 .
  simp only[a09,M5];by_cases c1:wd s.data.toList 14 4=aL 0 (txT (wd s.data.toList 8 2) (bdB s)).data.toList
  .
   by_cases c2:wd s.data.toList 22 4=(txT (wd s.data.toList 8 2) (bdB s)).size
   . by_cases c3:Ef s (txT (wd s.data.toList 8 2) (bdB s))=true<;>simp[c1,c2,c3]
   . simp[c2]
  . simp[c1]
def RdP(s:ByteArray)(e:Ending):Prop:=∃n y mo d h mi c t k ok,e = .returned (.tuple #[.agg #[.string n,.int .i64 y,.int .i64 mo,.int .i64 d,.int .i64 h,.int .i64 mi,.int .i64 c,.string t],.int .i64 k,.bool ok])/\nR s=if ok=true then .tuple #[.agg #[.string n,.int .i64 y,.int .i64 mo,.int .i64 d,.int .i64 h,.int .i64 mi,.int .i64 c,.string t],.int .i64 k,.bool true]else .tuple #[noE,.int .i64 0,.bool false]
theorem rX(s:ByteArray)(w:World)(hs:s.size<=1048576) :
  Calls prog 72 #[.string s] w fun e w'=>RdP s e/\Below w.heap.size w w':=by
 have o:prog.follows .mixedOrders=true:=by kernel_rfl
 have l:Hid (∀W,CD 68 #[.string s,.int .i64 26,.int .i64 2] W (.int .i64 (da s 26 2))):=fun W=>cR s 26 2 W (by decide) (by decide) (by omega);have k:Hid (∀W,CD 68 #[.string s,.int .i64 18,.int .i64 4] W (.int .i64 (da s 18 4))):=fun W=>cR s 18 4 W (by decide) (by decide) (by omega);have u:Hid (∀W,CD 68 #[.string s,.int .i64 0,.int .i64 4] W (.int .i64 (da s 0 4))):=fun W=>cR s 0 4 W (by decide) (by decide) (by omega);have C:Hid (∀W,CD 68 #[.string s,.int .i64 4,.int .i64 2] W (.int .i64 (da s 4 2))):=fun W=>cR s 4 2 W (by decide) (by decide) (by omega);have M:Hid (∀W,CD 68 #[.string s,.int .i64 6,.int .i64 2] W (.int .i64 (da s 6 2))):=fun W=>cR s 6 2 W (by decide) (by decide) (by omega);have z:Hid (∀W,CD 68 #[.string s,.int .i64 28,.int .i64 2] W (.int .i64 (da s 28 2))):=fun W=>cR s 28 2 W (by decide) (by decide) (by omega);have F:Hid (∀W,CD 68 #[.string s,.int .i64 10,.int .i64 4] W (.int .i64 (da s 10 4))):=fun W=>cR s 10 4 W (by decide) (by decide) (by omega);have C8:Hid (∀W,CD 68 #[.string s,.int .i64 8,.int .i64 2] W (.int .i64 (da s 8 2))):=fun W=>cR s 8 2 W (by decide) (by decide) (by omega);have O:Hid (∀W,CD 68 #[.string s,.int .i64 14,.int .i64 4] W (.int .i64 (da s 14 4))):=fun W=>cR s 14 4 W (by decide) (by decide) (by omega);have P:Hid (∀W,CD 68 #[.string s,.int .i64 22,.int .i64 4] W (.int .i64 (da s 22 4))):=fun W=>cR s 22 4 W (by decide) (by decide) (by omega);have T0:Hid (RdS w (w.alloc (.cells #[.string ⟨#[]⟩,.int .i64 0,.int .i64 0,.int .i64 0,.int .i64 0,.int .i64 0,.int .i64 0,.string ⟨#[]⟩] 32))):=⟨(a0c _ _).alloc (a0a _) _,aP w #[.string ⟨#[]⟩,.int .i64 0,.int .i64 0,.int .i64 0,.int .i64 0,.int .i64 0,.int .i64 0,.string ⟨#[]⟩] 32⟩;by_cases q:da s 0 4=67324752
 .
  by_cases t:da s 4 2=20
  .
   by_cases B:da s 6 2=0
   .
    by_cases L:da s 28 2=0
    .
     obtain⟨H,J⟩:=Io q t B L;rw[q]at u;rw[t]at C;rw[B]at M;rw[L]at z;rw[fH (by omega)]at l k F C8 O P;have X:=gJ s.data.toList 26;have U:=dQ s.data.toList 18;have Z:=dQ s.data.toList 10;have I:=gJ s.data.toList 8;by_cases r:30+wd s.data.toList 26 2+wd s.data.toList 18 4<=s.size
     .
      have a5:=js (s:=s) (by omega);have ao:=wR (s:=s) r;have HL:=af (II (jM.2 ⟨H,J,r⟩));have b7:s.extract 30 (30+wd s.data.toList 26 2)=nmB s:=rfl;have b8:s.extract (30+wd s.data.toList 26 2) (30+wd s.data.toList 26 2+wd s.data.toList 18 4)=bdB s:=rfl;have CT:Hid (∀W,CD 105 #[.int .i64 (wd s.data.toList 8 2:Nat),.string (bdB s)] W (.tuple #[.string (txT (wd s.data.toList 8 2) (bdB s)),.bool (txO (wd s.data.toList 8 2) (bdB s))])):=fun W=>Bf _ _ W (by omega) I;have a9:=zI (how:=wd s.data.toList 8 2) (b:=bdB s) (by omega);have CC:=af (fun W=>qg (txT (wd s.data.toList 8 2) (bdB s)) W (by unfold maxLen;omega));have CE:=af (fun W=>gG (nmB s) (gY (wd s.data.toList 10 4:Nat)) (gM (wd s.data.toList 10 4:Nat)) (gD (wd s.data.toList 10 4:Nat)) (gH (wd s.data.toList 10 4:Nat)) (gI (wd s.data.toList 10 4:Nat)) (gS (wd s.data.toList 10 4:Nat)) (txT (wd s.data.toList 8 2) (bdB s)) W (by omega) (by omega));have CG:Hid (∀W,CD 104 #[.int .i64 (wd s.data.toList 10 4:Nat)] W (.agg #[.int .i64 (gY (wd s.data.toList 10 4:Nat)),.int .i64 (gM (wd s.data.toList 10 4:Nat)),.int .i64 (gD (wd s.data.toList 10 4:Nat)),.int .i64 (gH (wd s.data.toList 10 4:Nat)),.int .i64 (gI (wd s.data.toList 10 4:Nat)),.int .i64 (gS (wd s.data.toList 10 4:Nat))])):=fun W=>EG _ W (by omega) (by omega);unfold E8 Ef at HL;have a0:aL 0 (txT (wd s.data.toList 8 2) (bdB s)).data.toList<4294967296:=mt _ _ (by omega);generalize al:txO (wd s.data.toList 8 2) (bdB s)=OK at *
      generalize an:txT (wd s.data.toList 8 2) (bdB s)=TX at *
      generalize ac:bdB s=BD at *
      generalize ad:nmB s=NM at *
      generalize bb:gY (wd s.data.toList 10 4:Nat)=yy at *
      generalize a4:gM (wd s.data.toList 10 4:Nat)=mo at *
      generalize a1:gD (wd s.data.toList 10 4:Nat)=dd at *
      generalize a2:gH (wd s.data.toList 10 4:Nat)=hh at *
      generalize a3:gI (wd s.data.toList 10 4:Nat)=mi at *
      generalize a6:gS (wd s.data.toList 10 4:Nat)=ss at *
      generalize fV NM yy mo dd hh mi ss TX=EB at *
      generalize aL 0 TX.data.toList=cr at *
      generalize wd s.data.toList 26 2=NL at *
      generalize wd s.data.toList 18 4=LG at *
      generalize wd s.data.toList 10 4=ST at *
      generalize wd s.data.toList 8 2=HW at *
      generalize wd s.data.toList 14 4=CR at *
      generalize wd s.data.toList 22 4=LN at *
      have bd:0<=30+(NL:Int):=by omega
      have Y:decide ((NL:Int)<0)=false:=by simp
      have V:decide ((LG:Int)<0)=false:=by simp
      have E:30+(NL:Int)+(LG:Int)<=(s.size:Int):=by omega
      have b5:IntKind.i64.wrap (30+(NL:Int))=30+(NL:Int):=by rw[a00];omega
      have b6:IntKind.i64.wrap (30+(NL:Int)+(LG:Int))=30+(NL:Int)+(LG:Int):=by rw[a00];omega
      have bs:(30+(NL:Int)).toNat=30+NL:=by omega
      have b0:(30+(NL:Int)+(LG:Int)).toNat=30+NL+LG:=by omega
      have b1:30<=30+(NL:Int):=by omega
      have b2:30+(NL:Int)<=30+(NL:Int)+(LG:Int):=by omega
      have b3:30+(NL:Int)<=(s.size:Int):=by omega
      have b4:decide ((s.size:Int)<30+(NL:Int)+(LG:Int))=false:=by simpa using E
      have bk:(cr:Int)<4294967296:=by omega
      clear q t B L H J al an ac ad bb a4 a1 a2 a3 a6 X U Z I a0 a5 ao a9 r;go_enter a2V,a2W;go_wp2_with fail;refine(ae l _).mono ?_;rintro e x1 ⟨rfl,hb⟩;have T1:=af ((ae T0).later hb);clear hb T0;go_wp2_with fail;refine(ae k _).mono ?_;rintro e x2 ⟨rfl,hb⟩;have T2:=af ((ae T1).later hb);clear hb T1;go_wp2_with fail;refine(ae u _).mono ?_;rintro e x3 ⟨rfl,hb⟩;have T3:=af ((ae T2).later hb);clear hb T2;go_wp2_with fail;refine(ae C _).mono ?_;rintro e x4 ⟨rfl,hb⟩;have T4:=af ((ae T3).later hb);clear hb T3;go_wp2_with fail;refine(ae M _).mono ?_;rintro e x5 ⟨rfl,hb⟩;have T5:=af ((ae T4).later hb);clear hb T4;go_wp2_with fail;refine(ae z _).mono ?_;rintro e x6 ⟨rfl,hb⟩;have T6:=af ((ae T5).later hb);clear hb T5;go_wp2_with fail;go_cut[8] (fun v wx=>∃A,v = .pointer (some ⟨A,0,none⟩)/\w.heap.size<A/\RdS w wx/\Blk wx A [.string NM,.int .i64 yy,.int .i64 mo,.int .i64 dd,.int .i64 hh,.int .i64 mi,.int .i64 ss,.string ⟨#[]⟩])
      case first=>
       refine a0H (S:=fun _=>True) o trivial (fun _=>?_);refine ag 0 (.string s) rfl (by kernel_rfl) (fun _ _ _ h=>h) rfl (fun W c=>by go_simp) trivial ?_;refine ag 1 (.int .i64 (NL:Nat)) rfl (by kernel_rfl) (fun _ _ _ h=>h) rfl (fun W c=>by go_simp) trivial ?_;refine ag 2 (.int .i64 (30+(NL:Int))) rfl (by kernel_rfl) (fun _ _ _ h=>h) rfl (fun W c=>by go_simp) trivial ?_;refine ag 3 (.string NM) rfl (by kernel_rfl) (fun _ _ _ h=>h) rfl (fun W c=>by go_simp) trivial ?_;refine ag 4 (.string s) rfl (by kernel_rfl) (fun _ _ _ h=>h) rfl (fun W c=>by go_simp) trivial ?_;have T7:=af (ae T6).drew;clear T6;generalize x6.drew=W7 at *
       refine a0z (rs:=[5,8]) (by kernel_rfl) (by simp) ?_;refine a0C rfl (fun K a=>?_) (a0C rfl (fun K a=>?_) (a0Y))
       .
        go_simp;go_at_call 68;refine(ae F W7).mono ?_;rintro e W8 ⟨rfl,g⟩;have T8:=af ((ae T7).later g);refine a0f a _ _ trivial (fun _=>?_);clear a K g T7;refine a0z (rs:=[6,8]) (by kernel_rfl) (by simp) ?_;refine a0C rfl (fun K a=>?_) (a0C rfl (fun K a=>?_) (a0Y))
        .
         go_simp;go_at_call 104;refine(ae CG W8).mono ?_;rintro e W9 ⟨rfl,g⟩;have T9:=af ((ae T8).later g);refine a0f a _ _ trivial (fun _=>?_);clear a K g T8;refine ag 7 (.agg #[.string NM,.int .i64 yy,.int .i64 mo,.int .i64 dd,.int .i64 hh,.int .i64 mi,.int .i64 ss,.string ⟨#[]⟩]) rfl (by kernel_rfl) (fun _ _ _ h=>h) rfl (fun W c=>by go_simp) trivial ?_;refine ah 8 (by kernel_rfl) rfl fun K a=>?_;go_simp;have g:Below W9.heap.size W9 (W9.alloc (.cells #[.string ⟨#[]⟩,.int .i64 0,.int .i64 0,.int .i64 0,.int .i64 0,.int .i64 0,.int .i64 0,.string ⟨#[]⟩] 32)):=(a0c _ _).alloc (a0a _) _;have T10:=af ((ae T9).later g);have i:Hid (Blk (W9.alloc (.cells #[.string ⟨#[]⟩,.int .i64 0,.int .i64 0,.int .i64 0,.int .i64 0,.int .i64 0,.int .i64 0,.string ⟨#[]⟩] 32)) W9.heap.size [.string ⟨#[]⟩,.int .i64 0,.int .i64 0,.int .i64 0,.int .i64 0,.int .i64 0,.int .i64 0,.string ⟨#[]⟩]):=aP _ _ _;have j:w.heap.size<W9.heap.size:=(ae T9).2.1;refine a0f a _ _ trivial (fun _=>?_);clear a K;obtain⟨A,hAe⟩:∃x,W9.heap.size=x:=⟨_,rfl⟩;obtain⟨W10,hW10⟩:∃x,W9.alloc (.cells #[.string ⟨#[]⟩,.int .i64 0,.int .i64 0,.int .i64 0,.int .i64 0,.int .i64 0,.int .i64 0,.string ⟨#[]⟩] 32)=x:=⟨_,rfl⟩;rw[hW10]at T10;rw[hAe,hW10]at i;rw[hAe]at j;rw[hAe,hW10];clear g hAe hW10 T9;refine ah 9 (by kernel_rfl) rfl fun K a=>?_;have aA:=(ae i).cells (n:=8) rfl;have fA:=(ae i).frees (n:=8) rfl;go_simp;have ZX:=af (tQ (ae T10).1 (a0y j) (ae i) (.string NM) (.int .i64 yy) (.int .i64 mo) (.int .i64 dd) (.int .i64 hh) (.int .i64 mi) (.int .i64 ss) (.string ⟨#[]⟩));have OX:=af (mR (ae T10).2 (a1N j) (.string NM) (.int .i64 yy) (.int .i64 mo) (.int .i64 dd) (.int .i64 hh) (.int .i64 mi) (.int .i64 ss) (.string ⟨#[]⟩));clear aA fA;refine a0f a _ _ trivial (fun _=>?_);clear a K;refine a0u (by kernel_rfl) ?_ _;go_wp2_with fail
         go_meet
         case rel=>exact⟨A,rfl,j,⟨(ae ZX).1,ae OX⟩,(ae ZX).2⟩
        .
         go_simp;have g:Below W8.heap.size W8 (W8.alloc (.cells #[.string ⟨#[]⟩,.int .i64 0,.int .i64 0,.int .i64 0,.int .i64 0,.int .i64 0,.int .i64 0,.string ⟨#[]⟩] 32)):=(a0c _ _).alloc (a0a _) _;have T9:=af ((ae T8).later g);have p:Hid (Blk (W8.alloc (.cells #[.string ⟨#[]⟩,.int .i64 0,.int .i64 0,.int .i64 0,.int .i64 0,.int .i64 0,.int .i64 0,.string ⟨#[]⟩] 32)) W8.heap.size [.string ⟨#[]⟩,.int .i64 0,.int .i64 0,.int .i64 0,.int .i64 0,.int .i64 0,.int .i64 0,.string ⟨#[]⟩]):=aP _ _ _;have j:w.heap.size<W8.heap.size:=(ae T8).2.1;refine a0f a _ _ trivial (fun _=>?_);clear a K;obtain⟨A,hAe⟩:∃x,W8.heap.size=x:=⟨_,rfl⟩;obtain⟨W9,hW9⟩:∃x,W8.alloc (.cells #[.string ⟨#[]⟩,.int .i64 0,.int .i64 0,.int .i64 0,.int .i64 0,.int .i64 0,.int .i64 0,.string ⟨#[]⟩] 32)=x:=⟨_,rfl⟩;rw[hW9]at T9;rw[hAe,hW9]at p;rw[hAe]at j;rw[hAe,hW9];clear g hAe hW9 T8;refine ah 6 (by kernel_rfl) rfl fun K a=>?_;go_simp;go_at_call 104;refine(ae CG W9).mono ?_;rintro e W10 ⟨rfl,g⟩;have T10:=af ((ae T9).later g);have i:=af ((ae p).later g (ae p).1);refine a0f a _ _ trivial (fun _=>?_);clear a K g T9 p;refine ag 7 (.agg #[.string NM,.int .i64 yy,.int .i64 mo,.int .i64 dd,.int .i64 hh,.int .i64 mi,.int .i64 ss,.string ⟨#[]⟩]) rfl (by kernel_rfl) (fun _ _ _ h=>h) rfl (fun W c=>by go_simp) trivial ?_;refine ah 9 (by kernel_rfl) rfl fun K a=>?_;have aA:=(ae i).cells (n:=8) rfl;have fA:=(ae i).frees (n:=8) rfl;go_simp;have ZX:=af (tQ (ae T10).1 (a0y j) (ae i) (.string NM) (.int .i64 yy) (.int .i64 mo) (.int .i64 dd) (.int .i64 hh) (.int .i64 mi) (.int .i64 ss) (.string ⟨#[]⟩));have OX:=af (mR (ae T10).2 (a1N j) (.string NM) (.int .i64 yy) (.int .i64 mo) (.int .i64 dd) (.int .i64 hh) (.int .i64 mi) (.int .i64 ss) (.string ⟨#[]⟩));clear aA fA;refine a0f a _ _ trivial (fun _=>?_);clear a K;refine a0u (by kernel_rfl) ?_ _;go_wp2_with fail
         go_meet
         case rel=>exact⟨A,rfl,j,⟨(ae ZX).1,ae OX⟩,(ae ZX).2⟩
       .
        go_simp;have g:Below W7.heap.size W7 (W7.alloc (.cells #[.string ⟨#[]⟩,.int .i64 0,.int .i64 0,.int .i64 0,.int .i64 0,.int .i64 0,.int .i64 0,.string ⟨#[]⟩] 32)):=(a0c _ _).alloc (a0a _) _;have T8:=af ((ae T7).later g);have y:Hid (Blk (W7.alloc (.cells #[.string ⟨#[]⟩,.int .i64 0,.int .i64 0,.int .i64 0,.int .i64 0,.int .i64 0,.int .i64 0,.string ⟨#[]⟩] 32)) W7.heap.size [.string ⟨#[]⟩,.int .i64 0,.int .i64 0,.int .i64 0,.int .i64 0,.int .i64 0,.int .i64 0,.string ⟨#[]⟩]):=aP _ _ _;have j:w.heap.size<W7.heap.size:=(ae T7).2.1;refine a0f a _ _ trivial (fun _=>?_);clear a K;obtain⟨A,hAe⟩:∃x,W7.heap.size=x:=⟨_,rfl⟩;obtain⟨W8,hW8⟩:∃x,W7.alloc (.cells #[.string ⟨#[]⟩,.int .i64 0,.int .i64 0,.int .i64 0,.int .i64 0,.int .i64 0,.int .i64 0,.string ⟨#[]⟩] 32)=x:=⟨_,rfl⟩;rw[hW8]at T8;rw[hAe,hW8]at y;rw[hAe]at j;rw[hAe,hW8];clear g hAe hW8 T7;refine ah 5 (by kernel_rfl) rfl fun K a=>?_;go_simp;go_at_call 68;refine(ae F W8).mono ?_;rintro e W9 ⟨rfl,g⟩;have T9:=af ((ae T8).later g);have p:=af ((ae y).later g (ae y).1);refine a0f a _ _ trivial (fun _=>?_);clear a K g T8 y;refine ah 6 (by kernel_rfl) rfl fun K a=>?_;go_simp;go_at_call 104;refine(ae CG W9).mono ?_;rintro e W10 ⟨rfl,g⟩;have T10:=af ((ae T9).later g);have i:=af ((ae p).later g (ae p).1);refine a0f a _ _ trivial (fun _=>?_);clear a K g T9 p;refine ag 7 (.agg #[.string NM,.int .i64 yy,.int .i64 mo,.int .i64 dd,.int .i64 hh,.int .i64 mi,.int .i64 ss,.string ⟨#[]⟩]) rfl (by kernel_rfl) (fun _ _ _ h=>h) rfl (fun W c=>by go_simp) trivial ?_;refine ah 9 (by kernel_rfl) rfl fun K a=>?_;have aA:=(ae i).cells (n:=8) rfl;have fA:=(ae i).frees (n:=8) rfl;go_simp;have ZX:=af (tQ (ae T10).1 (a0y j) (ae i) (.string NM) (.int .i64 yy) (.int .i64 mo) (.int .i64 dd) (.int .i64 hh) (.int .i64 mi) (.int .i64 ss) (.string ⟨#[]⟩));have OX:=af (mR (ae T10).2 (a1N j) (.string NM) (.int .i64 yy) (.int .i64 mo) (.int .i64 dd) (.int .i64 hh) (.int .i64 mi) (.int .i64 ss) (.string ⟨#[]⟩));clear aA fA;refine a0f a _ _ trivial (fun _=>?_);clear a K;refine a0u (by kernel_rfl) ?_ _;go_wp2_with fail
        go_meet
        case rel=>exact⟨A,rfl,j,⟨(ae ZX).1,ae OX⟩,(ae ZX).2⟩
      case rest=>
       obtain⟨A,rfl,j,TA',R⟩:=hcut;have TA:=af TA';have RA:=af R;clear TA' R T6;go_wp2_with fail;have c8:=fun d os=>Calls.regrown_of (w:=wc) (d:=d) (os:=os) (ae C8 _);have cT:=fun d os=>Calls.regrown_of (w:=wc) (d:=d) (os:=os) (ae CT _);refine wp_region_quiet_below o (by kernel_rfl) ?_;repeat (quiet_step (first|exact c8 _ _|exact cT _ _))
       refine a1p ?_;intro zw ba;obtain⟨⟨dq,osq⟩,aa⟩:=ba;have HZ:=below_regrown wc dq osq;rw[←aa]at HZ;have T7:=af ((ae TA).later HZ);have R7:=af ((ae RA).later HZ (ae RA).1);clear aa HZ c8 cT TA RA;have a7:=(ae R7).cell 7 _ rfl;have f7:=(ae R7).free 7 (by simp)
       go_upto_region 9 with fail
       have T8:=af ((ae T7).set j 7 (.string TX));have y:=af ((ae R7).set 7 (.string TX));clear a7 f7 T7 R7;generalize zw.setCell ⟨A,7,none⟩ (.string TX)=Z8 at *
       go_cut[10] (fun v wx=>v = .bool (OK&&(decide (CR=cr)&&decide (LN=TX.size)))/\RdS w wx/\Blk wx A [.string NM,.int .i64 yy,.int .i64 mo,.int .i64 dd,.int .i64 hh,.int .i64 mi,.int .i64 ss,.string TX])
       case first=>
        cases OK
        .
         go_wp2_with fail
         go_meet
         case rel=>exact⟨rfl,ae T8,ae y⟩
        .
         go_wp2_with fail;refine(ae O _).mono ?_;rintro e x9 ⟨rfl,hb⟩;have T9:=af ((ae T8).later hb);have p:=af ((ae y).later hb (ae y).1);clear hb T8 y;go_wp2_with fail;refine(ae CC _).mono ?_;rintro e x10 ⟨rfl,rfl⟩;by_cases k1:CR=cr
         .
          subst k1;go_wp2_with fail;refine(ae P _).mono ?_;rintro e x11 ⟨rfl,hb⟩;have T11:=af ((ae T9).later hb);have Q:=af ((ae p).later hb (ae p).1);clear hb T9 p;by_cases k2:LN=TX.size
          .
           have ab:(LN:Int)=(TX.size:Int):=by omega
           go_wp2_with fail
           go_meet
           case rel=>exact⟨by simp[k2],ae T11,ae Q⟩
          .
           have ab:¬ (LN:Int)=(TX.size:Int):=by omega
           go_wp2_with fail
           go_meet
           case rel=>exact⟨by simp[k2,ab],ae T11,ae Q⟩
         .
          have cc:¬ (CR:Int)=(cr:Int):=by omega
          go_wp2_with fail
          go_meet
          case rel=>exact⟨by simp[k1],ae T9,ae p⟩
       case rest=>
        obtain⟨rfl,TB',T⟩:=hcut;have TB:=af TB';have N:=af T;clear TB' T T8 y;have m:Hid (nR s=if ((OK&&(decide (CR=cr)&&decide (LN=TX.size)))&&EB)=true then .tuple #[.agg #[.string NM,.int .i64 yy,.int .i64 mo,.int .i64 dd,.int .i64 hh,.int .i64 mi,.int .i64 ss,.string TX],.int .i64 (30+(NL:Int)+(LG:Int)),.bool true]else .tuple #[noE,.int .i64 0,.bool false]):=by
         have:=ae HL;show _=_;rw[this,Int.natCast_add,Int.natCast_add]
         congr 1
        generalize (OK&&(decide (CR=cr)&&decide (LN=TX.size)))=OB at *
        go_wp2_with fail;cases OB
        .
         have m:=af (show nR s = .tuple #[noE,.int .i64 0,.bool false]from ae m);refine a0H (S:=fun W=>Blk W A [.string NM,.int .i64 yy,.int .i64 mo,.int .i64 dd,.int .i64 hh,.int .i64 mi,.int .i64 ss,.string TX]) o (ae N).drew (fun f=>?_);refine ag 0 (.agg #[.string NM,.int .i64 yy,.int .i64 mo,.int .i64 dd,.int .i64 hh,.int .i64 mi,.int .i64 ss,.string TX]) rfl (by kernel_rfl) (fun _ _ _ h=>h) rfl (fun W c=>by have sA:=Blk.cells c (n:=8) rfl;go_simp) f ?_;refine ag 1 (.int .i64 (NL:Nat)) rfl (by kernel_rfl) (fun _ _ _ h=>h) rfl (fun W c=>by go_simp) f ?_;refine ag 2 (.int .i64 (30+(NL:Int))) rfl (by kernel_rfl) (fun _ _ _ h=>h) rfl (fun W c=>by go_simp) f ?_;refine ag 3 (.int .i64 (LG:Nat)) rfl (by kernel_rfl) (fun _ _ _ h=>h) rfl (fun W c=>by go_simp) f ?_;refine ag 4 (.int .i64 (30+(NL:Int)+(LG:Int))) rfl (by kernel_rfl) (fun _ _ _ h=>h) rfl (fun W c=>by go_simp) f ?_;refine ag 5 (.bool false) rfl (by kernel_rfl) (fun _ _ _ h=>h) rfl (fun W c=>by go_simp) f ?_;refine ag 6 (.bool false) rfl (by kernel_rfl) (fun _ _ _ h=>h) rfl (fun W c=>by go_simp) f ?_;refine ah 7 (by kernel_rfl) rfl fun K a=>?_;go_simp;refine a0f a _ _ f (fun f=>?_);clear a K;refine ah 8 (by kernel_rfl) rfl fun K a=>?_;go_simp;refine a0f a _ _ f (fun f=>?_);clear a K;refine ag 9 (.bool false) rfl (by kernel_rfl) (fun _ _ _ h=>h) rfl (fun W c=>by go_simp) f ?_;have TD:=af (ae TB).drew;have RD:=af (ae N).drew;clear TB N;generalize wc.drew=V1 at *
         refine ah 10 (by kernel_rfl) rfl fun K a=>?_;have D:=(ae TD).2.cells (n:=8) rfl;have gA:=(ae TD).2.frees (n:=8) rfl;go_simp;have ZZ:=af (tQ (ae TD).1 (a0a _) (ae TD).2 (.string NM) (.int .i64 yy) (.int .i64 mo) (.int .i64 dd) (.int .i64 hh) (.int .i64 mi) (.int .i64 ss) (.string TX));have G:=af (mR (ae RD) (a14 j) (.string NM) (.int .i64 yy) (.int .i64 mo) (.int .i64 dd) (.int .i64 hh) (.int .i64 mi) (.int .i64 ss) (.string TX));clear D gA;refine a0f a _ _ (ae G) (fun f=>?_);clear a K;refine ah 11 (by kernel_rfl) rfl fun K a=>?_;go_simp;refine a0f a _ _ (ae G) (fun f=>?_);clear a K;refine ah 12 (by kernel_rfl) rfl fun K a=>?_;go_simp;refine a0f a _ _ (ae G) (fun f=>?_);clear a K;refine a0u (by kernel_rfl) ?_ _;go_wp2;have zA:=(ae ZZ).2.cells (n:=8) rfl;refine a0R (v:=.tuple #[.agg #[.string NM,.int .i64 yy,.int .i64 mo,.int .i64 dd,.int .i64 hh,.int .i64 mi,.int .i64 ss,.string TX],.int .i64 (30+(NL:Int)+(LG:Int)),.bool false]) (by simp[results,a2F,go_sem,zA]) rfl ⟨⟨_,_,_,_,_,_,_,_,_,_,rfl,?_⟩,(ae ZZ).1⟩;exact ae m
        .
         refine a0H (S:=fun W=>Blk W A [.string NM,.int .i64 yy,.int .i64 mo,.int .i64 dd,.int .i64 hh,.int .i64 mi,.int .i64 ss,.string TX]) o (ae N).drew (fun f=>?_);refine ag 0 (.agg #[.string NM,.int .i64 yy,.int .i64 mo,.int .i64 dd,.int .i64 hh,.int .i64 mi,.int .i64 ss,.string TX]) rfl (by kernel_rfl) (fun _ _ _ h=>h) rfl (fun W c=>by have sA:=Blk.cells c (n:=8) rfl;go_simp) f ?_;refine ag 1 (.int .i64 (NL:Nat)) rfl (by kernel_rfl) (fun _ _ _ h=>h) rfl (fun W c=>by go_simp) f ?_;refine ag 2 (.int .i64 (30+(NL:Int))) rfl (by kernel_rfl) (fun _ _ _ h=>h) rfl (fun W c=>by go_simp) f ?_;refine ag 3 (.int .i64 (LG:Nat)) rfl (by kernel_rfl) (fun _ _ _ h=>h) rfl (fun W c=>by go_simp) f ?_;refine ag 4 (.int .i64 (30+(NL:Int)+(LG:Int))) rfl (by kernel_rfl) (fun _ _ _ h=>h) rfl (fun W c=>by go_simp) f ?_;refine ag 5 (.bool true) rfl (by kernel_rfl) (fun _ _ _ h=>h) rfl (fun W c=>by go_simp) f ?_;refine ag 6 (.bool true) rfl (by kernel_rfl) (fun _ _ _ h=>h) rfl (fun W c=>by go_simp) f ?_;have sA:=Blk.cells f (n:=8) rfl;refine ah 7 (by kernel_rfl) rfl fun K a=>?_;go_simp;refine a0f a _ _ f (fun f=>?_);clear a K;clear sA;have TC:=af (ae TB).drew;have RC:=af (ae N).drew;clear TB N;generalize wc.drew=V0 at *
         refine ah 8 (by kernel_rfl) rfl fun K a=>?_;go_simp;go_at_call 101;refine(ae CE V0).mono ?_;rintro e V1 ⟨rfl,g⟩;have TD:=af ((ae TC).later g);have RD:=af ((ae RC).later g (ae RC).1);refine a0f a _ _ (ae RD) (fun f=>?_);clear a K g TC RC;refine ag 9 (.bool EB) rfl (by kernel_rfl) (fun _ _ _ h=>h) rfl (fun W c=>by go_simp) f ?_;refine ah 10 (by kernel_rfl) rfl fun K a=>?_;have D:=(ae TD).2.cells (n:=8) rfl;have gA:=(ae TD).2.frees (n:=8) rfl;go_simp;have ZZ:=af (tQ (ae TD).1 (a0a _) (ae TD).2 (.string NM) (.int .i64 yy) (.int .i64 mo) (.int .i64 dd) (.int .i64 hh) (.int .i64 mi) (.int .i64 ss) (.string TX));have G:=af (mR (ae RD) (a14 j) (.string NM) (.int .i64 yy) (.int .i64 mo) (.int .i64 dd) (.int .i64 hh) (.int .i64 mi) (.int .i64 ss) (.string TX));clear D gA;refine a0f a _ _ (ae G) (fun f=>?_);clear a K;refine ah 11 (by kernel_rfl) rfl fun K a=>?_;go_simp;refine a0f a _ _ (ae G) (fun f=>?_);clear a K;refine ah 12 (by kernel_rfl) rfl fun K a=>?_;go_simp;refine a0f a _ _ (ae G) (fun f=>?_);clear a K;refine a0u (by kernel_rfl) ?_ _;go_wp2;have zA:=(ae ZZ).2.cells (n:=8) rfl;refine a0R (v:=.tuple #[.agg #[.string NM,.int .i64 yy,.int .i64 mo,.int .i64 dd,.int .i64 hh,.int .i64 mi,.int .i64 ss,.string TX],.int .i64 (30+(NL:Int)+(LG:Int)),.bool EB]) (by simp[results,a2F,go_sem,zA]) rfl ⟨⟨_,_,_,_,_,_,_,_,_,_,rfl,?_⟩,(ae ZZ).1⟩;exact ae m
     .
      have m:=af (Ns (s:=s) r);generalize wd s.data.toList 26 2=NL at *
      generalize wd s.data.toList 18 4=LG at *
      have be:(NL:Int)<65536:=by omega
      have bc:(LG:Int)<4294967296:=by omega
      have Y:decide ((NL:Int)<0)=false:=by simp
      have V:decide ((LG:Int)<0)=false:=by simp
      have E:(s.size:Int)<30+(NL:Int)+(LG:Int):=by omega
      clear q t B L H J r X U Z I;go_enter a2V,a2W;go_wp2_with fail;refine(ae l _).mono ?_;rintro e x1 ⟨rfl,hb⟩;have T1:=af ((ae T0).later hb);clear hb T0;go_wp2_with fail;refine(ae k _).mono ?_;rintro e x2 ⟨rfl,hb⟩;have T2:=af ((ae T1).later hb);clear hb T1;go_wp2_with fail;refine(ae u _).mono ?_;rintro e x3 ⟨rfl,hb⟩;have T3:=af ((ae T2).later hb);clear hb T2;go_wp2_with fail;refine(ae C _).mono ?_;rintro e x4 ⟨rfl,hb⟩;have T4:=af ((ae T3).later hb);clear hb T3;go_wp2_with fail;refine(ae M _).mono ?_;rintro e x5 ⟨rfl,hb⟩;have T5:=af ((ae T4).later hb);clear hb T4;go_wp2_with fail;refine(ae z _).mono ?_;rintro e x6 ⟨rfl,hb⟩;have T6:=af ((ae T5).later hb);clear hb T5;have D:=(ae T6).2.cells (n:=8) rfl;have gA:=(ae T6).2.frees (n:=8) rfl;have ZZ:=af (tQ (ae T6).1 (a0a _) (ae T6).2 (.string ⟨#[]⟩) (.int .i64 0) (.int .i64 0) (.int .i64 0) (.int .i64 0) (.int .i64 0) (.int .i64 0) (.string ⟨#[]⟩));go_wp2;have zA:=(ae ZZ).2.cells (n:=8) rfl;refine a0R (v:=.tuple #[.agg #[.string ⟨#[]⟩,.int .i64 0,.int .i64 0,.int .i64 0,.int .i64 0,.int .i64 0,.int .i64 0,.string ⟨#[]⟩],.int .i64 0,.bool false]) (by simp[results,a2F,go_sem,zA]) rfl ⟨⟨_,_,_,_,_,_,_,_,_,_,rfl,ae m⟩,(ae ZZ).1⟩
    .
     have m:=af (qJ (s:=s) (fun h=>L h.2.2.2));rw[q]at u;rw[t]at C;rw[B]at M;clear q t B;have qb:(da s 28 2 == 0)=false:=by simpa using L
     clear L;generalize da s 28 2=i3 at *
     generalize da s 26 2=i26 at *
     generalize da s 18 4=i18 at *
     go_enter a2V,a2W;go_wp2_with fail;refine(ae l _).mono ?_;rintro e x1 ⟨rfl,hb⟩;have T1:=af ((ae T0).later hb);clear hb T0;go_wp2_with fail;refine(ae k _).mono ?_;rintro e x2 ⟨rfl,hb⟩;have T2:=af ((ae T1).later hb);clear hb T1;go_wp2_with fail;refine(ae u _).mono ?_;rintro e x3 ⟨rfl,hb⟩;have T3:=af ((ae T2).later hb);clear hb T2;go_wp2_with fail;refine(ae C _).mono ?_;rintro e x4 ⟨rfl,hb⟩;have T4:=af ((ae T3).later hb);clear hb T3;go_wp2_with fail;refine(ae M _).mono ?_;rintro e x5 ⟨rfl,hb⟩;have T5:=af ((ae T4).later hb);clear hb T4;go_wp2_with fail;refine(ae z _).mono ?_;rintro e x6 ⟨rfl,hb⟩;have T6:=af ((ae T5).later hb);clear hb T5;have D:=(ae T6).2.cells (n:=8) rfl;have gA:=(ae T6).2.frees (n:=8) rfl;have ZZ:=af (tQ (ae T6).1 (a0a _) (ae T6).2 (.string ⟨#[]⟩) (.int .i64 0) (.int .i64 0) (.int .i64 0) (.int .i64 0) (.int .i64 0) (.int .i64 0) (.string ⟨#[]⟩));go_wp2;have zA:=(ae ZZ).2.cells (n:=8) rfl;refine a0R (v:=.tuple #[.agg #[.string ⟨#[]⟩,.int .i64 0,.int .i64 0,.int .i64 0,.int .i64 0,.int .i64 0,.int .i64 0,.string ⟨#[]⟩],.int .i64 0,.bool false]) (by simp[results,a2F,go_sem,zA]) rfl ⟨⟨_,_,_,_,_,_,_,_,_,_,rfl,ae m⟩,(ae ZZ).1⟩
   .
    have m:=af (qJ (s:=s) (fun h=>B h.2.2.1));rw[q]at u;rw[t]at C;clear q t;have qb:(da s 6 2 == 0)=false:=by simpa using B
    clear B;generalize da s 6 2=i2 at *
    generalize da s 26 2=i26 at *
    generalize da s 18 4=i18 at *
    go_enter a2V,a2W;go_wp2_with fail;refine(ae l _).mono ?_;rintro e x1 ⟨rfl,hb⟩;have T1:=af ((ae T0).later hb);clear hb T0;go_wp2_with fail;refine(ae k _).mono ?_;rintro e x2 ⟨rfl,hb⟩;have T2:=af ((ae T1).later hb);clear hb T1;go_wp2_with fail;refine(ae u _).mono ?_;rintro e x3 ⟨rfl,hb⟩;have T3:=af ((ae T2).later hb);clear hb T2;go_wp2_with fail;refine(ae C _).mono ?_;rintro e x4 ⟨rfl,hb⟩;have T4:=af ((ae T3).later hb);clear hb T3;go_wp2_with fail;refine(ae M _).mono ?_;rintro e x5 ⟨rfl,hb⟩;have T5:=af ((ae T4).later hb);clear hb T4;have D:=(ae T5).2.cells (n:=8) rfl;have gA:=(ae T5).2.frees (n:=8) rfl;have ZZ:=af (tQ (ae T5).1 (a0a _) (ae T5).2 (.string ⟨#[]⟩) (.int .i64 0) (.int .i64 0) (.int .i64 0) (.int .i64 0) (.int .i64 0) (.int .i64 0) (.string ⟨#[]⟩));go_wp2;have zA:=(ae ZZ).2.cells (n:=8) rfl;refine a0R (v:=.tuple #[.agg #[.string ⟨#[]⟩,.int .i64 0,.int .i64 0,.int .i64 0,.int .i64 0,.int .i64 0,.int .i64 0,.string ⟨#[]⟩],.int .i64 0,.bool false]) (by simp[results,a2F,go_sem,zA]) rfl ⟨⟨_,_,_,_,_,_,_,_,_,_,rfl,ae m⟩,(ae ZZ).1⟩
  .
   have m:=af (qJ (s:=s) (fun h=>t h.2.1));rw[q]at u;clear q;have qb:(da s 4 2 == 20)=false:=by simpa using t
   clear t;generalize da s 4 2=i1 at *
   generalize da s 26 2=i26 at *
   generalize da s 18 4=i18 at *
   go_enter a2V,a2W;go_wp2_with fail;refine(ae l _).mono ?_;rintro e x1 ⟨rfl,hb⟩;have T1:=af ((ae T0).later hb);clear hb T0;go_wp2_with fail;refine(ae k _).mono ?_;rintro e x2 ⟨rfl,hb⟩;have T2:=af ((ae T1).later hb);clear hb T1;go_wp2_with fail;refine(ae u _).mono ?_;rintro e x3 ⟨rfl,hb⟩;have T3:=af ((ae T2).later hb);clear hb T2;go_wp2_with fail;refine(ae C _).mono ?_;rintro e x4 ⟨rfl,hb⟩;have T4:=af ((ae T3).later hb);clear hb T3;have D:=(ae T4).2.cells (n:=8) rfl;have gA:=(ae T4).2.frees (n:=8) rfl;have ZZ:=af (tQ (ae T4).1 (a0a _) (ae T4).2 (.string ⟨#[]⟩) (.int .i64 0) (.int .i64 0) (.int .i64 0) (.int .i64 0) (.int .i64 0) (.int .i64 0) (.string ⟨#[]⟩));go_wp2;have zA:=(ae ZZ).2.cells (n:=8) rfl;refine a0R (v:=.tuple #[.agg #[.string ⟨#[]⟩,.int .i64 0,.int .i64 0,.int .i64 0,.int .i64 0,.int .i64 0,.int .i64 0,.string ⟨#[]⟩],.int .i64 0,.bool false]) (by simp[results,a2F,go_sem,zA]) rfl ⟨⟨_,_,_,_,_,_,_,_,_,_,rfl,ae m⟩,(ae ZZ).1⟩
 .
  have m:=af (qJ (s:=s) (fun h=>q h.1));have qb:(da s 0 4 == 67324752)=false:=by simpa using q
  clear q;generalize da s 0 4=i0 at *
  generalize da s 26 2=i26 at *
  generalize da s 18 4=i18 at *
  go_enter a2V,a2W;go_wp2_with fail;refine(ae l _).mono ?_;rintro e x1 ⟨rfl,hb⟩;have T1:=af ((ae T0).later hb);clear hb T0;go_wp2_with fail;refine(ae k _).mono ?_;rintro e x2 ⟨rfl,hb⟩;have T2:=af ((ae T1).later hb);clear hb T1;go_wp2_with fail;refine(ae u _).mono ?_;rintro e x3 ⟨rfl,hb⟩;have T3:=af ((ae T2).later hb);clear hb T2;have D:=(ae T3).2.cells (n:=8) rfl;have gA:=(ae T3).2.frees (n:=8) rfl;have ZZ:=af (tQ (ae T3).1 (a0a _) (ae T3).2 (.string ⟨#[]⟩) (.int .i64 0) (.int .i64 0) (.int .i64 0) (.int .i64 0) (.int .i64 0) (.int .i64 0) (.string ⟨#[]⟩));go_wp2;have zA:=(ae ZZ).2.cells (n:=8) rfl;refine a0R (v:=.tuple #[.agg #[.string ⟨#[]⟩,.int .i64 0,.int .i64 0,.int .i64 0,.int .i64 0,.int .i64 0,.int .i64 0,.string ⟨#[]⟩],.int .i64 0,.bool false]) (by simp[results,a2F,go_sem,zA]) rfl ⟨⟨_,_,_,_,_,_,_,_,_,_,rfl,ae m⟩,(ae ZZ).1⟩
def Wds(W:World)(B g c:Nat)(s:ByteArray):Prop:=Blk W B [.slice (some ⟨g,0,none⟩) 15 c]/\g<W.heap.size/\∀j,j<15->W.cell? ⟨g,j,none⟩=some (.int .i64 ((wd s.data.toList (2*j) 2:Nat):Int))
theorem Wds.later(h:Wds W B g c s)(hb:Below W.heap.size W W'):Wds W' B g c s:=
 ⟨h.1.later hb h.1.1,a0i h.2.1 hb.size,fun j a=>(hb.cell (p:=⟨g,j,none⟩) h.2.1).trans (h.2.2 j a)⟩
theorem Wds.drew(h:Wds W B g c s):Wds W.drew B g c s:=h
theorem Wds.set(h:Wds W B g c s)(a:B≠A)(h2:g≠A)(o:Nat)(v:Value):Wds (W.setCell ⟨A,o,none⟩ v) B g c s:=
 ⟨h.1.set_other v a,by simpa using h.2.1,fun j b=>(World.cell?_of_block (w:=W) (a0T W ⟨A,o,none⟩ v g h2)).trans (h.2.2 j b)⟩
theorem NX{x y:Nat}(a:x<65536)(b:y<65536):bits .or .i64 (x:Int) ((y:Int)*65536)=((x+65536*y:Nat):Int):=by
 rw[I8 16 (x:Int) ((y:Int)*65536) (by omega) (by omega) (by omega) (by omega) (by omega) (by omega)];omega
theorem jS(k B g c:Nat)(s:ByteArray)(w:World)(h:Wds w B g c s)(j:k+1<15)(a:30<=s.size) :
  CD 116 #[.int .i64 (k:Int),.pointer (some ⟨B,0,none⟩)] w (.int .i64 ((wd s.data.toList (2*k) 4:Nat):Int)):=by
 have c1:=h.1.cell 0 _ rfl;have c2:=h.2.2 k (by omega);have c3:=h.2.2 (k+1) j;have m:(k:Int)+1<15:=by omega
 have l:0<=(k:Int)+1:=by omega
 have b:=gJ s.data.toList (2*k);have d:=gJ s.data.toList (2*(k+1));have e:Hid (∀a:2*k+2<=s.data.toList.length,wd s.data.toList (2*k) 4=wd s.data.toList (2*k) 2+65536*wd s.data.toList (2*(k+1)) 2):=fun a=>Od a;generalize wd s.data.toList (2*k) 2=X at *
 generalize wd s.data.toList (2*(k+1)) 2=Y at *
 have f:=af (NX b d);have i:(Y:Int)<65536:=by omega
 clear h b d;go_enter func116,ntmps116;go_wp2_with fail
 go_quiet (fail)
 go_wp2;go_ret;exact⟨aO (by rw[ae f,ae e (by simp;omega)]),below_drewN (a0c _ _) _⟩
theorem jX(s:ByteArray)(w:World)(b:s.size<=281474976710656) :
  CD 65 #[.string s] w (.string s):=by
 go_enter func65,ntmps65;go_wp2_with fail;refine(Tryz.stringslite_Clone s _ b).mono ?_;rintro e x1 ⟨rfl,a⟩;go_wp2;go_ret;exact⟨rfl,a⟩
def uxT(how:Nat)(b:ByteArray):ByteArray:=if how=0∨how=8 then txT how b else⟨#[]⟩
theorem zO(hb:b.size<=1048576):(uxT how b).size<=1048576:=by
 unfold uxT
 split
 . exact zI hb
 . exact a0h _
theorem Nu(h:txO how b=true):uxT how b=txT how b:=by
 unfold uxT;rw[a0e];unfold txO pB at h;by_cases a:how=0
 . exact .inl a
 .
  rw[a0d a]at h;by_cases c:how=8
  . exact .inr c
  . rw[a0d c]at h;cases h
theorem EV(how:Nat)(st j x lg:Int)(nm b:ByteArray)(w:World)(hb:b.size<=1048576)(s:how<65536)(k:fP w) :
  CD 117 #[.agg #[.int .i64 (how:Int),.int .i64 st,.int .i64 j,.int .i64 x,.int .i64 lg,.string nm,.string b]] w (.tuple #[.string (uxT how b),.bool (txO how b)]):=by
 have h:prog.follows .mixedOrders=true:=by kernel_rfl
 have n:=af ((a0c w.heap.size w).alloc (a0a _) (.cells #[.int .i64 (how:Int),.int .i64 st,.int .i64 j,.int .i64 x,.int .i64 lg,.string nm,.string b] 63));have p:=af (aP w #[.int .i64 (how:Int),.int .i64 st,.int .i64 j,.int .i64 x,.int .i64 lg,.string nm,.string b] 63);have D:(how:Int)<65536:=by omega
 by_cases g:how=0
 .
  subst g;have e1:uxT 0 b=b:=by simp[uxT,txT]
  have e2:txO 0 b=true:=by simp[txO,pB]
  rw[e1,e2];have A:=af (fun W=>jX b W (by omega));clear k hb s e1 e2;go_enter a3W,a3X;go_wp2_with fail;refine(ae A _).mono ?_;rintro e x1 ⟨rfl,a⟩;have c:=af (am (ae n) a);clear a;go_wp2
  go_ret2
  exact⟨rfl,ae c⟩
 .
  by_cases r:how=8
  .
   subst r;have m:=af (fun W (k:fP W)=>oL b W (by omega) k);have y:=af (k.later (ae n));rcases f:dN b with _|⟨T,q⟩
   .
    have e1:uxT 8 b=⟨#[]⟩:=by simp[uxT,txT,f]
    have e2:txO 8 b=false:=by simp[txO,pB,f]
    rw[f]at m;rw[e1,e2];simp only[oJ]at m;clear hb s f e1 e2 g k;go_enter a3W,a3X;go_wp2_with fail;refine(ae m _ (ae y)).mono ?_;rintro e x1 ⟨rfl,a⟩;have c:=af (am (ae n) a);have o:=((ae p).later a (ae p).1).cell 6 _ rfl;clear a;go_wp2_with fail;have v:=cell_regrown o;refine wp_region_quiet_below h (by kernel_rfl) ?_;repeat (quiet_step (fail))
    refine a1p ?_;intro zw l;obtain⟨⟨u,osq⟩,d⟩:=l;have i:=below_regrown x1 u osq;rw[←d]at i;have t:=af (am (ae c) i);clear d i v o;go_wp2
    go_ret2
    exact⟨rfl,ae t⟩
   .
    obtain⟨E,hq⟩:=oI f;have e1:uxT 8 b=⟨T.toArray⟩:=by simp[uxT,txT,f]
    have e2:txO 8 b=decide (((q/8:Nat):Int)=(b.size:Int)):=by
     unfold txO pB;rw[a0d g,a0e rfl,f];by_cases z:q/8=b.size
     . rw[a0w (by omega)];simp[z]
     . rw[a0j (by omega)];simp[z]
    rw[f]at m;rw[e1,e2];simp only[oJ]at m;clear hb s f e1 e2 g hq k;generalize (⟨T.toArray⟩:ByteArray)=X at *
    generalize q/8=q8 at *
    go_enter a3W,a3X;go_wp2_with fail;refine(ae m _ (ae y)).mono ?_;rintro e x1 ⟨rfl,a⟩;have c:=af (am (ae n) a);have o:=((ae p).later a (ae p).1).cell 6 _ rfl;clear a;go_wp2_with fail;have v:=cell_regrown o;refine wp_region_quiet_below h (by kernel_rfl) ?_;repeat (quiet_step (fail))
    refine a1p ?_;intro zw l;obtain⟨⟨u,osq⟩,d⟩:=l;have i:=below_regrown x1 u osq;rw[←d]at i;have t:=af (am (ae c) i);clear d i v o;go_wp2
    go_ret2
    exact⟨rfl,ae t⟩
  .
   have C:((how:Int) == 8)=false:=by simp;omega
   have B:((how:Int) == 0)=false:=by simp[g]
   have e1:uxT how b=⟨#[]⟩:=by simp[uxT,g,r]
   have e2:txO how b=false:=by simp[txO,pB,g,r]
   rw[e1,e2];clear hb s e1 e2 g r k;go_enter a3W,a3X;go_wp2
   go_ret2
   exact⟨rfl,ae n⟩
def HgS(w W:World):Prop:=Below w.heap.size w W/\Blk W w.heap.size [.int .i64 0,.int .i64 0,.int .i64 0,.int .i64 0,.int .i64 0,.string ⟨#[]⟩,.string ⟨#[]⟩]
theorem HgS.later(k:HgS w W)(hb:Below W.heap.size W W'):HgS w W':=⟨am k.1 hb,k.2.later hb k.2.1⟩
theorem HgS.drew(k:HgS w W):HgS w W.drew:=⟨k.1.drew,k.2.drew⟩
theorem HgS.set(k:HgS w W)(a:w.heap.size<A)(o:Nat)(v:Value):HgS w (W.setCell ⟨A,o,none⟩ v):=⟨ap k.1 (a0y a) _,k.2.set_other v (by omega)⟩
theorem HgS.set6(k:HgS w W)(a:w.heap.size<A)(a0 a1 a2 a3 a4 a5:Value):HgS w ((((((W.setCell ⟨A,0,none⟩ a0).setCell ⟨A,1,none⟩ a1).setCell ⟨A,2,none⟩ a2).setCell ⟨A,3,none⟩ a3).setCell ⟨A,4,none⟩ a4).setCell ⟨A,5,none⟩ a5):=((((((k.set a 0 a0).set a 1 a1).set a 2 a2).set a 3 a3).set a 4 a4).set a 5 a5)
theorem HgS.set7(k:HgS w W)(a:w.heap.size<A)(a0 a1 a2 a3 a4 a5 a6:Value):HgS w (((((((W.setCell ⟨A,0,none⟩ a0).setCell ⟨A,1,none⟩ a1).setCell ⟨A,2,none⟩ a2).setCell ⟨A,3,none⟩ a3).setCell ⟨A,4,none⟩ a4).setCell ⟨A,5,none⟩ a5).setCell ⟨A,6,none⟩ a6):=(((((((k.set a 0 a0).set a 1 a1).set a 2 a2).set a 3 a3).set a 4 a4).set a 5 a5).set a 6 a6)
theorem Wds.set6(h:Wds W B g c s)(a:B≠A)(h2:g≠A)(a0 a1 a2 a3 a4 a5:Value):Wds ((((((W.setCell ⟨A,0,none⟩ a0).setCell ⟨A,1,none⟩ a1).setCell ⟨A,2,none⟩ a2).setCell ⟨A,3,none⟩ a3).setCell ⟨A,4,none⟩ a4).setCell ⟨A,5,none⟩ a5) B g c s:=((((((h.set a h2 0 a0).set a h2 1 a1).set a h2 2 a2).set a h2 3 a3).set a h2 4 a4).set a h2 5 a5)
def Flo(w W:World)(z:List Value)(o:Option Nat)(E:World->Prop)(N:Nat->Prop):Prop:=HgS w W/\E W/\(∀V V':World,Below V.heap.size V V'->E V->E V')/\∀A,o=some A->w.heap.size<A/\N A/\Blk W A z
theorem Flo.call{o:Option Nat}{E':World->Prop}{N':Nat->Prop}(h:Flo w W z o E N)(b:Below W.heap.size W W')(e:E' W')(m:∀V V':World,Below V.heap.size V V'->E' V->E' V')(n:∀A,N A->A<W.heap.size->N' A):Flo w W' z o E' N':=
 ⟨h.1.later b,e,m,fun A q=>have r:=h.2.2.2 A q; ⟨r.1,n A r.2.1 r.2.2.1,r.2.2.later b r.2.2.1⟩⟩
theorem Flo.later{o:Option Nat}(h:Flo w W z o E N)(b:Below W.heap.size W W'):Flo w W' z o E N:=h.call b (h.2.2.1 _ _ b h.2.1) h.2.2.1 (fun _ k _=>k)
theorem Flo.lay(h:Flo w W z none E N)(n:N W.heap.size)(u:TypeId):Flo w (W.alloc (.cells z.toArray u)) z (some W.heap.size) E N:=
 have b:Below W.heap.size W (W.alloc (.cells z.toArray u)):=(a0c _ _).alloc (a0a _) _
 ⟨h.1.later b,h.2.2.1 _ _ b h.2.1,h.2.2.1,fun A q=>by
  obtain rfl:=a0Z q;exact⟨h.1.2.1,n,aP W z.toArray u⟩⟩
theorem Mv(h:g<W.heap.size/\∀j,j<15->W.cell? ⟨g,j,none⟩=some (.int .i64 ((wd s.data.toList (2*j) 2:Nat):Int)))(a:g≠A)(o:Nat)(v:Value):g<(W.setCell ⟨A,o,none⟩ v).heap.size/\∀j,j<15->(W.setCell ⟨A,o,none⟩ v).cell? ⟨g,j,none⟩=some (.int .i64 ((wd s.data.toList (2*j) 2:Nat):Int)):=
 ⟨by simpa using h.1,fun j b=>(World.cell?_of_block (w:=W) (a0T W ⟨A,o,none⟩ v g a)).trans (h.2 j b)⟩
theorem vT(s:ByteArray)(a:Option Addr)(w:World)(h:bn w a (List.replicate 15 16))(f:30<=s.size) :
  Calls prog 114 #[.string (s.extract 0 30),.slice a 15 15] w fun e w'=>∃g c,e = .returned (.tuple #[.slice (some ⟨g,0,none⟩) 15 c,.bool true])/\(w.heap.size<=g/\g<w'.heap.size)/\(∀j,j<15->w'.cell? ⟨g,j,none⟩=some (.int .i64 ((wd s.data.toList (2*j) 2:Nat):Int)))/\Below w.heap.size w w':=by
 have e0:(s.extract 0 30).data.toList=s.data.toList.take 30:=by rw[ext_list,a17]
 have i:30<=s.data.toList.length:=by simpa using f
 have m:(s.extract 0 30).size<=2000000:=by rw[a2f];omega
 refine(qw (s.extract 0 30) a 15 (List.replicate 15 16) w h m (by simp)).mono ?_;rintro e w' ⟨v,rfl,d,hb⟩;rw[e0]at d;rw[e0,vU i];have k:=Il i;obtain⟨b,c,rfl⟩:=d.formN k;obtain⟨g,rfl⟩:=d.somes (by rw[k];decide);refine⟨g,c,rfl,d.below,fun j l=>?_,hb⟩;have:=(d.at k l).1;rw[AP i j l]at this;exact this
def HgO(s:ByteArray)(a b c d f:Nat)(n t:ByteArray):Prop:=a<65536/\b<4294967296/\c<4294967296/\d<4294967296/\f<4294967296/\n.size<=s.size/\t.size<=s.size
def HgP(s:ByteArray)(e:Ending):Prop:=
 (hdB s=true/\e = .returned (.tuple #[.agg #[.int .i64 (wd s.data.toList 8 2:Nat),.int .i64 (wd s.data.toList 10 4:Nat),.int .i64 (wd s.data.toList 14 4:Nat),.int .i64 (wd s.data.toList 18 4:Nat),.int .i64 (wd s.data.toList 22 4:Nat),.string (nmB s),.string (bdB s)],.bool true])) ∨
 (hdB s=false/\∃(a b c d f:Nat) (n t:ByteArray),HgO s a b c d f n t/\e = .returned (.tuple #[.agg #[.int .i64 (a:Nat),.int .i64 (b:Nat),.int .i64 (c:Nat),.int .i64 (d:Nat),.int .i64 (f:Nat),.string n,.string t],.bool false]))
theorem Ip(h:hdB s=false)(a b c d f:Nat)(n t:ByteArray)(k:HgO s a b c d f n t):HgP s (.returned (.tuple #[.agg #[.int .i64 (a:Nat),.int .i64 (b:Nat),.int .i64 (c:Nat),.int .i64 (d:Nat),.int .i64 (f:Nat),.string n,.string t],.bool false])):=.inr ⟨h,a,b,c,d,f,n,t,k,rfl⟩
theorem xO: HgO s 0 0 0 0 0 ⟨#[]⟩ ⟨#[]⟩:=⟨by decide,by decide,by decide,by decide,by decide,a0h _,a0h _⟩
theorem oW(s:ByteArray)(w:World)(hs:s.size<=1048576) :
  Calls prog 78 #[.string s] w fun e w'=>HgP s e/\Below w.heap.size w w':=by
 have q:prog.follows .mixedOrders=true:=by kernel_rfl
 have b2:(s.size:Int)<=1048576:=by omega
 have T0:Hid (HgS w (w.alloc (.cells #[.int .i64 0,.int .i64 0,.int .i64 0,.int .i64 0,.int .i64 0,.string ⟨#[]⟩,.string ⟨#[]⟩] 63))):=⟨(a0c _ _).alloc (a0a _) _,aP w #[.int .i64 0,.int .i64 0,.int .i64 0,.int .i64 0,.int .i64 0,.string ⟨#[]⟩,.string ⟨#[]⟩] 63⟩;by_cases y:30<=s.size
 .
  have ao:s.extract 0 30=s.extract 0 30:=rfl;obtain⟨HD,hHD⟩:∃x,s.extract 0 30=x:=⟨_,rfl⟩;have N:Hid (∀J W,W.cell? ⟨J,0,none⟩=some (.int .i64 16)->Calls prog 115 #[.slice (some ⟨J,0,none⟩) 1 1,.int .i64 15] W fun e w'=>e = .returned (.slice (some ⟨W.heap.size,0,none⟩) 15 15)/\ax w' W.heap.size (.slice (some ⟨W.heap.size,0,none⟩) 15 15) (List.replicate 15 16)/\Below W.heap.size W w'):=fun J W h=>mV 16 15 1 J 0 W h (by omega) (by omega);have CB:Hid (∀a W,bn W a (List.replicate 15 16)->Calls prog 114 #[.string HD,.slice a 15 15] W fun e w'=>∃g c,e = .returned (.tuple #[.slice (some ⟨g,0,none⟩) 15 c,.bool true])/\(W.heap.size<=g/\g<w'.heap.size)/\(∀j,j<15->w'.cell? ⟨g,j,none⟩=some (.int .i64 ((wd s.data.toList (2*j) 2:Nat):Int)))/\Below W.heap.size W w'):=by rw[←hHD];exact fun a W h=>vT s a W h y
  obtain⟨HW,hHW⟩:∃x,wd s.data.toList 8 2=x:=⟨_,rfl⟩;obtain⟨ST,hST⟩:∃x,wd s.data.toList 10 4=x:=⟨_,rfl⟩;obtain⟨CR,hCR⟩:∃x,wd s.data.toList 14 4=x:=⟨_,rfl⟩;obtain⟨PK,hPK⟩:∃x,wd s.data.toList 18 4=x:=⟨_,rfl⟩;obtain⟨LN,hLN⟩:∃x,wd s.data.toList 22 4=x:=⟨_,rfl⟩;obtain⟨NL,hNL⟩:∃x,wd s.data.toList 26 2=x:=⟨_,rfl⟩;have i:=af (a0b hHW (a0b hST (a0b hCR (a0b hPK (a0b hLN hNL)))));have lHW:HW<65536:=by rw[←hHW];exact gJ _ _
  have lST:ST<4294967296:=by rw[←hST];exact dQ _ _
  have lCR:CR<4294967296:=by rw[←hCR];exact dQ _ _
  have lPK:PK<4294967296:=by rw[←hPK];exact dQ _ _
  have lLN:LN<4294967296:=by rw[←hLN];exact dQ _ _
  have lNL:NL<65536:=by rw[←hNL];exact gJ _ _
  have Y:30<=(s.size:Int):=by omega
  have a4:decide ((s.size:Int)<30)=false:=by simp;omega
  have r:=af (a0b lHW (a0b lST (a0b lCR (a0b lPK (a0b lLN lNL)))));have a5:(NL:Int)<65536:=by omega
  have a6:(PK:Int)<4294967296:=by omega
  have t:=af y;clear hHW hST hCR hPK hLN hNL lHW lST lCR lPK lLN lNL y ao;go_enter func78,ntmps78;go_wp2_with fail;go_cut[4,5] (fun v u wx=>(∃B g c,v = .pointer (some ⟨B,0,none⟩)/\w.heap.size<B/\w.heap.size<g/\HgS w wx/\Wds wx B g c s)/\u = .bool true)
  case first=>
   obtain⟨W0,hW0⟩:∃x,w.alloc (.cells #[.int .i64 0,.int .i64 0,.int .i64 0,.int .i64 0,.int .i64 0,.string ⟨#[]⟩,.string ⟨#[]⟩] 63)=x:=⟨_,rfl⟩;rw[hW0]at T0;rw[hW0];clear hW0;refine a0H (S:=fun _=>True) q trivial (fun _=>?_);refine ag 0 (.string s) rfl (by kernel_rfl) (fun _ _ _ h=>h) rfl (fun W d=>by go_simp) trivial ?_;refine ag 1 (.string HD) rfl (by kernel_rfl) (fun _ _ _ h=>h) rfl (fun W d=>by go_simp) trivial ?_;have T1:=af (ae T0).drew;clear T0;generalize W0.drew=W1 at *
   have X:Hid (Flo w W1 [.slice none 0 0] none (fun _=>True) (fun _=>True)):=⟨ae T1,trivial,fun _ _ _ h=>h,nofun⟩;clear T1;refine a0z (rs:=[2,8]) (by kernel_rfl) (by simp) ?_;refine a0C rfl (fun K f=>?c1) (a0C rfl (fun K f=>?a1) a0Y)
   case' a1=>
    go_simp
    replace X:=af ((ae X).lay trivial 146)
    refine a0f f _ _ trivial (fun _=>?_);clear f K;generalize W1.heap.size=A at *
    generalize W1.alloc (.cells #[.slice none 0 0] 146)=W1 at *
    refine ah 2 (by kernel_rfl) rfl fun K f=>?_
   all_goals
    go_simp;have m:Below W1.heap.size W1 (W1.alloc (.cells #[.int .i64 16] 3)):=(a0c _ _).alloc (a0a _) _
    replace X:=af ((ae X).call (E':=fun V=>Blk V W1.heap.size [.int .i64 16]) (N':=fun _=>True) m (aP W1 #[.int .i64 16] 3) (fun _ _ b h=>Blk.later h b h.1) (fun _ _ _=>trivial))
    refine a0f f _ _ trivial (fun _=>?_);clear f K m;generalize W1.heap.size=J at *
    generalize W1.alloc (.cells #[.int .i64 16] 3)=W2 at *
   case' c1=>
    refine a0z (rs:=[3,8]) (by kernel_rfl) (by simp) ?_;refine a0C rfl (fun K f=>?c2) (a0C rfl (fun K f=>?a2) a0Y)
    case' a2=>
     go_simp
     replace X:=af ((ae X).lay trivial 146)
     refine a0f f _ _ trivial (fun _=>?_);clear f K;generalize W2.heap.size=A at *
     generalize W2.alloc (.cells #[.slice none 0 0] 146)=W2 at *
     refine ah 3 (by kernel_rfl) rfl fun K f=>?_
   case' a1=>
    refine ah 3 (by kernel_rfl) rfl fun K f=>?_
   all_goals
    go_simp;go_at_call 115;refine(ae N J W2 (Blk.cell (ae X).2.1 0 _ rfl)).mono ?_;rintro e W3 ⟨rfl,ho,m⟩
    replace X:=af ((ae X).call (E':=fun V=>bn V (some ⟨W2.heap.size,0,none⟩) (List.replicate 15 16)) (N':=fun _=>True) m (ax.rowN (n:=15) (by simp) ho) (fun _ _ b h=>bn.later h b) (fun _ _ _=>trivial))
    refine a0f f _ _ trivial (fun _=>?_);clear f K ho m;generalize W2.heap.size=rb at *
   case' c2=>
    refine a0z (rs:=[4,8]) (by kernel_rfl) (by simp) ?_;refine a0C rfl (fun K f=>?c3) (a0C rfl (fun K f=>?a3) a0Y)
    case' a3=>
     go_simp
     replace X:=af ((ae X).lay trivial 146)
     refine a0f f _ _ trivial (fun _=>?_);clear f K;generalize W3.heap.size=A at *
     generalize W3.alloc (.cells #[.slice none 0 0] 146)=W3 at *
     refine ah 4 (by kernel_rfl) rfl fun K f=>?_
   case' a1|a2=>
    refine ah 4 (by kernel_rfl) rfl fun K f=>?_
   all_goals
    go_simp;go_at_call 114;refine(ae CB (some ⟨rb,0,none⟩) W3 (ae X).2.1).mono ?_;rintro e W4 ⟨g,c,rfl,D,o,m⟩;have aa:w.heap.size<g:=a0i (ae X).1.2.1 D.1
    replace X:=af ((ae X).call (E':=fun V=>g<V.heap.size/\∀j,j<15->V.cell? ⟨g,j,none⟩=some (.int .i64 ((wd s.data.toList (2*j) 2:Nat):Int))) (N':=fun A=>g≠A) m ⟨D.2,o⟩ (fun _ _ b h=>⟨a0i h.1 b.size,fun j hj=>(b.cell (p:=⟨g,j,none⟩) h.1).trans (h.2 j hj)⟩) (fun A _ C=>a14 (a0i C D.1)))
    refine a0f f _ _ trivial (fun _=>?_);clear f K D o m;refine ag 5 (.tuple #[.slice (some ⟨g,0,none⟩) 15 c,.bool true]) rfl (by kernel_rfl) (fun _ _ _ h=>h) rfl (fun W d=>by go_simp) trivial ?_;refine ag 6 (.slice (some ⟨g,0,none⟩) 15 c) rfl (by kernel_rfl) (fun _ _ _ h=>h) rfl (fun W d=>by go_simp) trivial ?_;refine ag 7 (.bool true) rfl (by kernel_rfl) (fun _ _ _ h=>h) rfl (fun W d=>by go_simp) trivial ?_
   case' c3=>
    refine ah 8 (by kernel_rfl) rfl fun K f=>?_;go_simp
    replace X:=af ((ae X).lay (a1N (ae X).2.1.1) 146)
    refine a0f f _ _ trivial (fun _=>?_);clear f K;generalize W4.heap.size=A at *
    generalize W4.alloc (.cells #[.slice none 0 0] 146)=W4 at *
   all_goals
    refine ah 9 (by kernel_rfl) rfl fun K f=>?_;obtain⟨T5,G5,_,R⟩:=ae X;obtain⟨C,ad,z⟩:=R _ rfl;have a0:=z.cell 0 _ rfl;have f0:=z.free 0 (by decide);have T5:=af T5;have G5:=af G5;have z:=af z;clear X R;go_simp;have TX':=af ((ae T5).set C 0 (.slice (some ⟨g,0,none⟩) 15 c));have G:=af ((ae z).set 0 (.slice (some ⟨g,0,none⟩) 15 c));have GX':=af (Mv (ae G5) ad 0 (.slice (some ⟨g,0,none⟩) 15 c));clear a0 f0;refine a0f f _ _ trivial (fun _=>?_);clear f K;refine ah 10 (by kernel_rfl) rfl fun K f=>?_;go_simp;refine a0f f _ _ trivial (fun _=>?_);clear f K;refine a0u (by kernel_rfl) ?_ _;go_wp2_with fail
    go_meet
    case rel=>exact⟨⟨A,g,c,rfl,C,aa,ae TX',ae G,(ae GX').1,(ae GX').2⟩,rfl⟩
  case rest=>
   obtain⟨⟨B,g,c,rfl,b1,aa,T1',G1'⟩,rfl⟩:=hcut;have T1:=af T1';have G1:=af G1';clear T1' G1' T0;have C5:Hid (∀W,Wds W B g c s->CD 116 #[.int .i64 5,.pointer (some ⟨B,0,none⟩)] W (.int .i64 (ST:Nat))):=fun W h=>by rw[←(ae i).2.1];exact jS 5 B g c s W h (by omega) (ae t)
   have C7:Hid (∀W,Wds W B g c s->CD 116 #[.int .i64 7,.pointer (some ⟨B,0,none⟩)] W (.int .i64 (CR:Nat))):=fun W h=>by rw[←(ae i).2.2.1];exact jS 7 B g c s W h (by omega) (ae t)
   have C9:Hid (∀W,Wds W B g c s->CD 116 #[.int .i64 9,.pointer (some ⟨B,0,none⟩)] W (.int .i64 (PK:Nat))):=fun W h=>by rw[←(ae i).2.2.2.1];exact jS 9 B g c s W h (by omega) (ae t)
   have M:Hid (∀W,Wds W B g c s->CD 116 #[.int .i64 11,.pointer (some ⟨B,0,none⟩)] W (.int .i64 (LN:Nat))):=fun W h=>by rw[←(ae i).2.2.2.2.1];exact jS 11 B g c s W h (by omega) (ae t)
   have W4:Hid (∀W,Wds W B g c s->W.cell? ⟨g,4,none⟩=some (.int .i64 (HW:Nat))):=fun W h=>by rw[←(ae i).1];exact h.2.2 4 (by omega)
   have W13:Hid (∀W,Wds W B g c s->W.cell? ⟨g,13,none⟩=some (.int .i64 (NL:Nat))):=fun W h=>by rw[←(ae i).2.2.2.2.2];exact h.2.2 13 (by omega)
   go_wp2_with fail;go_cut[7] (fun v wx=>∃A,v = .pointer (some ⟨A,0,none⟩)/\w.heap.size<A/\B<A/\g<A/\HgS w wx/\Wds wx B g c s/\Blk wx A [.int .i64 (HW:Nat),.int .i64 (ST:Nat),.int .i64 (CR:Nat),.int .i64 (PK:Nat),.int .i64 (LN:Nat),.string ⟨#[]⟩])
   case first=>
    refine a0H (S:=fun W=>Wds W B g c s) q (ae G1).drew (fun k=>?_);refine ag 0 (.slice (some ⟨g,0,none⟩) 15 c) rfl (by kernel_rfl) (fun _ _ _ h=>h) rfl (fun W d=>by have s0:=Blk.cell d.1 0 _ rfl;go_simp) k ?_;refine ag 1 (.pointer (some ⟨g,4,none⟩)) rfl (by kernel_rfl) (fun _ _ _ h=>h) rfl (fun W d=>by go_simp) k ?_;refine ag 2 (.int .i64 (HW:Nat)) rfl (by kernel_rfl) (fun _ _ _ h=>h) rfl (fun W d=>by have s1:=ae W4 W d;go_simp) k ?_;refine ag 3 (.func (.func 116) #[] #[.pointer (some ⟨B,0,none⟩)]) rfl (by kernel_rfl) (fun _ _ _ h=>h) rfl (fun W d=>by go_simp) k ?_;refine ag 5 (.func (.func 116) #[] #[.pointer (some ⟨B,0,none⟩)]) rfl (by kernel_rfl) (fun _ _ _ h=>h) rfl (fun W d=>by go_simp) k ?_;refine ag 7 (.func (.func 116) #[] #[.pointer (some ⟨B,0,none⟩)]) rfl (by kernel_rfl) (fun _ _ _ h=>h) rfl (fun W d=>by go_simp) k ?_;refine ag 9 (.func (.func 116) #[] #[.pointer (some ⟨B,0,none⟩)]) rfl (by kernel_rfl) (fun _ _ _ h=>h) rfl (fun W d=>by go_simp) k ?_;have T2:=af (ae T1).drew;have G2:=af (ae G1).drew;clear T1 G1;generalize wc.drew=W2 at *
    have X:Hid (Flo w W2 [.int .i64 0,.int .i64 0,.int .i64 0,.int .i64 0,.int .i64 0,.string ⟨#[]⟩] none (fun V=>Wds V B g c s) (fun A=>B<A/\g<A)):=⟨ae T2,ae G2,fun _ _ b h=>Wds.later h b,nofun⟩;clear T2 G2;refine a0z (rs:=[4,12]) (by kernel_rfl) (by simp) ?_;refine a0C rfl (fun K f=>?d1) (a0C rfl (fun K f=>?e1) a0Y)
    case' e1=>
     go_simp
     replace X:=af ((ae X).lay ⟨(ae X).2.1.1.1,(ae X).2.1.2.1⟩ 61)
     refine a0f f _ _ (ae X).2.1 (fun k=>?_);clear f K;generalize W2.heap.size=A at *
     generalize W2.alloc (.cells #[.int .i64 0,.int .i64 0,.int .i64 0,.int .i64 0,.int .i64 0,.string ⟨#[]⟩] 61)=W2 at *
     refine ah 4 (by kernel_rfl) rfl fun K f=>?_
    all_goals
     go_simp;go_at_call 116;refine(ae C5 W2 (ae X).2.1).mono ?_;rintro e W3 ⟨rfl,m⟩
     replace X:=af ((ae X).later m)
     refine a0f f _ _ (ae X).2.1 (fun k=>?_);clear f K m
    case' d1=>
     refine a0z (rs:=[6,12]) (by kernel_rfl) (by simp) ?_;refine a0C rfl (fun K f=>?d2) (a0C rfl (fun K f=>?e2) a0Y)
     case' e2=>
      go_simp
      replace X:=af ((ae X).lay ⟨(ae X).2.1.1.1,(ae X).2.1.2.1⟩ 61)
      refine a0f f _ _ (ae X).2.1 (fun k=>?_);clear f K;generalize W3.heap.size=A at *
      generalize W3.alloc (.cells #[.int .i64 0,.int .i64 0,.int .i64 0,.int .i64 0,.int .i64 0,.string ⟨#[]⟩] 61)=W3 at *
      refine ah 6 (by kernel_rfl) rfl fun K f=>?_
    case' e1=>
     refine ah 6 (by kernel_rfl) rfl fun K f=>?_
    all_goals
     go_simp;go_at_call 116;refine(ae C7 W3 (ae X).2.1).mono ?_;rintro e W4 ⟨rfl,m⟩
     replace X:=af ((ae X).later m)
     refine a0f f _ _ (ae X).2.1 (fun k=>?_);clear f K m
    case' d2=>
     refine a0z (rs:=[8,12]) (by kernel_rfl) (by simp) ?_;refine a0C rfl (fun K f=>?d3) (a0C rfl (fun K f=>?e3) a0Y)
     case' e3=>
      go_simp
      replace X:=af ((ae X).lay ⟨(ae X).2.1.1.1,(ae X).2.1.2.1⟩ 61)
      refine a0f f _ _ (ae X).2.1 (fun k=>?_);clear f K;generalize W4.heap.size=A at *
      generalize W4.alloc (.cells #[.int .i64 0,.int .i64 0,.int .i64 0,.int .i64 0,.int .i64 0,.string ⟨#[]⟩] 61)=W4 at *
      refine ah 8 (by kernel_rfl) rfl fun K f=>?_
    case' e1|e2=>
     refine ah 8 (by kernel_rfl) rfl fun K f=>?_
    all_goals
     go_simp;go_at_call 116;refine(ae C9 W4 (ae X).2.1).mono ?_;rintro e W5 ⟨rfl,m⟩
     replace X:=af ((ae X).later m)
     refine a0f f _ _ (ae X).2.1 (fun k=>?_);clear f K m
    case' d3=>
     refine a0z (rs:=[10,12]) (by kernel_rfl) (by simp) ?_;refine a0C rfl (fun K f=>?d4) (a0C rfl (fun K f=>?e4) a0Y)
     case' e4=>
      go_simp
      replace X:=af ((ae X).lay ⟨(ae X).2.1.1.1,(ae X).2.1.2.1⟩ 61)
      refine a0f f _ _ (ae X).2.1 (fun k=>?_);clear f K;generalize W5.heap.size=A at *
      generalize W5.alloc (.cells #[.int .i64 0,.int .i64 0,.int .i64 0,.int .i64 0,.int .i64 0,.string ⟨#[]⟩] 61)=W5 at *
      refine ah 10 (by kernel_rfl) rfl fun K f=>?_
    case' e1|e2|e3=>
     refine ah 10 (by kernel_rfl) rfl fun K f=>?_
    all_goals
     go_simp;go_at_call 116;refine(ae M W5 (ae X).2.1).mono ?_;rintro e W6 ⟨rfl,m⟩
     replace X:=af ((ae X).later m)
     refine a0f f _ _ (ae X).2.1 (fun k=>?_);clear f K m;refine ag 11 (.agg #[.int .i64 (HW:Nat),.int .i64 (ST:Nat),.int .i64 (CR:Nat),.int .i64 (PK:Nat),.int .i64 (LN:Nat),.string ⟨#[]⟩]) rfl (by kernel_rfl) (fun _ _ _ h=>h) rfl (fun W d=>by go_simp) k ?_
    case' d4=>
     refine ah 12 (by kernel_rfl) rfl fun K f=>?_;go_simp
     replace X:=af ((ae X).lay ⟨(ae X).2.1.1.1,(ae X).2.1.2.1⟩ 61)
     refine a0f f _ _ (ae X).2.1 (fun k=>?_);clear f K;generalize W6.heap.size=A at *
     generalize W6.alloc (.cells #[.int .i64 0,.int .i64 0,.int .i64 0,.int .i64 0,.int .i64 0,.string ⟨#[]⟩] 61)=W6 at *
    all_goals
     refine ah 13 (by kernel_rfl) rfl fun K f=>?_;obtain⟨T7,G7,_,R⟩:=ae X;obtain⟨C,⟨H,I⟩,U⟩:=R _ rfl;have aA:=U.cells (n:=6) rfl;have fA:=U.frees (n:=6) rfl;have T7:=af T7;have G7:=af G7;have U:=af U;clear X R;go_simp;have TX':=af ((ae T7).set6 C (.int .i64 (HW:Nat)) (.int .i64 (ST:Nat)) (.int .i64 (CR:Nat)) (.int .i64 (PK:Nat)) (.int .i64 (LN:Nat)) (.string ⟨#[]⟩));have G:=af ((ae U).set6 (.int .i64 (HW:Nat)) (.int .i64 (ST:Nat)) (.int .i64 (CR:Nat)) (.int .i64 (PK:Nat)) (.int .i64 (LN:Nat)) (.string ⟨#[]⟩));have GX':=af ((ae G7).set6 (a1N H) (a1N I) (.int .i64 (HW:Nat)) (.int .i64 (ST:Nat)) (.int .i64 (CR:Nat)) (.int .i64 (PK:Nat)) (.int .i64 (LN:Nat)) (.string ⟨#[]⟩));clear aA fA;refine a0f f _ _ (ae GX') (fun k=>?_);clear f K;refine a0u (by kernel_rfl) ?_ _;go_wp2_with fail
     go_meet
     case rel=>exact⟨A,rfl,C,H,I,ae TX',ae GX',ae G⟩
   case rest=>
    obtain⟨A,rfl,C,H,I,T2',G2',T⟩:=hcut;have T2:=af T2';have G2:=af G2';have Q:=af T;clear T2' G2' T T1 G1 C5 C7 C9 M;have c0:=(ae G2).1.cell 0 _ rfl;have ac:=ae W13 _ (ae G2);have r3:=(ae Q).cell 3 _ rfl;have r5:=(ae Q).cell 5 _ rfl;have q5:=(ae Q).free 5 (by simp);have bs:IntKind.i64.wrap (30+(NL:Int))=30+(NL:Int):=by rw[a00];omega
    have b0:IntKind.i64.wrap (30+(NL:Int)+(PK:Int))=30+(NL:Int)+(PK:Int):=by rw[a00];omega
    by_cases E:30+NL+PK<=s.size
    .
     have F:30+(NL:Int)+(PK:Int)<=(s.size:Int):=by omega
     have bk:decide ((s.size:Int)<30+(NL:Int)+(PK:Int))=false:=by simpa using F
     have a7:(30+(NL:Int)).toNat=30+NL:=by omega
     have a9:(30+(NL:Int)+(PK:Int)).toNat=30+NL+PK:=by omega
     have ba:30<=30+(NL:Int):=by omega
     have bb:30+(NL:Int)<=30+(NL:Int)+(PK:Int):=by omega
     have bc:0<=30+(NL:Int)+(PK:Int):=by omega
     have bd:30+(NL:Int)<=(s.size:Int):=by omega
     have be:0<=30+(NL:Int):=by omega
     have b3:s.extract 30 (30+NL)=nmB s:=by unfold nmB;rw[(ae i).2.2.2.2.2]
     have b4:s.extract (30+NL) (30+NL+PK)=bdB s:=by unfold bdB;rw[(ae i).2.2.2.2.2,(ae i).2.2.2.1]
     have P:Hid ((eE HW ST CR PK LN (nmB s)).data.toList.isPrefixOf s.data.toList=mB s.data.toList):=by
      have hh:=Im (l:=s.data.toList) (nm:=nmB s) (by rw[(ae i).2.2.2.2.2];simp;omega) (yE s);rw[(ae i).1,(ae i).2.1,(ae i).2.2.1,(ae i).2.2.2.1,(ae i).2.2.2.2.1]at hh;exact hh
     have ab:(nmB s).size<65536:=by rw[js (by rw[(ae i).2.2.2.2.2];omega)];exact gJ _ _
     have O:Hid (∀b,mB s.data.toList=b->HgP s (.returned (.tuple #[.agg #[.int .i64 (HW:Nat),.int .i64 (ST:Nat),.int .i64 (CR:Nat),.int .i64 (PK:Nat),.int .i64 (LN:Nat),.string (nmB s),.string (bdB s)],.bool b]))):=fun b hb=>by
      have hd:hdB s=b:=by
       unfold hdB;rw[hb,(ae i).2.2.2.2.2,(ae i).2.2.2.1,a0w (ae t),a0w E];simp
      cases b
      . exact Ip hd _ _ _ _ _ _ _ ⟨(ae r).1,(ae r).2.1,(ae r).2.2.1,(ae r).2.2.2.1,(ae r).2.2.2.2.1,by unfold nmB;rw[a2f];omega,by unfold bdB;rw[a2f];omega⟩
      . refine .inl ⟨hd,?_⟩;rw[(ae i).1,(ae i).2.1,(ae i).2.2.1,(ae i).2.2.2.1,(ae i).2.2.2.2.1]
     generalize an:nmB s=NM at *
     generalize al:bdB s=BD at *
     obtain⟨l1,l2,l3,l4,l5,l6⟩:=ae r;have CH:=af (fun W=>xM HW ST CR PK LN NM BD W l1 l2 l3 l4 l5 ab);have CP:Hid (∀W,Calls prog 77 #[.string s,.string (eE HW ST CR PK LN NM)] W fun e w'=>e = .returned (.bool (mB s.data.toList))/\w'=W):=fun W=>by
      have h:=Tryz.strings_HasPrefix s (eE HW ST CR PK LN NM) W;have e:Lib.hasPrefix s.data.toList (eE HW ST CR PK LN NM).data.toList=mB s.data.toList:=ae P;rw[e]at h;exact h
     generalize mB s.data.toList=fb at *
     generalize eE HW ST CR PK LN NM=HB at *
     clear an al l1 l2 l3 l4 l5 l6 E P ab;have T3:=af ((ae T2).set C 5 (.string NM));have R3:=af ((ae Q).set 5 (.string NM));clear T2 Q G2 W4 W13;go_wp2_with fail;clear c0 ac r3 r5 q5;generalize wc.setCell ⟨A,5,none⟩ (.string NM)=X3 at *
     refine a0H (S:=fun W=>Blk W A [.int .i64 (HW:Nat),.int .i64 (ST:Nat),.int .i64 (CR:Nat),.int .i64 (PK:Nat),.int .i64 (LN:Nat),.string NM]) q (ae R3).drew (fun k=>?_);refine ag 0 (.agg #[.int .i64 (HW:Nat),.int .i64 (ST:Nat),.int .i64 (CR:Nat),.int .i64 (PK:Nat),.int .i64 (LN:Nat),.string NM]) rfl (by kernel_rfl) (fun _ _ _ h=>h) rfl (fun W d=>by have s0:=Blk.cell d 0 _ rfl;have s1:=Blk.cell d 1 _ rfl;have s2:=Blk.cell d 2 _ rfl;have s3:=Blk.cell d 3 _ rfl;have s4:=Blk.cell d 4 _ rfl;have s5:=Blk.cell d 5 _ rfl;go_simp) k ?_;refine ag 1 (.string s) rfl (by kernel_rfl) (fun _ _ _ h=>h) rfl (fun W d=>by go_simp) k ?_;refine ag 2 (.int .i64 (30+(NL:Int))) rfl (by kernel_rfl) (fun _ _ _ h=>h) rfl (fun W d=>by go_simp) k ?_;refine ag 3 (.int .i64 (30+(NL:Int))) rfl (by kernel_rfl) (fun _ _ _ h=>h) rfl (fun W d=>by go_simp) k ?_;refine ag 4 (.pointer (some ⟨A,3,none⟩)) rfl (by kernel_rfl) (fun _ _ _ h=>h) rfl (fun W d=>by go_simp) k ?_;refine ag 5 (.int .i64 (PK:Nat)) rfl (by kernel_rfl) (fun _ _ _ h=>h) rfl (fun W d=>by have s3:=Blk.cell d 3 _ rfl;go_simp) k ?_;refine ag 6 (.int .i64 (30+(NL:Int)+(PK:Int))) rfl (by kernel_rfl) (fun _ _ _ h=>h) rfl (fun W d=>by go_simp) k ?_;refine ag 7 (.string BD) rfl (by kernel_rfl) (fun _ _ _ h=>h) rfl (fun W d=>by go_simp) k ?_;refine ag 8 (.agg #[.int .i64 (HW:Nat),.int .i64 (ST:Nat),.int .i64 (CR:Nat),.int .i64 (PK:Nat),.int .i64 (LN:Nat),.string NM,.string BD]) rfl (by kernel_rfl) (fun _ _ _ h=>h) rfl (fun W d=>by go_simp) k ?_;have T4:=af (ae T3).drew;have R4:=af (ae R3).drew;clear T3 R3;generalize X3.drew=W4 at *
     refine ah 9 (by kernel_rfl) rfl fun K f=>?_;go_simp;have m:Below W4.heap.size W4 (W4.alloc (.cells #[.int .i64 0,.int .i64 0,.int .i64 0,.int .i64 0,.int .i64 0,.string ⟨#[]⟩,.string ⟨#[]⟩] 63)):=(a0c _ _).alloc (a0a _) _;have T5:=af ((ae T4).later m);have z:=af ((ae R4).later m (ae R4).1);have L5:Hid (Blk (W4.alloc (.cells #[.int .i64 0,.int .i64 0,.int .i64 0,.int .i64 0,.int .i64 0,.string ⟨#[]⟩,.string ⟨#[]⟩] 63)) W4.heap.size [.int .i64 0,.int .i64 0,.int .i64 0,.int .i64 0,.int .i64 0,.string ⟨#[]⟩,.string ⟨#[]⟩]):=aP _ _ _;have hL:w.heap.size<W4.heap.size:=(ae T4).2.1;have Z:A<W4.heap.size:=(ae R4).1;refine a0f f _ _ (ae z) (fun k=>?_);clear f K;obtain⟨L,hLe⟩:∃x,W4.heap.size=x:=⟨_,rfl⟩;obtain⟨W5,hW5⟩:∃x,W4.alloc (.cells #[.int .i64 0,.int .i64 0,.int .i64 0,.int .i64 0,.int .i64 0,.string ⟨#[]⟩,.string ⟨#[]⟩] 63)=x:=⟨_,rfl⟩;rw[hW5]at T5 z k;rw[hLe,hW5]at L5;rw[hLe]at hL Z;rw[hLe,hW5];clear m hLe hW5 T4 R4;refine ah 10 (by kernel_rfl) rfl fun K f=>?_;have aA:=(ae L5).cells (n:=7) rfl;have fA:=(ae L5).frees (n:=7) rfl;go_simp;have T6:=af ((ae T5).set7 hL (.int .i64 (HW:Nat)) (.int .i64 (ST:Nat)) (.int .i64 (CR:Nat)) (.int .i64 (PK:Nat)) (.int .i64 (LN:Nat)) (.string NM) (.string BD));have L6:=af ((ae L5).set7 (.int .i64 (HW:Nat)) (.int .i64 (ST:Nat)) (.int .i64 (CR:Nat)) (.int .i64 (PK:Nat)) (.int .i64 (LN:Nat)) (.string NM) (.string BD));have R6:=af (Jb (ae z) (a1N Z) (.int .i64 (HW:Nat)) (.int .i64 (ST:Nat)) (.int .i64 (CR:Nat)) (.int .i64 (PK:Nat)) (.int .i64 (LN:Nat)) (.string NM) (.string BD));clear aA fA T5 z L5;refine a0f f _ _ (ae R6) (fun k=>?_);clear f K;refine a0u (by kernel_rfl) ?_ _;clear k;obtain⟨X6,hX6⟩:∃x,(((((((W5.setCell ⟨L,0,none⟩ (.int .i64 (HW:Nat))).setCell ⟨L,1,none⟩ (.int .i64 (ST:Nat))).setCell ⟨L,2,none⟩ (.int .i64 (CR:Nat))).setCell ⟨L,3,none⟩ (.int .i64 (PK:Nat))).setCell ⟨L,4,none⟩ (.int .i64 (LN:Nat))).setCell ⟨L,5,none⟩ (.string NM)).setCell ⟨L,6,none⟩ (.string BD))=x:=⟨_,rfl⟩;rw[hX6]at T6 L6;rw[hX6];clear hX6 R6;go_wp2_with fail;refine a0H (S:=fun W=>Blk W L [.int .i64 (HW:Nat),.int .i64 (ST:Nat),.int .i64 (CR:Nat),.int .i64 (PK:Nat),.int .i64 (LN:Nat),.string NM,.string BD]) q (ae L6).drew (fun k=>?_);refine ag 0 (.agg #[.int .i64 (HW:Nat),.int .i64 (ST:Nat),.int .i64 (CR:Nat),.int .i64 (PK:Nat),.int .i64 (LN:Nat),.string NM,.string BD]) rfl (by kernel_rfl) (fun _ _ _ h=>h) rfl (fun W d=>by have s0:=Blk.cell d 0 _ rfl;have s1:=Blk.cell d 1 _ rfl;have s2:=Blk.cell d 2 _ rfl;have s3:=Blk.cell d 3 _ rfl;have s4:=Blk.cell d 4 _ rfl;have s5:=Blk.cell d 5 _ rfl;have s6:=Blk.cell d 6 _ rfl;go_simp) k ?_;refine ag 1 (.string s) rfl (by kernel_rfl) (fun _ _ _ h=>h) rfl (fun W d=>by go_simp) k ?_;refine ag 2 (.agg #[.int .i64 (HW:Nat),.int .i64 (ST:Nat),.int .i64 (CR:Nat),.int .i64 (PK:Nat),.int .i64 (LN:Nat),.string NM,.string BD]) rfl (by kernel_rfl) (fun _ _ _ h=>h) rfl (fun W d=>by have s0:=Blk.cell d 0 _ rfl;have s1:=Blk.cell d 1 _ rfl;have s2:=Blk.cell d 2 _ rfl;have s3:=Blk.cell d 3 _ rfl;have s4:=Blk.cell d 4 _ rfl;have s5:=Blk.cell d 5 _ rfl;have s6:=Blk.cell d 6 _ rfl;go_simp) k ?_;have T7:=af (ae T6).drew;have L7:=af (ae L6).drew;clear T6 L6;generalize X6.drew=W7 at *
     refine ah 3 (by kernel_rfl) rfl fun K f=>?_;go_simp;go_at_call 87;refine(ae CH W7).mono ?_;rintro e W8 ⟨rfl,m⟩;have T8:=af ((ae T7).later m);have L8:=af ((ae L7).later m (ae L7).1);refine a0f f _ _ (ae L8) (fun k=>?_);clear f K;clear m T7 L7;refine ah 4 (by kernel_rfl) rfl fun K f=>?_;go_simp;go_at_call 77;refine(ae CP W8).mono ?_;rintro e W9 ⟨rfl,rfl⟩;refine a0f f _ _ (ae L8) (fun k=>?_);clear f K;refine ah 5 (by kernel_rfl) rfl fun K f=>?_;have bA:=(ae T8).2.cells (n:=7) rfl;have gA:=(ae T8).2.frees (n:=7) rfl;go_simp;have TZ:=af (GK (ae T8).1 (a0a _) (.int .i64 (HW:Nat)) (.int .i64 (ST:Nat)) (.int .i64 (CR:Nat)) (.int .i64 (PK:Nat)) (.int .i64 (LN:Nat)) (.string NM) (.string BD));have ZZ:=af ((ae T8).2.set7 (.int .i64 (HW:Nat)) (.int .i64 (ST:Nat)) (.int .i64 (CR:Nat)) (.int .i64 (PK:Nat)) (.int .i64 (LN:Nat)) (.string NM) (.string BD));have LZ:=af (Jb (ae L8) (a14 hL) (.int .i64 (HW:Nat)) (.int .i64 (ST:Nat)) (.int .i64 (CR:Nat)) (.int .i64 (PK:Nat)) (.int .i64 (LN:Nat)) (.string NM) (.string BD));clear bA gA;refine a0f f _ _ (ae LZ) (fun k=>?_);clear f K;refine ah 6 (by kernel_rfl) rfl fun K f=>?_;go_simp;refine a0f f _ _ (ae LZ) (fun k=>?_);clear f K;refine a0u (by kernel_rfl) ?_ _;go_wp2;have zA:=(ae ZZ).cells (n:=7) rfl;refine a0R (v:=.tuple #[.agg #[.int .i64 (HW:Nat),.int .i64 (ST:Nat),.int .i64 (CR:Nat),.int .i64 (PK:Nat),.int .i64 (LN:Nat),.string NM,.string BD],.bool fb]) (by simp[results,results78,go_sem,zA]) rfl ⟨ae O _ rfl,ae TZ⟩
    .
     have F:(s.size:Int)<30+(NL:Int)+(PK:Int):=by omega
     have O:Hid (hdB s=false):=by
      show _=_;unfold hdB;rw[(ae i).2.2.2.2.2,(ae i).2.2.2.1,a0j E];simp
     clear E;have bA:=(ae T2).2.cells (n:=7) rfl;have gA:=(ae T2).2.frees (n:=7) rfl;have TZ:=af (GK (ae T2).1 (a0a _) (.int .i64 0) (.int .i64 0) (.int .i64 0) (.int .i64 0) (.int .i64 0) (.string ⟨#[]⟩) (.string ⟨#[]⟩));have ZZ:=af ((ae T2).2.set7 (.int .i64 0) (.int .i64 0) (.int .i64 0) (.int .i64 0) (.int .i64 0) (.string ⟨#[]⟩) (.string ⟨#[]⟩));go_wp2;have zA:=(ae ZZ).cells (n:=7) rfl;refine a0R (v:=.tuple #[.agg #[.int .i64 0,.int .i64 0,.int .i64 0,.int .i64 0,.int .i64 0,.string ⟨#[]⟩,.string ⟨#[]⟩],.bool false]) (by simp[results,results78,go_sem,zA]) rfl ⟨Ip (ae O) 0 0 0 0 0 ⟨#[]⟩ ⟨#[]⟩ xO,ae TZ⟩
 .
  have Y:(s.size:Int)<30:=by omega
  have O:Hid (hdB s=false):=by
   show _=_;unfold hdB;rw[a0j y];simp
  clear y;go_enter func78,ntmps78;go_wp2;refine a0R (v:=.tuple #[.agg #[.int .i64 0,.int .i64 0,.int .i64 0,.int .i64 0,.int .i64 0,.string ⟨#[]⟩,.string ⟨#[]⟩],.bool false]) (by simp[results,results78,go_sem]) rfl ⟨Ip (ae O) 0 0 0 0 0 ⟨#[]⟩ ⟨#[]⟩ xO,(ae T0).1⟩
def EnS(w:World)(vs:List Value)(W:World):Prop:=Below w.heap.size w W/\Blk W w.heap.size vs/\Blk W (w.heap.size+1) [.string ⟨#[]⟩,.int .i64 0,.int .i64 0,.int .i64 0,.int .i64 0,.int .i64 0,.int .i64 0,.string ⟨#[]⟩]
theorem EnS.later(k:EnS w vs W)(hb:Below W.heap.size W W'):EnS w vs W':=⟨am k.1 hb,k.2.1.later hb k.2.1.1,k.2.2.later hb k.2.2.1⟩
theorem EnS.drew(k:EnS w vs W):EnS w vs W.drew:=⟨k.1.drew,k.2.1.drew,k.2.2.drew⟩
theorem EnS.set(k:EnS w vs W)(a:w.heap.size+1<A)(o:Nat)(v:Value):EnS w vs (W.setCell ⟨A,o,none⟩ v):=⟨ap k.1 (by omega) _,k.2.1.set_other v (by omega),k.2.2.set_other v (by omega)⟩
theorem EnS.set8(k:EnS w vs W)(a:w.heap.size+1<A)(a0 a1 a2 a3 a4 a5 a6 a7:Value):EnS w vs ((((((((W.setCell ⟨A,0,none⟩ a0).setCell ⟨A,1,none⟩ a1).setCell ⟨A,2,none⟩ a2).setCell ⟨A,3,none⟩ a3).setCell ⟨A,4,none⟩ a4).setCell ⟨A,5,none⟩ a5).setCell ⟨A,6,none⟩ a6).setCell ⟨A,7,none⟩ a7):=((((((((k.set a 0 a0).set a 1 a1).set a 2 a2).set a 3 a3).set a 4 a4).set a 5 a5).set a 6 a6).set a 7 a7)
def enB(how st cr lg:Nat)(nm b:ByteArray):Bool:=txO how b&&(gOk (st:Nat)&&(fV nm (zz (gOk (st:Nat)) (gY (st:Nat))) (zz (gOk (st:Nat)) (gM (st:Nat))) (zz (gOk (st:Nat)) (gD (st:Nat))) (zz (gOk (st:Nat)) (gH (st:Nat))) (zz (gOk (st:Nat)) (gI (st:Nat))) (zz (gOk (st:Nat)) (gS (st:Nat))) (uxT how b)&&(decide ((uxT how b).size=lg)&&decide (aL 0 (uxT how b).data.toList=cr))))
def enE(st:Nat)(nm T:ByteArray):Value:=.agg #[.string nm,.int .i64 (zz (gOk (st:Nat)) (gY (st:Nat))),.int .i64 (zz (gOk (st:Nat)) (gM (st:Nat))),.int .i64 (zz (gOk (st:Nat)) (gD (st:Nat))),.int .i64 (zz (gOk (st:Nat)) (gH (st:Nat))),.int .i64 (zz (gOk (st:Nat)) (gI (st:Nat))),.int .i64 (zz (gOk (st:Nat)) (gS (st:Nat))),.string T]
theorem JH{P:Prop}(a b c:Bool)(x y u v:Nat)
  (g:(a&&(b&&(c&&(decide (x=y)&&decide (u=v)))))=false->a=false->P)
  (h2:(a&&(b&&(c&&(decide (x=y)&&decide (u=v)))))=false->a=true->b=false->P)
  (h:(a&&(b&&(c&&(decide (x=y)&&decide (u=v)))))=false->a=true->b=true->c=false->P)
  (i:(a&&(b&&(c&&(decide (x=y)&&decide (u=v)))))=false->a=true->b=true->c=true->((x:Int) == (y:Int))=false->((x:Int) != (y:Int))=true->P)
  (j:(a&&(b&&(c&&(decide (x=y)&&decide (u=v)))))=false->a=true->b=true->c=true->((x:Int) == (y:Int))=true->((x:Int) != (y:Int))=false->((u:Int) == (v:Int))=false->((u:Int) != (v:Int))=true->P)
  (k:(a&&(b&&(c&&(decide (x=y)&&decide (u=v)))))=true->a=true->b=true->c=true->((x:Int) == (y:Int))=true->((x:Int) != (y:Int))=false->((u:Int) == (v:Int))=true->((u:Int) != (v:Int))=false->P):P:=by
 have e:∀m n:Nat,((m:Int)=(n:Int))<->m=n:=fun m n=>by omega
 cases a
 . exact g (by simp) rfl
 cases b
 . exact h2 (by simp) rfl rfl
 cases c
 . exact h (by simp) rfl rfl rfl
 by_cases d:x=y
 .
  by_cases f:u=v
  . exact k (by simp[d,f]) rfl rfl rfl (by simp[d]) (by simp[d]) (by simp[f]) (by simp[f])
  . exact j (by simp[f]) rfl rfl rfl (by simp[d]) (by simp[d]) (by simp[e,f]) (by simp[e,f])
 . exact i (by simp[d]) rfl rfl rfl (by simp[e,d]) (by simp[e,d])
theorem pX(how st j s lg:Nat)(nm b:ByteArray)(m:Int)(w:World)(hb:b.size<=1048576)(hh:how<65536)(h1:st<4294967296)(h2:j<4294967296)(h3:lg<4294967296)(hn:nm.size<=1048576)(O:w.cell? ⟨2,0,none⟩=some (.int .i64 m))(hO:fP w) :
  Calls prog 79 #[.agg #[.int .i64 (how:Nat),.int .i64 (st:Nat),.int .i64 (j:Nat),.int .i64 (s:Nat),.int .i64 (lg:Nat),.string nm,.string b]] w fun e w'=>e=Ending.returned (if enB how st j lg nm b=true then .tuple #[enE st nm (uxT how b),.bool true]else .tuple #[noE,.bool false])/\Below w.heap.size w w':=by
 have o:prog.follows .mixedOrders=true:=by kernel_rfl
 have Q:=zO (how:=how) (b:=b) hb;have HM:=af O;have P:=af (World.block_lt_of_cell? _ _ O);have CM:=af (fun W (hb:Below w.heap.size w W)=>(hb.cell (p:=⟨2,0,none⟩) (ae P)).trans (ae HM));have HO:=af (fun W (hb:Below w.heap.size w W)=>hO.later hb);have CU:=af (fun W (h:fP W)=>EV how (st:Int) (j:Int) (s:Int) (lg:Int) nm b W hb hh h);have X:=af (fun W=>jX nm W (by omega));have z:=af (fun W=>xQ (uxT how b) W (by unfold maxLen;omega));have CS:Hid (∀W,CD 118 #[.int .i64 (st:Nat)] W (.tuple #[.agg #[.int .i64 (zz (gOk (st:Nat)) (gY (st:Nat))),.int .i64 (zz (gOk (st:Nat)) (gM (st:Nat))),.int .i64 (zz (gOk (st:Nat)) (gD (st:Nat))),.int .i64 (zz (gOk (st:Nat)) (gH (st:Nat))),.int .i64 (zz (gOk (st:Nat)) (gI (st:Nat))),.int .i64 (zz (gOk (st:Nat)) (gS (st:Nat)))],.bool (gOk (st:Nat))])):=fun W=>oM _ W (WalkArith.wf_i64 (by omega));have Y:=af (fun W (hb:Below w.heap.size w W)=>kj nm (zz (gOk (st:Nat)) (gY (st:Nat))) (zz (gOk (st:Nat)) (gM (st:Nat))) (zz (gOk (st:Nat)) (gD (st:Nat))) (zz (gOk (st:Nat)) (gH (st:Nat))) (zz (gOk (st:Nat)) (gI (st:Nat))) (zz (gOk (st:Nat)) (gS (st:Nat))) (uxT how b) m W (by omega) (by omega) (ae CM _ hb));obtain⟨RES,hRES⟩:∃x,Ending.returned (if enB how st j lg nm b=true then .tuple #[enE st nm (uxT how b),.bool true]else .tuple #[noE,.bool false])=x:=⟨_,rfl⟩;rw[hRES];have k:=af hRES;clear hRES O hO;unfold enB enE at k;generalize txO how b=OK at *
 generalize uxT how b=UT at *
 generalize zz (gOk (st:Nat)) (gY (st:Nat))=yy at *
 generalize zz (gOk (st:Nat)) (gM (st:Nat))=mo at *
 generalize zz (gOk (st:Nat)) (gD (st:Nat))=dd at *
 generalize zz (gOk (st:Nat)) (gH (st:Nat))=hh' at *
 generalize zz (gOk (st:Nat)) (gI (st:Nat))=mi at *
 generalize zz (gOk (st:Nat)) (gS (st:Nat))=ss at *
 generalize gOk (st:Nat)=GO at *
 generalize fV nm yy mo dd hh' mi ss UT=EB at *
 generalize aL 0 UT.data.toList=cu at *
 have T0:Hid (EnS w [.int .i64 (how:Nat),.int .i64 (st:Nat),.int .i64 (j:Nat),.int .i64 (s:Nat),.int .i64 (lg:Nat),.string nm,.string b] ((w.alloc (.cells #[.int .i64 (how:Nat),.int .i64 (st:Nat),.int .i64 (j:Nat),.int .i64 (s:Nat),.int .i64 (lg:Nat),.string nm,.string b] 63)).alloc (.cells #[.string ⟨#[]⟩,.int .i64 0,.int .i64 0,.int .i64 0,.int .i64 0,.int .i64 0,.int .i64 0,.string ⟨#[]⟩] 32))):=by
  have e1:=aP w #[.int .i64 (how:Nat),.int .i64 (st:Nat),.int .i64 (j:Nat),.int .i64 (s:Nat),.int .i64 (lg:Nat),.string nm,.string b] 63;have e2:=aP (w.alloc (.cells #[.int .i64 (how:Nat),.int .i64 (st:Nat),.int .i64 (j:Nat),.int .i64 (s:Nat),.int .i64 (lg:Nat),.string nm,.string b] 63)) #[.string ⟨#[]⟩,.int .i64 0,.int .i64 0,.int .i64 0,.int .i64 0,.int .i64 0,.int .i64 0,.string ⟨#[]⟩] 32;have e3:(w.alloc (.cells #[.int .i64 (how:Nat),.int .i64 (st:Nat),.int .i64 (j:Nat),.int .i64 (s:Nat),.int .i64 (lg:Nat),.string nm,.string b] 63)).heap.size=w.heap.size+1:=by simp
  rw[e3]at e2;exact⟨((a0c _ _).alloc (a0a _) _).alloc (by rw[e3];exact a1k _) _,e1.later ((a0c _ _).alloc (a0a _) _) (by simp),e2⟩
 clear hb hh Q h1 h2 h3 hn;go_enter func79,ntmps79;go_wp2_with fail;refine(ae CU _ (ae HO _ (ae T0).1)).mono ?_;rintro e x1 ⟨rfl,E⟩;have T1:=af ((ae T0).later E);clear E T0;have c1:=(ae T1).2.1.cell 1 _ rfl;go_wp2_with fail;refine(ae CS _).mono ?_;rintro e x2 ⟨rfl,F⟩;have T2:=af ((ae T1).later F);clear F T1 c1;have T3:=af ((ae T2).later ((a0c x2.heap.size x2).alloc (a0a _) (.cells #[.int .i64 yy,.int .i64 mo,.int .i64 dd,.int .i64 hh',.int .i64 mi,.int .i64 ss] 30)));have S3:=af (aP x2 #[.int .i64 yy,.int .i64 mo,.int .i64 dd,.int .i64 hh',.int .i64 mi,.int .i64 ss] 30);clear T2;go_wp2_with fail;obtain⟨SB,hSB⟩:∃x,x2.heap.size=x:=⟨_,rfl⟩;obtain⟨X3,hX3⟩:∃x,x2.alloc (.cells #[.int .i64 yy,.int .i64 mo,.int .i64 dd,.int .i64 hh',.int .i64 mi,.int .i64 ss] 30)=x:=⟨_,rfl⟩;rw[hX3]at T3;rw[hSB,hX3]at S3;rw[hSB,hX3];clear hSB hX3;go_cut[8] (fun v wx=>∃A,v = .pointer (some ⟨A,0,none⟩)/\w.heap.size+1<A/\EnS w [.int .i64 (how:Nat),.int .i64 (st:Nat),.int .i64 (j:Nat),.int .i64 (s:Nat),.int .i64 (lg:Nat),.string nm,.string b] wx/\Blk wx A [.string nm,.int .i64 yy,.int .i64 mo,.int .i64 dd,.int .i64 hh',.int .i64 mi,.int .i64 ss,.string UT])
 case first=>
  refine a0H (S:=fun W=>EnS w [.int .i64 (how:Nat),.int .i64 (st:Nat),.int .i64 (j:Nat),.int .i64 (s:Nat),.int .i64 (lg:Nat),.string nm,.string b] W/\Blk W SB [.int .i64 yy,.int .i64 mo,.int .i64 dd,.int .i64 hh',.int .i64 mi,.int .i64 ss]) o ⟨(ae T3).drew,(ae S3).drew⟩ (fun i=>?_);refine ag 0 (.pointer (some ⟨w.heap.size,0,none⟩)) rfl (by kernel_rfl) (fun _ _ _ h=>h) rfl (fun W a=>by go_simp) i ?_;refine ag 1 (.pointer (some ⟨w.heap.size,5,none⟩)) rfl (by kernel_rfl) (fun _ _ _ h=>h) rfl (fun W a=>by go_simp) i ?_;refine ag 2 (.string nm) rfl (by kernel_rfl) (fun _ _ _ h=>h) rfl (fun W a=>by have s5:=a.1.2.1.cell 5 _ rfl;go_simp) i ?_;refine ag 4 (.agg #[.int .i64 yy,.int .i64 mo,.int .i64 dd,.int .i64 hh',.int .i64 mi,.int .i64 ss]) rfl (by kernel_rfl) (fun _ _ _ h=>h) rfl (fun W a=>by have s0:=a.2.cell 0 _ rfl;have s1:=a.2.cell 1 _ rfl;have s2:=a.2.cell 2 _ rfl;have s3:=a.2.cell 3 _ rfl;have s4:=a.2.cell 4 _ rfl;have s5:=a.2.cell 5 _ rfl;go_simp) i ?_;refine ag 5 (.string UT) rfl (by kernel_rfl) (fun _ _ _ h=>h) rfl (fun W a=>by go_simp) i ?_;have T4:=af (ae T3).drew;have S4:=af (ae S3).drew;clear T3 S3;generalize X3.drew=W4 at *
  refine a0z (rs:=[3,7]) (by kernel_rfl) (by simp) ?_;refine a0C rfl (fun K f=>?_) (a0C rfl (fun K f=>?_) (a0Y))
  .
   go_simp;go_at_call 65;refine(ae X W4).mono ?_;rintro e W5 ⟨rfl,g⟩;have T5:=af ((ae T4).later g);have S5:=af ((ae S4).later g (ae S4).1);refine a0f f _ _ ⟨ae T5,ae S5⟩ (fun i=>?_);clear f K;clear g T4 S4;refine ag 6 (.agg #[.string nm,.int .i64 yy,.int .i64 mo,.int .i64 dd,.int .i64 hh',.int .i64 mi,.int .i64 ss,.string UT]) rfl (by kernel_rfl) (fun _ _ _ h=>h) rfl (fun W a=>by go_simp) i ?_;refine ah 7 (by kernel_rfl) rfl fun K f=>?_;go_simp;have g:Below W5.heap.size W5 (W5.alloc (.cells #[.string ⟨#[]⟩,.int .i64 0,.int .i64 0,.int .i64 0,.int .i64 0,.int .i64 0,.int .i64 0,.string ⟨#[]⟩] 32)):=(a0c _ _).alloc (a0a _) _;have T6:=af ((ae T5).later g);have S6:=af ((ae S5).later g (ae S5).1);have t:Hid (Blk (W5.alloc (.cells #[.string ⟨#[]⟩,.int .i64 0,.int .i64 0,.int .i64 0,.int .i64 0,.int .i64 0,.int .i64 0,.string ⟨#[]⟩] 32)) W5.heap.size [.string ⟨#[]⟩,.int .i64 0,.int .i64 0,.int .i64 0,.int .i64 0,.int .i64 0,.int .i64 0,.string ⟨#[]⟩]):=aP _ _ _;have u:w.heap.size+1<W5.heap.size:=(ae T5).2.2.1;have l:SB≠W5.heap.size:=a1N (ae S5).1;refine a0f f _ _ ⟨ae T6,ae S6⟩ (fun i=>?_);clear f K;obtain⟨A,hAe⟩:∃x,W5.heap.size=x:=⟨_,rfl⟩;obtain⟨W6,hW6⟩:∃x,W5.alloc (.cells #[.string ⟨#[]⟩,.int .i64 0,.int .i64 0,.int .i64 0,.int .i64 0,.int .i64 0,.int .i64 0,.string ⟨#[]⟩] 32)=x:=⟨_,rfl⟩;rw[hW6]at T6 S6 i;rw[hAe,hW6]at t;rw[hAe]at u l;rw[hAe,hW6];clear g hAe hW6 T5 S5;refine ah 8 (by kernel_rfl) rfl fun K f=>?_;have aA:=(ae t).cells (n:=8) rfl;have fA:=(ae t).frees (n:=8) rfl;go_simp;have TX:=af ((ae T6).set8 u (.string nm) (.int .i64 yy) (.int .i64 mo) (.int .i64 dd) (.int .i64 hh') (.int .i64 mi) (.int .i64 ss) (.string UT));have M:=af ((ae t).set8 (.string nm) (.int .i64 yy) (.int .i64 mo) (.int .i64 dd) (.int .i64 hh') (.int .i64 mi) (.int .i64 ss) (.string UT));have SX:=af (mR (ae S6) l (.string nm) (.int .i64 yy) (.int .i64 mo) (.int .i64 dd) (.int .i64 hh') (.int .i64 mi) (.int .i64 ss) (.string UT));clear aA fA;refine a0f f _ _ ⟨ae TX,ae SX⟩ (fun i=>?_);clear f K;refine a0u (by kernel_rfl) ?_ _;go_wp2_with fail
   go_meet
   case rel=>exact⟨A,rfl,u,ae TX,ae M⟩
  .
   go_simp;have g:Below W4.heap.size W4 (W4.alloc (.cells #[.string ⟨#[]⟩,.int .i64 0,.int .i64 0,.int .i64 0,.int .i64 0,.int .i64 0,.int .i64 0,.string ⟨#[]⟩] 32)):=(a0c _ _).alloc (a0a _) _;have T5:=af ((ae T4).later g);have S5:=af ((ae S4).later g (ae S4).1);have J:Hid (Blk (W4.alloc (.cells #[.string ⟨#[]⟩,.int .i64 0,.int .i64 0,.int .i64 0,.int .i64 0,.int .i64 0,.int .i64 0,.string ⟨#[]⟩] 32)) W4.heap.size [.string ⟨#[]⟩,.int .i64 0,.int .i64 0,.int .i64 0,.int .i64 0,.int .i64 0,.int .i64 0,.string ⟨#[]⟩]):=aP _ _ _;have u:w.heap.size+1<W4.heap.size:=(ae T4).2.2.1;have l:SB≠W4.heap.size:=a1N (ae S4).1;refine a0f f _ _ ⟨ae T5,ae S5⟩ (fun i=>?_);clear f K;obtain⟨A,hAe⟩:∃x,W4.heap.size=x:=⟨_,rfl⟩;obtain⟨W5,hW5⟩:∃x,W4.alloc (.cells #[.string ⟨#[]⟩,.int .i64 0,.int .i64 0,.int .i64 0,.int .i64 0,.int .i64 0,.int .i64 0,.string ⟨#[]⟩] 32)=x:=⟨_,rfl⟩;rw[hW5]at T5 S5 i;rw[hAe,hW5]at J;rw[hAe]at u l;rw[hAe,hW5];clear g hAe hW5 T4 S4;refine ah 3 (by kernel_rfl) rfl fun K f=>?_;go_simp;go_at_call 65;refine(ae X W5).mono ?_;rintro e W6 ⟨rfl,g⟩;have T6:=af ((ae T5).later g);have S6:=af ((ae S5).later g (ae S5).1);have t:=af ((ae J).later g (ae J).1);refine a0f f _ _ ⟨ae T6,ae S6⟩ (fun i=>?_);clear f K;clear g T5 S5 J;refine ag 6 (.agg #[.string nm,.int .i64 yy,.int .i64 mo,.int .i64 dd,.int .i64 hh',.int .i64 mi,.int .i64 ss,.string UT]) rfl (by kernel_rfl) (fun _ _ _ h=>h) rfl (fun W a=>by go_simp) i ?_;refine ah 8 (by kernel_rfl) rfl fun K f=>?_;have aA:=(ae t).cells (n:=8) rfl;have fA:=(ae t).frees (n:=8) rfl;go_simp;have TX:=af ((ae T6).set8 u (.string nm) (.int .i64 yy) (.int .i64 mo) (.int .i64 dd) (.int .i64 hh') (.int .i64 mi) (.int .i64 ss) (.string UT));have M:=af ((ae t).set8 (.string nm) (.int .i64 yy) (.int .i64 mo) (.int .i64 dd) (.int .i64 hh') (.int .i64 mi) (.int .i64 ss) (.string UT));have SX:=af (mR (ae S6) l (.string nm) (.int .i64 yy) (.int .i64 mo) (.int .i64 dd) (.int .i64 hh') (.int .i64 mi) (.int .i64 ss) (.string UT));clear aA fA;refine a0f f _ _ ⟨ae TX,ae SX⟩ (fun i=>?_);clear f K;refine a0u (by kernel_rfl) ?_ _;go_wp2_with fail
   go_meet
   case rel=>exact⟨A,rfl,u,ae TX,ae M⟩
 case rest=>
  obtain⟨A,rfl,u,TB',B⟩:=hcut;have TB:=af TB';have c:=af B;clear TB' B T3 S3;go_wp2_with fail;refine JH OK GO EB UT.size lg cu j ?_ ?_ ?_ ?_ ?_ ?_;rotate_left 5
  .
   rintro G rfl rfl rfl H I T U;have L:Hid (Ending.returned (.tuple #[.agg #[.string nm,.int .i64 yy,.int .i64 mo,.int .i64 dd,.int .i64 hh',.int .i64 mi,.int .i64 ss,.string UT],.bool true])=RES):=by show _=_;rw[←ae k,a0e G]
   clear G;have V:=cell_regrown ((ae TB).2.1.cell 4 _ rfl);have R:=cell_regrown ((ae TB).2.1.cell 2 _ rfl);have m0:=cell_regrown ((ae c).cell 0 _ rfl);have m1:=cell_regrown ((ae c).cell 1 _ rfl);have m2:=cell_regrown ((ae c).cell 2 _ rfl);have m3:=cell_regrown ((ae c).cell 3 _ rfl);have m4:=cell_regrown ((ae c).cell 4 _ rfl);have m5:=cell_regrown ((ae c).cell 5 _ rfl);have m6:=cell_regrown ((ae c).cell 6 _ rfl);have m7:=cell_regrown ((ae c).cell 7 _ rfl);have D:=fun d os=>Calls.regrown_of (w:=wc) (d:=d) (os:=os) (ae Y _ (am (ae TB).1 (below_regrown wc d os)));have C:=fun d os=>Calls.regrown_of (w:=wc) (d:=d) (os:=os) (ae z _);refine wp_region_quiet_below o (by kernel_rfl) ?_;repeat (quiet_step (first|exact D _ _|exact C _ _))
   refine a1p ?_;intro zw y;obtain⟨⟨N,osq⟩,q⟩:=y;have r:=below_regrown wc N osq;rw[←q]at r;have T9:=af ((ae TB).later r);have Z:=af ((ae c).later r (ae c).1);clear q r V R D C TB c m0 m1 m2 m3 m4 m5 m6 m7;have rA:=(ae Z).cells (n:=8) rfl;have bA:=(ae T9).2.2.cells (n:=8) rfl;have gA:=(ae T9).2.2.frees (n:=8) rfl;have TZ:=af (GL (ae T9).1 (a1k _) (.string nm) (.int .i64 yy) (.int .i64 mo) (.int .i64 dd) (.int .i64 hh') (.int .i64 mi) (.int .i64 ss) (.string UT));have ZZ:=af ((ae T9).2.2.set8 (.string nm) (.int .i64 yy) (.int .i64 mo) (.int .i64 dd) (.int .i64 hh') (.int .i64 mi) (.int .i64 ss) (.string UT));go_wp2;have zA:=(ae ZZ).cells (n:=8) rfl;refine a0R (v:=.tuple #[.agg #[.string nm,.int .i64 yy,.int .i64 mo,.int .i64 dd,.int .i64 hh',.int .i64 mi,.int .i64 ss,.string UT],.bool true]) (by simp[results,results79,go_sem,zA]) rfl ⟨ae L,ae TZ⟩
  all_goals intro G
  all_goals have L:Hid (Ending.returned (.tuple #[.agg #[.string ⟨#[]⟩,.int .i64 0,.int .i64 0,.int .i64 0,.int .i64 0,.int .i64 0,.int .i64 0,.string ⟨#[]⟩],.bool false])=RES):=by show _=_;rw[←ae k,a0d (by rw[G];decide)];rfl
  all_goals clear G
  rintro rfl;rotate_left;rintro rfl rfl;rotate_left;rintro rfl rfl rfl;rotate_left;rintro rfl rfl rfl H I;rotate_left;rintro rfl rfl rfl H I T U;rotate_left;all_goals(
   have V:=cell_regrown ((ae TB).2.1.cell 4 _ rfl);have R:=cell_regrown ((ae TB).2.1.cell 2 _ rfl);have m0:=cell_regrown ((ae c).cell 0 _ rfl);have m1:=cell_regrown ((ae c).cell 1 _ rfl);have m2:=cell_regrown ((ae c).cell 2 _ rfl);have m3:=cell_regrown ((ae c).cell 3 _ rfl);have m4:=cell_regrown ((ae c).cell 4 _ rfl);have m5:=cell_regrown ((ae c).cell 5 _ rfl);have m6:=cell_regrown ((ae c).cell 6 _ rfl);have m7:=cell_regrown ((ae c).cell 7 _ rfl);have D:=fun d os=>Calls.regrown_of (w:=wc) (d:=d) (os:=os) (ae Y _ (am (ae TB).1 (below_regrown wc d os)));have C:=fun d os=>Calls.regrown_of (w:=wc) (d:=d) (os:=os) (ae z _);refine wp_region_quiet_below o (by kernel_rfl) ?_;repeat (quiet_step (first|exact D _ _|exact C _ _))
   refine a1p ?_;intro zw y;obtain⟨⟨N,osq⟩,q⟩:=y;have r:=below_regrown wc N osq;rw[←q]at r;have T9:=af ((ae TB).later r);have Z:=af ((ae c).later r (ae c).1);clear q r V R D C TB c m0 m1 m2 m3 m4 m5 m6 m7;have bA:=(ae T9).2.2.cells (n:=8) rfl;have gA:=(ae T9).2.2.frees (n:=8) rfl;have TZ:=af (GL (ae T9).1 (a1k _) (.string ⟨#[]⟩) (.int .i64 0) (.int .i64 0) (.int .i64 0) (.int .i64 0) (.int .i64 0) (.int .i64 0) (.string ⟨#[]⟩));have ZZ:=af ((ae T9).2.2.set8 (.string ⟨#[]⟩) (.int .i64 0) (.int .i64 0) (.int .i64 0) (.int .i64 0) (.int .i64 0) (.int .i64 0) (.string ⟨#[]⟩));go_wp2;have zA:=(ae ZZ).cells (n:=8) rfl;refine a0R (v:=.tuple #[.agg #[.string ⟨#[]⟩,.int .i64 0,.int .i64 0,.int .i64 0,.int .i64 0,.int .i64 0,.int .i64 0,.string ⟨#[]⟩],.bool false]) (by simp[results,results79,go_sem,zA]) rfl ⟨ae L,ae TZ⟩
  )
theorem NP(s:ByteArray):enB (wd s.data.toList 8 2) (wd s.data.toList 10 4) (wd s.data.toList 14 4) (wd s.data.toList 22 4) (nmB s) (bdB s)=((txO (wd s.data.toList 8 2) (bdB s)&&(decide (wd s.data.toList 14 4=aL 0 (txT (wd s.data.toList 8 2) (bdB s)).data.toList)&&decide (wd s.data.toList 22 4=(txT (wd s.data.toList 8 2) (bdB s)).size)))&&Ef s (txT (wd s.data.toList 8 2) (bdB s)))/\(enB (wd s.data.toList 8 2) (wd s.data.toList 10 4) (wd s.data.toList 14 4) (wd s.data.toList 22 4) (nmB s) (bdB s)=true->enE (wd s.data.toList 10 4) (nmB s) (uxT (wd s.data.toList 8 2) (bdB s))=E8 s (txT (wd s.data.toList 8 2) (bdB s))):=by
 cases d:txO (wd s.data.toList 8 2) (bdB s)
 . simp[enB,d]
 .
  unfold enB enE E8 Ef;rw[Nu d,d];have e:=Ih (n:=(wd s.data.toList 10 4:Nat)) (by omega);cases f:gOk ((wd s.data.toList 10 4:Nat):Int)
  . rw[f]at e;refine⟨?_,by simp⟩;unfold fV;rw[←e];simp
  .
   simp only[zz,a09];refine⟨?_,fun _=>trivial⟩;rw[a2j];simp only[a0n,a0E,Bool.true_and];constructor
   . rintro⟨a,b,c⟩;exact⟨⟨c.symm,b.symm⟩,a⟩
   . rintro⟨⟨a,b⟩,c⟩;exact⟨c,b.symm,a.symm⟩
theorem Ho{st i lg:Nat}{nm:ByteArray}(h:enB how st i lg nm b=true):b.size<=700:=by
 simp only[enB,a0n]at h;obtain⟨a,_,d,_⟩:=h;unfold txO pB at a;by_cases c:how=0
 .
  subst c;have e:uxT 0 b=b:=by simp[uxT,txT]
  rw[e]at d;have:=(ee d).2.1;omega
 .
  rw[a0d c]at a;by_cases f:how=8
  .
   rw[a0e f]at a;unfold dN at a;by_cases g:b.size<=700
   . exact g
   . rw[a0d g]at a;cases a
  . rw[a0d f]at a;cases a
theorem IH(h:hdB s=true):nR s=if enB (wd s.data.toList 8 2) (wd s.data.toList 10 4) (wd s.data.toList 14 4) (wd s.data.toList 22 4) (nmB s) (bdB s)=true then .tuple #[enE (wd s.data.toList 10 4) (nmB s) (uxT (wd s.data.toList 8 2) (bdB s)),.int .i64 ((30+wd s.data.toList 26 2+wd s.data.toList 18 4:Nat):Int),.bool true]else .tuple #[noE,.int .i64 0,.bool false]:=by
 obtain⟨e1,e2⟩:=NP s;rw[II h,←e1];by_cases hb:enB (wd s.data.toList 8 2) (wd s.data.toList 10 4) (wd s.data.toList 14 4) (wd s.data.toList 22 4) (nmB s) (bdB s)=true
 . rw[a0e hb,a0e hb,e2 hb]
 . rw[a0d hb,a0d hb]
end Go.Proofs.YtkdlcomfpffhhaaGreatDoor
