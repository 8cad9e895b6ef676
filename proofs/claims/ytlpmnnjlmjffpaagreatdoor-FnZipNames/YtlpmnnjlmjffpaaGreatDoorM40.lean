/- Of what the proof is made: 6 texts, one behind the other. -/
import Derived.Test.YtlpmnnjlmjffpaaGreatDoorM20
import Derived.Test.YtlpmnnjlmjffpaaGreatDoorM38
import Derived.Test.YtlpmnnjlmjffpaaGreatDoorM29
import Derived.Test.YtlpmnnjlmjffpaaGreatDoorM3
import Derived.Lib.QuietBelow
import Derived.Test.YtlpmnnjlmjffpaaGreatDoorShelf
import Derived.Test.YtlpmnnjlmjffpaaGreatDoorM16
import Derived.Test.YtlpmnnjlmjffpaaGreatDoorM8
import Derived.Test.YtlpmnnjlmjffpaaGreatDoorM7
import Derived.Test.YtlpmnnjlmjffpaaGreatDoorM37
import Derived.Test.YtlpmnnjlmjffpaaGreatDoorM36
set_option maxRecDepth 100000
set_option linter.unusedSimpArgs false
set_option linter.unusedVariables false
set_option maxHeartbeats 12800000
namespace Go.Proofs.YtlpmnnjlmjffpaaGreatDoor
open Go.Proofs.Tryz
open Go.RowKit Corb
variable {A B c g how:Nat}{E:World->Prop}{N:Nat->Prop}{W W' w:World}{b s:ByteArray}{vs z:List Value}
def RdS(w W:World):Prop:=Below w.heap.size w W/\Blk W w.heap.size [.string ⟨#[]⟩,.int .i64 0,.int .i64 0,.int .i64 0,.int .i64 0,.int .i64 0,.int .i64 0,.string ⟨#[]⟩]
theorem RdS.later(k:RdS w W)(hb:Below W.heap.size W W'):RdS w W':=⟨ak k.1 hb,k.2.later hb k.2.1⟩
theorem RdS.drew(k:RdS w W):RdS w W.drew:=⟨k.1.drew,k.2.drew⟩
theorem RdS.set(k:RdS w W)(a:w.heap.size<A)(o:Nat)(v:Value):RdS w (W.setCell ⟨A,o,none⟩ v):=⟨aj k.1 (a0C a) _,k.2.set_other v (by omega)⟩
theorem NI(h:hdB s=false):oH s = .tuple #[noE,.int .i64 0,.bool false]:=by simp[oH,ep,h]
theorem ry(h:¬ (dw s 0 4=67324752/\dw s 4 2=20/\dw s 6 2=0/\dw s 28 2=0)):oH s = .tuple #[noE,.int .i64 0,.bool false]:=by
 refine NI ?_;cases hb:hdB s
 . rfl
 . obtain⟨a,h2,b⟩:=gx.1 hb;simp only[lk,a0h,a0o]at h2;obtain⟨e1,e2,e3,e4⟩:=h2;refine absurd ?_ h;rw[ge (by omega),ge (by omega),ge (by omega),ge (by omega),e1,e2,e3,e4];exact⟨rfl,rfl,rfl,rfl⟩
theorem Jl(c:dw s 0 4=67324752)(d:dw s 4 2=20)(e:dw s 6 2=0)(b:dw s 28 2=0):30<=s.size/\lk s.data.toList=true:=by
 have a:28+2<=s.size:=by
  by_cases h:28+2<=s.size
  . exact h
  . rw[xc h]at b;omega
 rw[ge (by omega)]at c d e b;refine⟨a,?_⟩;simp only[lk,a0h,a0o];omega
theorem OR(h:¬ 30+wd s.data.toList 26 2+wd s.data.toList 18 4<=s.size):oH s = .tuple #[noE,.int .i64 0,.bool false]:=NI (by simp[hdB,h])
theorem JF(h:hdB s=true):oH s=if ((txO (wd s.data.toList 8 2) (bdB s)&&(decide (wd s.data.toList 14 4=aH 0 (txT (wd s.data.toList 8 2) (bdB s)).data.toList)&&decide (wd s.data.toList 22 4=(txT (wd s.data.toList 8 2) (bdB s)).size)))&&yg s (txT (wd s.data.toList 8 2) (bdB s)))=true then .tuple #[Gb s (txT (wd s.data.toList 8 2) (bdB s)),.int .i64 ((30+wd s.data.toList 26 2+wd s.data.toList 18 4:Nat):Int),.bool true]else .tuple #[noE,.int .i64 0,.bool false]:=by
 unfold oH ep;rw[a0e h,OS];cases a:txO (wd s.data.toList 8 2) (bdB s)
 . simp
 .
  simp only[a0R,BG];by_cases c1:wd s.data.toList 14 4=aH 0 (txT (wd s.data.toList 8 2) (bdB s)).data.toList
  .
   by_cases c2:wd s.data.toList 22 4=(txT (wd s.data.toList 8 2) (bdB s)).size
   . by_cases c3:yg s (txT (wd s.data.toList 8 2) (bdB s))=true<;>simp[c1,c2,c3]
   . simp[c2]
  . simp[c1]
def RdP(s:ByteArray)(e:Ending):Prop:=∃n y mo d h mi c t k ok,e = .returned (.tuple #[.agg #[.string n,.int .i64 y,.int .i64 mo,.int .i64 d,.int .i64 h,.int .i64 mi,.int .i64 c,.string t],.int .i64 k,.bool ok])/\oH s=if ok=true then .tuple #[.agg #[.string n,.int .i64 y,.int .i64 mo,.int .i64 d,.int .i64 h,.int .i64 mi,.int .i64 c,.string t],.int .i64 k,.bool true]else .tuple #[noE,.int .i64 0,.bool false]
theorem sU(s:ByteArray)(w:World)(hs:s.size<=1048576) :
  Calls prog 58 #[.string s] w fun e w'=>RdP s e/\Below w.heap.size w w':=by
 have p:prog.follows .mixedOrders=true:=by kernel_rfl
 have m:Hid (∀W,CD 53 #[.string s,.int .i64 26,.int .i64 2] W (.int .i64 (dw s 26 2))):=fun W=>dn s 26 2 W (by decide) (by decide) (by omega);have l:Hid (∀W,CD 53 #[.string s,.int .i64 18,.int .i64 4] W (.int .i64 (dw s 18 4))):=fun W=>dn s 18 4 W (by decide) (by decide) (by omega);have y:Hid (∀W,CD 53 #[.string s,.int .i64 0,.int .i64 4] W (.int .i64 (dw s 0 4))):=fun W=>dn s 0 4 W (by decide) (by decide) (by omega);have D:Hid (∀W,CD 53 #[.string s,.int .i64 4,.int .i64 2] W (.int .i64 (dw s 4 2))):=fun W=>dn s 4 2 W (by decide) (by decide) (by omega);have N:Hid (∀W,CD 53 #[.string s,.int .i64 6,.int .i64 2] W (.int .i64 (dw s 6 2))):=fun W=>dn s 6 2 W (by decide) (by decide) (by omega);have B:Hid (∀W,CD 53 #[.string s,.int .i64 28,.int .i64 2] W (.int .i64 (dw s 28 2))):=fun W=>dn s 28 2 W (by decide) (by decide) (by omega);have G:Hid (∀W,CD 53 #[.string s,.int .i64 10,.int .i64 4] W (.int .i64 (dw s 10 4))):=fun W=>dn s 10 4 W (by decide) (by decide) (by omega);have C8:Hid (∀W,CD 53 #[.string s,.int .i64 8,.int .i64 2] W (.int .i64 (dw s 8 2))):=fun W=>dn s 8 2 W (by decide) (by decide) (by omega);have P:Hid (∀W,CD 53 #[.string s,.int .i64 14,.int .i64 4] W (.int .i64 (dw s 14 4))):=fun W=>dn s 14 4 W (by decide) (by decide) (by omega);have Q:Hid (∀W,CD 53 #[.string s,.int .i64 22,.int .i64 4] W (.int .i64 (dw s 22 4))):=fun W=>dn s 22 4 W (by decide) (by decide) (by omega);have T0:Hid (RdS w (w.alloc (.cells #[.string ⟨#[]⟩,.int .i64 0,.int .i64 0,.int .i64 0,.int .i64 0,.int .i64 0,.int .i64 0,.string ⟨#[]⟩] 35))):=⟨(a0c _ _).alloc (a0a _) _,au w #[.string ⟨#[]⟩,.int .i64 0,.int .i64 0,.int .i64 0,.int .i64 0,.int .i64 0,.int .i64 0,.string ⟨#[]⟩] 35⟩;by_cases r:dw s 0 4=67324752
 .
  by_cases u:dw s 4 2=20
  .
   by_cases C:dw s 6 2=0
   .
    by_cases M:dw s 28 2=0
    .
     obtain⟨I,L⟩:=Jl r u C M;rw[r]at y;rw[u]at D;rw[C]at N;rw[M]at B;rw[ge (by omega)]at m l G C8 P Q;have Y:=ib s.data.toList 26;have V:=ea s.data.toList 18;have aa:=ea s.data.toList 10;have J:=ib s.data.toList 8;by_cases t:30+wd s.data.toList 26 2+wd s.data.toList 18 4<=s.size
     .
      have a9:=iU (s:=s) (by omega);have a1:=rS (s:=s) t;have HL:=af (JF (gx.2 ⟨I,L,t⟩));have b7:s.extract 30 (30+wd s.data.toList 26 2)=nmB s:=rfl;have b8:s.extract (30+wd s.data.toList 26 2) (30+wd s.data.toList 26 2+wd s.data.toList 18 4)=bdB s:=rfl;have CT:Hid (∀W,CD 81 #[.int .i64 (wd s.data.toList 8 2:Nat),.string (bdB s)] W (.tuple #[.string (txT (wd s.data.toList 8 2) (bdB s)),.bool (txO (wd s.data.toList 8 2) (bdB s))])):=fun W=>Cf _ _ W (by omega) J;have bb:=Ay (how:=wd s.data.toList 8 2) (b:=bdB s) (by omega);have CC:=af (fun W=>qM (txT (wd s.data.toList 8 2) (bdB s)) W (by unfold maxLen;omega));have CE:=af (fun W=>ia (nmB s) (gY (wd s.data.toList 10 4:Nat)) (gM (wd s.data.toList 10 4:Nat)) (gD (wd s.data.toList 10 4:Nat)) (gH (wd s.data.toList 10 4:Nat)) (gI (wd s.data.toList 10 4:Nat)) (gS (wd s.data.toList 10 4:Nat)) (txT (wd s.data.toList 8 2) (bdB s)) W (by omega) (by omega));have CG:Hid (∀W,CD 80 #[.int .i64 (wd s.data.toList 10 4:Nat)] W (.agg #[.int .i64 (gY (wd s.data.toList 10 4:Nat)),.int .i64 (gM (wd s.data.toList 10 4:Nat)),.int .i64 (gD (wd s.data.toList 10 4:Nat)),.int .i64 (gH (wd s.data.toList 10 4:Nat)),.int .i64 (gI (wd s.data.toList 10 4:Nat)),.int .i64 (gS (wd s.data.toList 10 4:Nat))])):=fun W=>FJ _ W (by omega) (by omega);unfold Gb yg at HL;have a2:aH 0 (txT (wd s.data.toList 8 2) (bdB s)).data.toList<4294967296:=iJ _ _ (by omega);generalize ao:txO (wd s.data.toList 8 2) (bdB s)=OK at *
      generalize a0:txT (wd s.data.toList 8 2) (bdB s)=TX at *
      generalize ad:bdB s=BD at *
      generalize al:nmB s=NM at *
      generalize bd:gY (wd s.data.toList 10 4:Nat)=yy at *
      generalize a6:gM (wd s.data.toList 10 4:Nat)=mo at *
      generalize a3:gD (wd s.data.toList 10 4:Nat)=dd at *
      generalize a4:gH (wd s.data.toList 10 4:Nat)=hh at *
      generalize a5:gI (wd s.data.toList 10 4:Nat)=mi at *
      generalize ba:gS (wd s.data.toList 10 4:Nat)=ss at *
      generalize gn NM yy mo dd hh mi ss TX=EB at *
      generalize aH 0 TX.data.toList=cr at *
      generalize wd s.data.toList 26 2=NL at *
      generalize wd s.data.toList 18 4=LG at *
      generalize wd s.data.toList 10 4=ST at *
      generalize wd s.data.toList 8 2=HW at *
      generalize wd s.data.toList 14 4=CR at *
      generalize wd s.data.toList 22 4=LN at *
      have bk:0<=30+(NL:Int):=by omega
      have Z:decide ((NL:Int)<0)=false:=by simp
      have X:decide ((LG:Int)<0)=false:=by simp
      have F:30+(NL:Int)+(LG:Int)<=(s.size:Int):=by omega
      have b5:IntKind.i64.wrap (30+(NL:Int))=30+(NL:Int):=by rw[a0T];omega
      have b6:IntKind.i64.wrap (30+(NL:Int)+(LG:Int))=30+(NL:Int)+(LG:Int):=by rw[a0T];omega
      have bz:(30+(NL:Int)).toNat=30+NL:=by omega
      have b0:(30+(NL:Int)+(LG:Int)).toNat=30+NL+LG:=by omega
      have b1:30<=30+(NL:Int):=by omega
      have b2:30+(NL:Int)<=30+(NL:Int)+(LG:Int):=by omega
      have b3:30+(NL:Int)<=(s.size:Int):=by omega
      have b4:decide ((s.size:Int)<30+(NL:Int)+(LG:Int))=false:=by simpa using F
      have bs:(cr:Int)<4294967296:=by omega
      clear r u C M I L ao a0 ad al bd a6 a3 a4 a5 ba Y V aa J a2 a9 a1 bb t;go_enter a2Q,a2R;go_wp2_with fail;refine(ae m _).mono ?_;rintro e x1 ⟨rfl,hb⟩;have T1:=af ((ae T0).later hb);clear hb T0;go_wp2_with fail;refine(ae l _).mono ?_;rintro e x2 ⟨rfl,hb⟩;have T2:=af ((ae T1).later hb);clear hb T1;go_wp2_with fail;refine(ae y _).mono ?_;rintro e x3 ⟨rfl,hb⟩;have T3:=af ((ae T2).later hb);clear hb T2;go_wp2_with fail;refine(ae D _).mono ?_;rintro e x4 ⟨rfl,hb⟩;have T4:=af ((ae T3).later hb);clear hb T3;go_wp2_with fail;refine(ae N _).mono ?_;rintro e x5 ⟨rfl,hb⟩;have T5:=af ((ae T4).later hb);clear hb T4;go_wp2_with fail;refine(ae B _).mono ?_;rintro e x6 ⟨rfl,hb⟩;have T6:=af ((ae T5).later hb);clear hb T5;go_wp2_with fail;go_cut[8] (fun v wx=>∃A,v = .pointer (some ⟨A,0,none⟩)/\w.heap.size<A/\RdS w wx/\Blk wx A [.string NM,.int .i64 yy,.int .i64 mo,.int .i64 dd,.int .i64 hh,.int .i64 mi,.int .i64 ss,.string ⟨#[]⟩])
      case first=>
       refine wp_region_held_drew (S:=fun _=>True) p trivial (fun _=>?_);refine wpAnyH_take (i:=0) (v:=.string s) rfl (by kernel_rfl) (by kernel_rfl) (by kernel_rfl) (fun _ _ _ h=>h) (a0s ⟨by rfl,fun W c=>by go_simp⟩) trivial ?_;refine wpAnyH_take (i:=1) (v:=.int .i64 (NL:Nat)) rfl (by kernel_rfl) (by kernel_rfl) (by kernel_rfl) (fun _ _ _ h=>h) (a0s ⟨by rfl,fun W c=>by go_simp⟩) trivial ?_;refine wpAnyH_take (i:=2) (v:=.int .i64 (30+(NL:Int))) rfl (by kernel_rfl) (by kernel_rfl) (by kernel_rfl) (fun _ _ _ h=>h) (a0s ⟨by rfl,fun W c=>by go_simp⟩) trivial ?_;refine wpAnyH_take (i:=3) (v:=.string NM) rfl (by kernel_rfl) (by kernel_rfl) (by kernel_rfl) (fun _ _ _ h=>h) (a0s ⟨by rfl,fun W c=>by go_simp⟩) trivial ?_;refine wpAnyH_take (i:=4) (v:=.string s) rfl (by kernel_rfl) (by kernel_rfl) (by kernel_rfl) (fun _ _ _ h=>h) (a0s ⟨by rfl,fun W c=>by go_simp⟩) trivial ?_;have T7:=af (ae T6).drew;clear T6;generalize x6.drew=W7 at *
       refine wpAnyH_ready (rs:=[5,8]) (by kernel_rfl) (by simp) ?_;refine AllReadyH.cons rfl (fun K a=>?_) (AllReadyH.cons rfl (fun K a=>?_) (AllReadyH.nil))
       .
        go_simp;go_at_call 53;refine(ae G W7).mono ?_;rintro e W8 ⟨rfl,g⟩;have T8:=af ((ae T7).later g);refine Shut.out a _ _ trivial (fun _=>?_);clear a K g T7;refine wpAnyH_ready (rs:=[6,8]) (by kernel_rfl) (by simp) ?_;refine AllReadyH.cons rfl (fun K a=>?_) (AllReadyH.cons rfl (fun K a=>?_) (AllReadyH.nil))
        .
         go_simp;go_at_call 80;refine(ae CG W8).mono ?_;rintro e W9 ⟨rfl,g⟩;have T9:=af ((ae T8).later g);refine Shut.out a _ _ trivial (fun _=>?_);clear a K g T8;refine wpAnyH_take (i:=7) (v:=.agg #[.string NM,.int .i64 yy,.int .i64 mo,.int .i64 dd,.int .i64 hh,.int .i64 mi,.int .i64 ss,.string ⟨#[]⟩]) rfl (by kernel_rfl) (by kernel_rfl) (by kernel_rfl) (fun _ _ _ h=>h) (a0s ⟨by rfl,fun W c=>by go_simp⟩) trivial ?_;refine ah 8 (by kernel_rfl) rfl fun K a=>?_;go_simp;have g:Below W9.heap.size W9 (W9.alloc (.cells #[.string ⟨#[]⟩,.int .i64 0,.int .i64 0,.int .i64 0,.int .i64 0,.int .i64 0,.int .i64 0,.string ⟨#[]⟩] 35)):=(a0c _ _).alloc (a0a _) _;have T10:=af ((ae T9).later g);have j:Hid (Blk (W9.alloc (.cells #[.string ⟨#[]⟩,.int .i64 0,.int .i64 0,.int .i64 0,.int .i64 0,.int .i64 0,.int .i64 0,.string ⟨#[]⟩] 35)) W9.heap.size [.string ⟨#[]⟩,.int .i64 0,.int .i64 0,.int .i64 0,.int .i64 0,.int .i64 0,.int .i64 0,.string ⟨#[]⟩]):=au _ _ _;have k:w.heap.size<W9.heap.size:=(ae T9).2.1;refine Shut.out a _ _ trivial (fun _=>?_);clear a K;obtain⟨A,hAe⟩:∃x,W9.heap.size=x:=⟨_,rfl⟩;obtain⟨W10,hW10⟩:∃x,W9.alloc (.cells #[.string ⟨#[]⟩,.int .i64 0,.int .i64 0,.int .i64 0,.int .i64 0,.int .i64 0,.int .i64 0,.string ⟨#[]⟩] 35)=x:=⟨_,rfl⟩;rw[hW10]at T10;rw[hAe,hW10]at j;rw[hAe]at k;rw[hAe,hW10];clear g hAe hW10 T9;refine ah 9 (by kernel_rfl) rfl fun K a=>?_;have aA:=(ae j).cells (n:=8) rfl;have fA:=(ae j).frees (n:=8) rfl;go_simp;have ZX:=af (ux (ae T10).1 (a0C k) (ae j) (.string NM) (.int .i64 yy) (.int .i64 mo) (.int .i64 dd) (.int .i64 hh) (.int .i64 mi) (.int .i64 ss) (.string ⟨#[]⟩));have OX:=af (nz (ae T10).2 (a1x k) (.string NM) (.int .i64 yy) (.int .i64 mo) (.int .i64 dd) (.int .i64 hh) (.int .i64 mi) (.int .i64 ss) (.string ⟨#[]⟩));clear aA fA;refine Shut.out a _ _ trivial (fun _=>?_);clear a K;refine wpAnyH_done (by kernel_rfl) ?_ _;go_wp2_with fail
         go_meet
         case rel=>exact⟨A,rfl,k,⟨(ae ZX).1,ae OX⟩,(ae ZX).2⟩
        .
         go_simp;have g:Below W8.heap.size W8 (W8.alloc (.cells #[.string ⟨#[]⟩,.int .i64 0,.int .i64 0,.int .i64 0,.int .i64 0,.int .i64 0,.int .i64 0,.string ⟨#[]⟩] 35)):=(a0c _ _).alloc (a0a _) _;have T9:=af ((ae T8).later g);have q:Hid (Blk (W8.alloc (.cells #[.string ⟨#[]⟩,.int .i64 0,.int .i64 0,.int .i64 0,.int .i64 0,.int .i64 0,.int .i64 0,.string ⟨#[]⟩] 35)) W8.heap.size [.string ⟨#[]⟩,.int .i64 0,.int .i64 0,.int .i64 0,.int .i64 0,.int .i64 0,.int .i64 0,.string ⟨#[]⟩]):=au _ _ _;have k:w.heap.size<W8.heap.size:=(ae T8).2.1;refine Shut.out a _ _ trivial (fun _=>?_);clear a K;obtain⟨A,hAe⟩:∃x,W8.heap.size=x:=⟨_,rfl⟩;obtain⟨W9,hW9⟩:∃x,W8.alloc (.cells #[.string ⟨#[]⟩,.int .i64 0,.int .i64 0,.int .i64 0,.int .i64 0,.int .i64 0,.int .i64 0,.string ⟨#[]⟩] 35)=x:=⟨_,rfl⟩;rw[hW9]at T9;rw[hAe,hW9]at q;rw[hAe]at k;rw[hAe,hW9];clear g hAe hW9 T8;refine ah 6 (by kernel_rfl) rfl fun K a=>?_;go_simp;go_at_call 80;refine(ae CG W9).mono ?_;rintro e W10 ⟨rfl,g⟩;have T10:=af ((ae T9).later g);have j:=af ((ae q).later g (ae q).1);refine Shut.out a _ _ trivial (fun _=>?_);clear a K g T9 q;refine wpAnyH_take (i:=7) (v:=.agg #[.string NM,.int .i64 yy,.int .i64 mo,.int .i64 dd,.int .i64 hh,.int .i64 mi,.int .i64 ss,.string ⟨#[]⟩]) rfl (by kernel_rfl) (by kernel_rfl) (by kernel_rfl) (fun _ _ _ h=>h) (a0s ⟨by rfl,fun W c=>by go_simp⟩) trivial ?_;refine ah 9 (by kernel_rfl) rfl fun K a=>?_;have aA:=(ae j).cells (n:=8) rfl;have fA:=(ae j).frees (n:=8) rfl;go_simp;have ZX:=af (ux (ae T10).1 (a0C k) (ae j) (.string NM) (.int .i64 yy) (.int .i64 mo) (.int .i64 dd) (.int .i64 hh) (.int .i64 mi) (.int .i64 ss) (.string ⟨#[]⟩));have OX:=af (nz (ae T10).2 (a1x k) (.string NM) (.int .i64 yy) (.int .i64 mo) (.int .i64 dd) (.int .i64 hh) (.int .i64 mi) (.int .i64 ss) (.string ⟨#[]⟩));clear aA fA;refine Shut.out a _ _ trivial (fun _=>?_);clear a K;refine wpAnyH_done (by kernel_rfl) ?_ _;go_wp2_with fail
         go_meet
         case rel=>exact⟨A,rfl,k,⟨(ae ZX).1,ae OX⟩,(ae ZX).2⟩
       .
        go_simp;have g:Below W7.heap.size W7 (W7.alloc (.cells #[.string ⟨#[]⟩,.int .i64 0,.int .i64 0,.int .i64 0,.int .i64 0,.int .i64 0,.int .i64 0,.string ⟨#[]⟩] 35)):=(a0c _ _).alloc (a0a _) _;have T8:=af ((ae T7).later g);have z:Hid (Blk (W7.alloc (.cells #[.string ⟨#[]⟩,.int .i64 0,.int .i64 0,.int .i64 0,.int .i64 0,.int .i64 0,.int .i64 0,.string ⟨#[]⟩] 35)) W7.heap.size [.string ⟨#[]⟩,.int .i64 0,.int .i64 0,.int .i64 0,.int .i64 0,.int .i64 0,.int .i64 0,.string ⟨#[]⟩]):=au _ _ _;have k:w.heap.size<W7.heap.size:=(ae T7).2.1;refine Shut.out a _ _ trivial (fun _=>?_);clear a K;obtain⟨A,hAe⟩:∃x,W7.heap.size=x:=⟨_,rfl⟩;obtain⟨W8,hW8⟩:∃x,W7.alloc (.cells #[.string ⟨#[]⟩,.int .i64 0,.int .i64 0,.int .i64 0,.int .i64 0,.int .i64 0,.int .i64 0,.string ⟨#[]⟩] 35)=x:=⟨_,rfl⟩;rw[hW8]at T8;rw[hAe,hW8]at z;rw[hAe]at k;rw[hAe,hW8];clear g hAe hW8 T7;refine ah 5 (by kernel_rfl) rfl fun K a=>?_;go_simp;go_at_call 53;refine(ae G W8).mono ?_;rintro e W9 ⟨rfl,g⟩;have T9:=af ((ae T8).later g);have q:=af ((ae z).later g (ae z).1);refine Shut.out a _ _ trivial (fun _=>?_);clear a K g T8 z;refine ah 6 (by kernel_rfl) rfl fun K a=>?_;go_simp;go_at_call 80;refine(ae CG W9).mono ?_;rintro e W10 ⟨rfl,g⟩;have T10:=af ((ae T9).later g);have j:=af ((ae q).later g (ae q).1);refine Shut.out a _ _ trivial (fun _=>?_);clear a K g T9 q;refine wpAnyH_take (i:=7) (v:=.agg #[.string NM,.int .i64 yy,.int .i64 mo,.int .i64 dd,.int .i64 hh,.int .i64 mi,.int .i64 ss,.string ⟨#[]⟩]) rfl (by kernel_rfl) (by kernel_rfl) (by kernel_rfl) (fun _ _ _ h=>h) (a0s ⟨by rfl,fun W c=>by go_simp⟩) trivial ?_;refine ah 9 (by kernel_rfl) rfl fun K a=>?_;have aA:=(ae j).cells (n:=8) rfl;have fA:=(ae j).frees (n:=8) rfl;go_simp;have ZX:=af (ux (ae T10).1 (a0C k) (ae j) (.string NM) (.int .i64 yy) (.int .i64 mo) (.int .i64 dd) (.int .i64 hh) (.int .i64 mi) (.int .i64 ss) (.string ⟨#[]⟩));have OX:=af (nz (ae T10).2 (a1x k) (.string NM) (.int .i64 yy) (.int .i64 mo) (.int .i64 dd) (.int .i64 hh) (.int .i64 mi) (.int .i64 ss) (.string ⟨#[]⟩));clear aA fA;refine Shut.out a _ _ trivial (fun _=>?_);clear a K;refine wpAnyH_done (by kernel_rfl) ?_ _;go_wp2_with fail
        go_meet
        case rel=>exact⟨A,rfl,k,⟨(ae ZX).1,ae OX⟩,(ae ZX).2⟩
      case rest=>
       obtain⟨A,rfl,k,TA',T⟩:=hcut;have TA:=af TA';have RA:=af T;clear TA' T T6;go_wp2_with fail;have c8:=fun d os=>Calls.regrown_of (w:=wc) (d:=d) (os:=os) (ae C8 _);have cT:=fun d os=>Calls.regrown_of (w:=wc) (d:=d) (os:=os) (ae CT _);refine wp_region_quiet_below p (by kernel_rfl) ?_;repeat (quiet_step (first|exact c8 _ _|exact cT _ _))
       refine a01 ?_;intro zw bc;obtain⟨⟨dq,osq⟩,ab⟩:=bc;have HZ:=below_regrown wc dq osq;rw[←ab]at HZ;have T7:=af ((ae TA).later HZ);have R7:=af ((ae RA).later HZ (ae RA).1);clear ab HZ c8 cT TA RA;have a7:=(ae R7).cell 7 _ rfl;have f7:=(ae R7).free 7 (by simp)
       go_upto_region 9 with fail
       have T8:=af ((ae T7).set k 7 (.string TX));have z:=af ((ae R7).set 7 (.string TX));clear a7 f7 T7 R7;generalize zw.setCell ⟨A,7,none⟩ (.string TX)=Z8 at *
       go_cut[10] (fun v wx=>v = .bool (OK&&(decide (CR=cr)&&decide (LN=TX.size)))/\RdS w wx/\Blk wx A [.string NM,.int .i64 yy,.int .i64 mo,.int .i64 dd,.int .i64 hh,.int .i64 mi,.int .i64 ss,.string TX])
       case first=>
        cases OK
        .
         go_wp2_with fail
         go_meet
         case rel=>exact⟨rfl,ae T8,ae z⟩
        .
         go_wp2_with fail;refine(ae P _).mono ?_;rintro e x9 ⟨rfl,hb⟩;have T9:=af ((ae T8).later hb);have q:=af ((ae z).later hb (ae z).1);clear hb T8 z;go_wp2_with fail;refine(ae CC _).mono ?_;rintro e x10 ⟨rfl,rfl⟩;by_cases k1:CR=cr
         .
          subst k1;go_wp2_with fail;refine(ae Q _).mono ?_;rintro e x11 ⟨rfl,hb⟩;have T11:=af ((ae T9).later hb);have R:=af ((ae q).later hb (ae q).1);clear hb T9 q;by_cases k2:LN=TX.size
          .
           have ac:(LN:Int)=(TX.size:Int):=by omega
           go_wp2_with fail
           go_meet
           case rel=>exact⟨by simp[k2],ae T11,ae R⟩
          .
           have ac:¬ (LN:Int)=(TX.size:Int):=by omega
           go_wp2_with fail
           go_meet
           case rel=>exact⟨by simp[k2,ac],ae T11,ae R⟩
         .
          have cc:¬ (CR:Int)=(cr:Int):=by omega
          go_wp2_with fail
          go_meet
          case rel=>exact⟨by simp[k1],ae T9,ae q⟩
       case rest=>
        obtain⟨rfl,TB',U⟩:=hcut;have TB:=af TB';have O:=af U;clear TB' U T8 z;have o:Hid (oH s=if ((OK&&(decide (CR=cr)&&decide (LN=TX.size)))&&EB)=true then .tuple #[.agg #[.string NM,.int .i64 yy,.int .i64 mo,.int .i64 dd,.int .i64 hh,.int .i64 mi,.int .i64 ss,.string TX],.int .i64 (30+(NL:Int)+(LG:Int)),.bool true]else .tuple #[noE,.int .i64 0,.bool false]):=by
         have:=ae HL;show _=_;rw[this,Int.natCast_add,Int.natCast_add]
         congr 1
        generalize (OK&&(decide (CR=cr)&&decide (LN=TX.size)))=OB at *
        go_wp2_with fail;cases OB
        .
         have o:=af (show oH s = .tuple #[noE,.int .i64 0,.bool false]from ae o);refine wp_region_held_drew (S:=fun W=>Blk W A [.string NM,.int .i64 yy,.int .i64 mo,.int .i64 dd,.int .i64 hh,.int .i64 mi,.int .i64 ss,.string TX]) p (ae O).drew (fun f=>?_);refine ag 0 (.agg #[.string NM,.int .i64 yy,.int .i64 mo,.int .i64 dd,.int .i64 hh,.int .i64 mi,.int .i64 ss,.string TX]) rfl (by kernel_rfl) (fun _ _ _ h=>h) rfl (fun W c=>by have sA:=Blk.cells c (n:=8) rfl;go_simp) f ?_;refine ag 1 (.int .i64 (NL:Nat)) rfl (by kernel_rfl) (fun _ _ _ h=>h) rfl (fun W c=>by go_simp) f ?_;refine ag 2 (.int .i64 (30+(NL:Int))) rfl (by kernel_rfl) (fun _ _ _ h=>h) rfl (fun W c=>by go_simp) f ?_;refine ag 3 (.int .i64 (LG:Nat)) rfl (by kernel_rfl) (fun _ _ _ h=>h) rfl (fun W c=>by go_simp) f ?_;refine ag 4 (.int .i64 (30+(NL:Int)+(LG:Int))) rfl (by kernel_rfl) (fun _ _ _ h=>h) rfl (fun W c=>by go_simp) f ?_;refine ag 5 (.bool false) rfl (by kernel_rfl) (fun _ _ _ h=>h) rfl (fun W c=>by go_simp) f ?_;refine ag 6 (.bool false) rfl (by kernel_rfl) (fun _ _ _ h=>h) rfl (fun W c=>by go_simp) f ?_;refine ah 7 (by kernel_rfl) rfl fun K a=>?_;go_simp;refine Shut.out a _ _ f (fun f=>?_);clear a K;refine ah 8 (by kernel_rfl) rfl fun K a=>?_;go_simp;refine Shut.out a _ _ f (fun f=>?_);clear a K;refine ag 9 (.bool false) rfl (by kernel_rfl) (fun _ _ _ h=>h) rfl (fun W c=>by go_simp) f ?_;have TD:=af (ae TB).drew;have RD:=af (ae O).drew;clear TB O;generalize wc.drew=V1 at *
         refine ah 10 (by kernel_rfl) rfl fun K a=>?_;have E:=(ae TD).2.cells (n:=8) rfl;have gA:=(ae TD).2.frees (n:=8) rfl;go_simp;have ZZ:=af (ux (ae TD).1 (a0a _) (ae TD).2 (.string NM) (.int .i64 yy) (.int .i64 mo) (.int .i64 dd) (.int .i64 hh) (.int .i64 mi) (.int .i64 ss) (.string TX));have H:=af (nz (ae RD) (a1S k) (.string NM) (.int .i64 yy) (.int .i64 mo) (.int .i64 dd) (.int .i64 hh) (.int .i64 mi) (.int .i64 ss) (.string TX));clear E gA;refine Shut.out a _ _ (ae H) (fun f=>?_);clear a K;refine ah 11 (by kernel_rfl) rfl fun K a=>?_;go_simp;refine Shut.out a _ _ (ae H) (fun f=>?_);clear a K;refine ah 12 (by kernel_rfl) rfl fun K a=>?_;go_simp;refine Shut.out a _ _ (ae H) (fun f=>?_);clear a K;refine wpAnyH_done (by kernel_rfl) ?_ _;go_wp2;have zA:=(ae ZZ).2.cells (n:=8) rfl;refine a0t (v:=.tuple #[.agg #[.string NM,.int .i64 yy,.int .i64 mo,.int .i64 dd,.int .i64 hh,.int .i64 mi,.int .i64 ss,.string TX],.int .i64 (30+(NL:Int)+(LG:Int)),.bool false]) (by simp[results,a2y,go_sem,zA]) rfl ⟨⟨_,_,_,_,_,_,_,_,_,_,rfl,?_⟩,(ae ZZ).1⟩;exact ae o
        .
         refine wp_region_held_drew (S:=fun W=>Blk W A [.string NM,.int .i64 yy,.int .i64 mo,.int .i64 dd,.int .i64 hh,.int .i64 mi,.int .i64 ss,.string TX]) p (ae O).drew (fun f=>?_);refine ag 0 (.agg #[.string NM,.int .i64 yy,.int .i64 mo,.int .i64 dd,.int .i64 hh,.int .i64 mi,.int .i64 ss,.string TX]) rfl (by kernel_rfl) (fun _ _ _ h=>h) rfl (fun W c=>by have sA:=Blk.cells c (n:=8) rfl;go_simp) f ?_;refine ag 1 (.int .i64 (NL:Nat)) rfl (by kernel_rfl) (fun _ _ _ h=>h) rfl (fun W c=>by go_simp) f ?_;refine ag 2 (.int .i64 (30+(NL:Int))) rfl (by kernel_rfl) (fun _ _ _ h=>h) rfl (fun W c=>by go_simp) f ?_;refine ag 3 (.int .i64 (LG:Nat)) rfl (by kernel_rfl) (fun _ _ _ h=>h) rfl (fun W c=>by go_simp) f ?_;refine ag 4 (.int .i64 (30+(NL:Int)+(LG:Int))) rfl (by kernel_rfl) (fun _ _ _ h=>h) rfl (fun W c=>by go_simp) f ?_;refine ag 5 (.bool true) rfl (by kernel_rfl) (fun _ _ _ h=>h) rfl (fun W c=>by go_simp) f ?_;refine ag 6 (.bool true) rfl (by kernel_rfl) (fun _ _ _ h=>h) rfl (fun W c=>by go_simp) f ?_;have sA:=Blk.cells f (n:=8) rfl;refine ah 7 (by kernel_rfl) rfl fun K a=>?_;go_simp;refine Shut.out a _ _ f (fun f=>?_);clear a K;clear sA;have TC:=af (ae TB).drew;have RC:=af (ae O).drew;clear TB O;generalize wc.drew=V0 at *
         refine ah 8 (by kernel_rfl) rfl fun K a=>?_;go_simp;go_at_call 77;refine(ae CE V0).mono ?_;rintro e V1 ⟨rfl,g⟩;have TD:=af ((ae TC).later g);have RD:=af ((ae RC).later g (ae RC).1);refine Shut.out a _ _ (ae RD) (fun f=>?_);clear a K g TC RC;refine ag 9 (.bool EB) rfl (by kernel_rfl) (fun _ _ _ h=>h) rfl (fun W c=>by go_simp) f ?_;refine ah 10 (by kernel_rfl) rfl fun K a=>?_;have E:=(ae TD).2.cells (n:=8) rfl;have gA:=(ae TD).2.frees (n:=8) rfl;go_simp;have ZZ:=af (ux (ae TD).1 (a0a _) (ae TD).2 (.string NM) (.int .i64 yy) (.int .i64 mo) (.int .i64 dd) (.int .i64 hh) (.int .i64 mi) (.int .i64 ss) (.string TX));have H:=af (nz (ae RD) (a1S k) (.string NM) (.int .i64 yy) (.int .i64 mo) (.int .i64 dd) (.int .i64 hh) (.int .i64 mi) (.int .i64 ss) (.string TX));clear E gA;refine Shut.out a _ _ (ae H) (fun f=>?_);clear a K;refine ah 11 (by kernel_rfl) rfl fun K a=>?_;go_simp;refine Shut.out a _ _ (ae H) (fun f=>?_);clear a K;refine ah 12 (by kernel_rfl) rfl fun K a=>?_;go_simp;refine Shut.out a _ _ (ae H) (fun f=>?_);clear a K;refine wpAnyH_done (by kernel_rfl) ?_ _;go_wp2;have zA:=(ae ZZ).2.cells (n:=8) rfl;refine a0t (v:=.tuple #[.agg #[.string NM,.int .i64 yy,.int .i64 mo,.int .i64 dd,.int .i64 hh,.int .i64 mi,.int .i64 ss,.string TX],.int .i64 (30+(NL:Int)+(LG:Int)),.bool EB]) (by simp[results,a2y,go_sem,zA]) rfl ⟨⟨_,_,_,_,_,_,_,_,_,_,rfl,?_⟩,(ae ZZ).1⟩;exact ae o
     .
      have o:=af (OR (s:=s) t);generalize wd s.data.toList 26 2=NL at *
      generalize wd s.data.toList 18 4=LG at *
      have bq:(NL:Int)<65536:=by omega
      have be:(LG:Int)<4294967296:=by omega
      have Z:decide ((NL:Int)<0)=false:=by simp
      have X:decide ((LG:Int)<0)=false:=by simp
      have F:(s.size:Int)<30+(NL:Int)+(LG:Int):=by omega
      clear r u C M I L t Y V aa J;go_enter a2Q,a2R;go_wp2_with fail;refine(ae m _).mono ?_;rintro e x1 ⟨rfl,hb⟩;have T1:=af ((ae T0).later hb);clear hb T0;go_wp2_with fail;refine(ae l _).mono ?_;rintro e x2 ⟨rfl,hb⟩;have T2:=af ((ae T1).later hb);clear hb T1;go_wp2_with fail;refine(ae y _).mono ?_;rintro e x3 ⟨rfl,hb⟩;have T3:=af ((ae T2).later hb);clear hb T2;go_wp2_with fail;refine(ae D _).mono ?_;rintro e x4 ⟨rfl,hb⟩;have T4:=af ((ae T3).later hb);clear hb T3;go_wp2_with fail;refine(ae N _).mono ?_;rintro e x5 ⟨rfl,hb⟩;have T5:=af ((ae T4).later hb);clear hb T4;go_wp2_with fail;refine(ae B _).mono ?_;rintro e x6 ⟨rfl,hb⟩;have T6:=af ((ae T5).later hb);clear hb T5;have E:=(ae T6).2.cells (n:=8) rfl;have gA:=(ae T6).2.frees (n:=8) rfl;have ZZ:=af (ux (ae T6).1 (a0a _) (ae T6).2 (.string ⟨#[]⟩) (.int .i64 0) (.int .i64 0) (.int .i64 0) (.int .i64 0) (.int .i64 0) (.int .i64 0) (.string ⟨#[]⟩));go_wp2;have zA:=(ae ZZ).2.cells (n:=8) rfl;refine a0t (v:=.tuple #[.agg #[.string ⟨#[]⟩,.int .i64 0,.int .i64 0,.int .i64 0,.int .i64 0,.int .i64 0,.int .i64 0,.string ⟨#[]⟩],.int .i64 0,.bool false]) (by simp[results,a2y,go_sem,zA]) rfl ⟨⟨_,_,_,_,_,_,_,_,_,_,rfl,ae o⟩,(ae ZZ).1⟩
    .
     have o:=af (ry (s:=s) (fun h=>M h.2.2.2));rw[r]at y;rw[u]at D;rw[C]at N;clear r u C;have qb:(dw s 28 2 == 0)=false:=by simpa using M
     clear M;generalize dw s 28 2=i3 at *
     generalize dw s 26 2=i26 at *
     generalize dw s 18 4=i18 at *
     go_enter a2Q,a2R;go_wp2_with fail;refine(ae m _).mono ?_;rintro e x1 ⟨rfl,hb⟩;have T1:=af ((ae T0).later hb);clear hb T0;go_wp2_with fail;refine(ae l _).mono ?_;rintro e x2 ⟨rfl,hb⟩;have T2:=af ((ae T1).later hb);clear hb T1;go_wp2_with fail;refine(ae y _).mono ?_;rintro e x3 ⟨rfl,hb⟩;have T3:=af ((ae T2).later hb);clear hb T2;go_wp2_with fail;refine(ae D _).mono ?_;rintro e x4 ⟨rfl,hb⟩;have T4:=af ((ae T3).later hb);clear hb T3;go_wp2_with fail;refine(ae N _).mono ?_;rintro e x5 ⟨rfl,hb⟩;have T5:=af ((ae T4).later hb);clear hb T4;go_wp2_with fail;refine(ae B _).mono ?_;rintro e x6 ⟨rfl,hb⟩;have T6:=af ((ae T5).later hb);clear hb T5;have E:=(ae T6).2.cells (n:=8) rfl;have gA:=(ae T6).2.frees (n:=8) rfl;have ZZ:=af (ux (ae T6).1 (a0a _) (ae T6).2 (.string ⟨#[]⟩) (.int .i64 0) (.int .i64 0) (.int .i64 0) (.int .i64 0) (.int .i64 0) (.int .i64 0) (.string ⟨#[]⟩));go_wp2;have zA:=(ae ZZ).2.cells (n:=8) rfl;refine a0t (v:=.tuple #[.agg #[.string ⟨#[]⟩,.int .i64 0,.int .i64 0,.int .i64 0,.int .i64 0,.int .i64 0,.int .i64 0,.string ⟨#[]⟩],.int .i64 0,.bool false]) (by simp[results,a2y,go_sem,zA]) rfl ⟨⟨_,_,_,_,_,_,_,_,_,_,rfl,ae o⟩,(ae ZZ).1⟩
   .
    have o:=af (ry (s:=s) (fun h=>C h.2.2.1));rw[r]at y;rw[u]at D;clear r u;have qb:(dw s 6 2 == 0)=false:=by simpa using C
    clear C;generalize dw s 6 2=i2 at *
    generalize dw s 26 2=i26 at *
    generalize dw s 18 4=i18 at *
    go_enter a2Q,a2R;go_wp2_with fail;refine(ae m _).mono ?_;rintro e x1 ⟨rfl,hb⟩;have T1:=af ((ae T0).later hb);clear hb T0;go_wp2_with fail;refine(ae l _).mono ?_;rintro e x2 ⟨rfl,hb⟩;have T2:=af ((ae T1).later hb);clear hb T1;go_wp2_with fail;refine(ae y _).mono ?_;rintro e x3 ⟨rfl,hb⟩;have T3:=af ((ae T2).later hb);clear hb T2;go_wp2_with fail;refine(ae D _).mono ?_;rintro e x4 ⟨rfl,hb⟩;have T4:=af ((ae T3).later hb);clear hb T3;go_wp2_with fail;refine(ae N _).mono ?_;rintro e x5 ⟨rfl,hb⟩;have T5:=af ((ae T4).later hb);clear hb T4;have E:=(ae T5).2.cells (n:=8) rfl;have gA:=(ae T5).2.frees (n:=8) rfl;have ZZ:=af (ux (ae T5).1 (a0a _) (ae T5).2 (.string ⟨#[]⟩) (.int .i64 0) (.int .i64 0) (.int .i64 0) (.int .i64 0) (.int .i64 0) (.int .i64 0) (.string ⟨#[]⟩));go_wp2;have zA:=(ae ZZ).2.cells (n:=8) rfl;refine a0t (v:=.tuple #[.agg #[.string ⟨#[]⟩,.int .i64 0,.int .i64 0,.int .i64 0,.int .i64 0,.int .i64 0,.int .i64 0,.string ⟨#[]⟩],.int .i64 0,.bool false]) (by simp[results,a2y,go_sem,zA]) rfl ⟨⟨_,_,_,_,_,_,_,_,_,_,rfl,ae o⟩,(ae ZZ).1⟩
  .
   have o:=af (ry (s:=s) (fun h=>u h.2.1));rw[r]at y;clear r;have qb:(dw s 4 2 == 20)=false:=by simpa using u
   clear u;generalize dw s 4 2=i1 at *
   generalize dw s 26 2=i26 at *
   generalize dw s 18 4=i18 at *
   go_enter a2Q,a2R;go_wp2_with fail;refine(ae m _).mono ?_;rintro e x1 ⟨rfl,hb⟩;have T1:=af ((ae T0).later hb);clear hb T0;go_wp2_with fail;refine(ae l _).mono ?_;rintro e x2 ⟨rfl,hb⟩;have T2:=af ((ae T1).later hb);clear hb T1;go_wp2_with fail;refine(ae y _).mono ?_;rintro e x3 ⟨rfl,hb⟩;have T3:=af ((ae T2).later hb);clear hb T2;go_wp2_with fail;refine(ae D _).mono ?_;rintro e x4 ⟨rfl,hb⟩;have T4:=af ((ae T3).later hb);clear hb T3;have E:=(ae T4).2.cells (n:=8) rfl;have gA:=(ae T4).2.frees (n:=8) rfl;have ZZ:=af (ux (ae T4).1 (a0a _) (ae T4).2 (.string ⟨#[]⟩) (.int .i64 0) (.int .i64 0) (.int .i64 0) (.int .i64 0) (.int .i64 0) (.int .i64 0) (.string ⟨#[]⟩));go_wp2;have zA:=(ae ZZ).2.cells (n:=8) rfl;refine a0t (v:=.tuple #[.agg #[.string ⟨#[]⟩,.int .i64 0,.int .i64 0,.int .i64 0,.int .i64 0,.int .i64 0,.int .i64 0,.string ⟨#[]⟩],.int .i64 0,.bool false]) (by simp[results,a2y,go_sem,zA]) rfl ⟨⟨_,_,_,_,_,_,_,_,_,_,rfl,ae o⟩,(ae ZZ).1⟩
 .
  have o:=af (ry (s:=s) (fun h=>r h.1));have qb:(dw s 0 4 == 67324752)=false:=by simpa using r
  clear r;generalize dw s 0 4=i0 at *
  generalize dw s 26 2=i26 at *
  generalize dw s 18 4=i18 at *
  go_enter a2Q,a2R;go_wp2_with fail;refine(ae m _).mono ?_;rintro e x1 ⟨rfl,hb⟩;have T1:=af ((ae T0).later hb);clear hb T0;go_wp2_with fail;refine(ae l _).mono ?_;rintro e x2 ⟨rfl,hb⟩;have T2:=af ((ae T1).later hb);clear hb T1;go_wp2_with fail;refine(ae y _).mono ?_;rintro e x3 ⟨rfl,hb⟩;have T3:=af ((ae T2).later hb);clear hb T2;have E:=(ae T3).2.cells (n:=8) rfl;have gA:=(ae T3).2.frees (n:=8) rfl;have ZZ:=af (ux (ae T3).1 (a0a _) (ae T3).2 (.string ⟨#[]⟩) (.int .i64 0) (.int .i64 0) (.int .i64 0) (.int .i64 0) (.int .i64 0) (.int .i64 0) (.string ⟨#[]⟩));go_wp2;have zA:=(ae ZZ).2.cells (n:=8) rfl;refine a0t (v:=.tuple #[.agg #[.string ⟨#[]⟩,.int .i64 0,.int .i64 0,.int .i64 0,.int .i64 0,.int .i64 0,.int .i64 0,.string ⟨#[]⟩],.int .i64 0,.bool false]) (by simp[results,a2y,go_sem,zA]) rfl ⟨⟨_,_,_,_,_,_,_,_,_,_,rfl,ae o⟩,(ae ZZ).1⟩
def Wds(W:World)(B g c:Nat)(s:ByteArray):Prop:=Blk W B [.slice (some ⟨g,0,none⟩) 15 c]/\g<W.heap.size/\∀j,j<15->W.cell? ⟨g,j,none⟩=some (.int .i64 ((wd s.data.toList (2*j) 2:Nat):Int))
theorem Wds.later(h:Wds W B g c s)(hb:Below W.heap.size W W'):Wds W' B g c s:=
 ⟨h.1.later hb h.1.1,a0j h.2.1 hb.size,fun j a=>(hb.cell (p:=⟨g,j,none⟩) h.2.1).trans (h.2.2 j a)⟩
theorem Wds.drew(h:Wds W B g c s):Wds W.drew B g c s:=h
theorem Wds.set(h:Wds W B g c s)(a:B≠A)(h2:g≠A)(o:Nat)(v:Value):Wds (W.setCell ⟨A,o,none⟩ v) B g c s:=
 ⟨h.1.set_other v a,by simpa using h.2.1,fun j b=>(World.cell?_of_block (w:=W) (a0S W ⟨A,o,none⟩ v g h2)).trans (h.2.2 j b)⟩
theorem Pn{x y:Nat}(a:x<65536)(b:y<65536):bits .or .i64 (x:Int) ((y:Int)*65536)=((x+65536*y:Nat):Int):=by
 rw[Kc 16 (x:Int) ((y:Int)*65536) (by omega) (by omega) (by omega) (by omega) (by omega) (by omega)];omega
theorem kN(k B g c:Nat)(s:ByteArray)(w:World)(h:Wds w B g c s)(j:k+1<15)(a:30<=s.size) :
  CD 86 #[.int .i64 (k:Int),.pointer (some ⟨B,0,none⟩)] w (.int .i64 ((wd s.data.toList (2*k) 4:Nat):Int)):=by
 have c1:=h.1.cell 0 _ rfl;have c2:=h.2.2 k (by omega);have c3:=h.2.2 (k+1) j;have m:(k:Int)+1<15:=by omega
 have l:0<=(k:Int)+1:=by omega
 have b:=ib s.data.toList (2*k);have d:=ib s.data.toList (2*(k+1));have e:Hid (∀a:2*k+2<=s.data.toList.length,wd s.data.toList (2*k) 4=wd s.data.toList (2*k) 2+65536*wd s.data.toList (2*(k+1)) 2):=fun a=>Px a;generalize wd s.data.toList (2*k) 2=X at *
 generalize wd s.data.toList (2*(k+1)) 2=Y at *
 have f:=af (Pn b d);have i:(Y:Int)<65536:=by omega
 clear h b d;go_enter func86,ntmps86;go_wp2_with fail
 go_quiet (fail)
 go_wp2;go_ret;exact⟨aP (by rw[ae f,ae e (by simp;omega)]),below_drewN (a0c _ _) _⟩
theorem iW(s:ByteArray)(w:World)(b:s.size<=281474976710656) :
  CD 47 #[.string s] w (.string s):=by
 go_enter func47,ntmps47;go_wp2_with fail;refine(Tryz.stringslite_Clone s _ b).mono ?_;rintro e x1 ⟨rfl,a⟩;go_wp2;go_ret;exact⟨rfl,a⟩
def uxT(how:Nat)(b:ByteArray):ByteArray:=if how=0∨how=8 then txT how b else⟨#[]⟩
theorem AG(hb:b.size<=1048576):(uxT how b).size<=1048576:=by
 unfold uxT
 split
 . exact Ay hb
 . exact a0g _
theorem OT(h:txO how b=true):uxT how b=txT how b:=by
 unfold uxT;rw[a0e];unfold txO nW at h;by_cases a:how=0
 . exact .inl a
 .
  rw[a0d a]at h;by_cases c:how=8
  . exact .inr c
  . rw[a0d c]at h;cases h
theorem FZ(how:Nat)(st crc pk lg:Int)(nm b:ByteArray)(w:World)(hb:b.size<=1048576)(r:how<65536)(j:dO w) :
  CD 88 #[.agg #[.int .i64 (how:Int),.int .i64 st,.int .i64 crc,.int .i64 pk,.int .i64 lg,.string nm,.string b]] w (.tuple #[.string (uxT how b),.bool (txO how b)]):=by
 have h:prog.follows .mixedOrders=true:=by kernel_rfl
 have m:=af ((a0c w.heap.size w).alloc (a0a _) (.cells #[.int .i64 (how:Int),.int .i64 st,.int .i64 crc,.int .i64 pk,.int .i64 lg,.string nm,.string b] 92));have o:=af (au w #[.int .i64 (how:Int),.int .i64 st,.int .i64 crc,.int .i64 pk,.int .i64 lg,.string nm,.string b] 92);have B:(how:Int)<65536:=by omega
 by_cases g:how=0
 .
  subst g;have e1:uxT 0 b=b:=by simp[uxT,txT]
  have e2:txO 0 b=true:=by simp[txO,nW]
  rw[e1,e2];have y:=af (fun W=>iW b W (by omega));clear j hb r e1 e2;go_enter func88,a3S;go_wp2_with fail;refine(ae y _).mono ?_;rintro e x1 ⟨rfl,a⟩;have c:=af (ak (ae m) a);clear a;go_wp2
  go_ret2
  exact⟨rfl,ae c⟩
 .
  by_cases p:how=8
  .
   subst p;have l:=af (fun W (j:dO W)=>pD b W (by omega) j);have v:=af (j.later (ae m));rcases f:bZ b with _|⟨T,q⟩
   .
    have e1:uxT 8 b=⟨#[]⟩:=by simp[uxT,txT,f]
    have e2:txO 8 b=false:=by simp[txO,nW,f]
    rw[f]at l;rw[e1,e2];simp only[pB]at l;clear hb r f e1 e2 g j;go_enter func88,a3S;go_wp2_with fail;refine(ae l _ (ae v)).mono ?_;rintro e x1 ⟨rfl,a⟩;have c:=af (ak (ae m) a);have n:=((ae o).later a (ae o).1).cell 6 _ rfl;clear a;go_wp2_with fail;have u:=cell_regrown n;refine wp_region_quiet_below h (by kernel_rfl) ?_;repeat (quiet_step (fail))
    refine a01 ?_;intro zw k;obtain⟨⟨t,osq⟩,d⟩:=k;have i:=below_regrown x1 t osq;rw[←d]at i;have s:=af (ak (ae c) i);clear d i u n;go_wp2
    go_ret2
    exact⟨rfl,ae s⟩
   .
    obtain⟨C,hq⟩:=pz f;have e1:uxT 8 b=⟨T.toArray⟩:=by simp[uxT,txT,f]
    have e2:txO 8 b=decide (((q/8:Nat):Int)=(b.size:Int)):=by
     unfold txO nW;rw[a0d g,a0e rfl,f];by_cases x:q/8=b.size
     . rw[a0y (by omega)];simp[x]
     . rw[a0i (by omega)];simp[x]
    rw[f]at l;rw[e1,e2];simp only[pB]at l;clear hb r f e1 e2 g hq j;generalize (⟨T.toArray⟩:ByteArray)=X at *
    generalize q/8=q8 at *
    go_enter func88,a3S;go_wp2_with fail;refine(ae l _ (ae v)).mono ?_;rintro e x1 ⟨rfl,a⟩;have c:=af (ak (ae m) a);have n:=((ae o).later a (ae o).1).cell 6 _ rfl;clear a;go_wp2_with fail;have u:=cell_regrown n;refine wp_region_quiet_below h (by kernel_rfl) ?_;repeat (quiet_step (fail))
    refine a01 ?_;intro zw k;obtain⟨⟨t,osq⟩,d⟩:=k;have i:=below_regrown x1 t osq;rw[←d]at i;have s:=af (ak (ae c) i);clear d i u n;go_wp2
    go_ret2
    exact⟨rfl,ae s⟩
  .
   have A:((how:Int) == 8)=false:=by simp;omega
   have z:((how:Int) == 0)=false:=by simp[g]
   have e1:uxT how b=⟨#[]⟩:=by simp[uxT,g,p]
   have e2:txO how b=false:=by simp[txO,nW,g,p]
   rw[e1,e2];clear hb r e1 e2 g p j;go_enter func88,a3S;go_wp2
   go_ret2
   exact⟨rfl,ae m⟩
def HgS(w W:World):Prop:=Below w.heap.size w W/\Blk W w.heap.size [.int .i64 0,.int .i64 0,.int .i64 0,.int .i64 0,.int .i64 0,.string ⟨#[]⟩,.string ⟨#[]⟩]
theorem HgS.later(k:HgS w W)(hb:Below W.heap.size W W'):HgS w W':=⟨ak k.1 hb,k.2.later hb k.2.1⟩
theorem HgS.drew(k:HgS w W):HgS w W.drew:=⟨k.1.drew,k.2.drew⟩
theorem HgS.set(k:HgS w W)(a:w.heap.size<A)(o:Nat)(v:Value):HgS w (W.setCell ⟨A,o,none⟩ v):=⟨aj k.1 (a0C a) _,k.2.set_other v (by omega)⟩
theorem HgS.set6(k:HgS w W)(a:w.heap.size<A)(a0 a1 a2 a3 a4 a5:Value):HgS w ((((((W.setCell ⟨A,0,none⟩ a0).setCell ⟨A,1,none⟩ a1).setCell ⟨A,2,none⟩ a2).setCell ⟨A,3,none⟩ a3).setCell ⟨A,4,none⟩ a4).setCell ⟨A,5,none⟩ a5):=((((((k.set a 0 a0).set a 1 a1).set a 2 a2).set a 3 a3).set a 4 a4).set a 5 a5)
theorem HgS.set7(k:HgS w W)(a:w.heap.size<A)(a0 a1 a2 a3 a4 a5 a6:Value):HgS w (((((((W.setCell ⟨A,0,none⟩ a0).setCell ⟨A,1,none⟩ a1).setCell ⟨A,2,none⟩ a2).setCell ⟨A,3,none⟩ a3).setCell ⟨A,4,none⟩ a4).setCell ⟨A,5,none⟩ a5).setCell ⟨A,6,none⟩ a6):=(((((((k.set a 0 a0).set a 1 a1).set a 2 a2).set a 3 a3).set a 4 a4).set a 5 a5).set a 6 a6)
theorem Wds.set6(h:Wds W B g c s)(a:B≠A)(h2:g≠A)(a0 a1 a2 a3 a4 a5:Value):Wds ((((((W.setCell ⟨A,0,none⟩ a0).setCell ⟨A,1,none⟩ a1).setCell ⟨A,2,none⟩ a2).setCell ⟨A,3,none⟩ a3).setCell ⟨A,4,none⟩ a4).setCell ⟨A,5,none⟩ a5) B g c s:=((((((h.set a h2 0 a0).set a h2 1 a1).set a h2 2 a2).set a h2 3 a3).set a h2 4 a4).set a h2 5 a5)
def Flo(w W:World)(z:List Value)(o:Option Nat)(E:World->Prop)(N:Nat->Prop):Prop:=HgS w W/\E W/\(∀V V':World,Below V.heap.size V V'->E V->E V')/\∀A,o=some A->w.heap.size<A/\N A/\Blk W A z
theorem Flo.call{o:Option Nat}{E':World->Prop}{N':Nat->Prop}(h:Flo w W z o E N)(b:Below W.heap.size W W')(e:E' W')(m:∀V V':World,Below V.heap.size V V'->E' V->E' V')(n:∀A,N A->A<W.heap.size->N' A):Flo w W' z o E' N':=
 ⟨h.1.later b,e,m,fun A q=>have r:=h.2.2.2 A q; ⟨r.1,n A r.2.1 r.2.2.1,r.2.2.later b r.2.2.1⟩⟩
theorem Flo.later{o:Option Nat}(h:Flo w W z o E N)(b:Below W.heap.size W W'):Flo w W' z o E N:=h.call b (h.2.2.1 _ _ b h.2.1) h.2.2.1 (fun _ k _=>k)
theorem Flo.lay(h:Flo w W z none E N)(n:N W.heap.size)(u:TypeId):Flo w (W.alloc (.cells z.toArray u)) z (some W.heap.size) E N:=
 have b:Below W.heap.size W (W.alloc (.cells z.toArray u)):=(a0c _ _).alloc (a0a _) _
 ⟨h.1.later b,h.2.2.1 _ _ b h.2.1,h.2.2.1,fun A q=>by
  obtain rfl:=a02 q;exact⟨h.1.2.1,n,au W z.toArray u⟩⟩
theorem Nz(h:g<W.heap.size/\∀j,j<15->W.cell? ⟨g,j,none⟩=some (.int .i64 ((wd s.data.toList (2*j) 2:Nat):Int)))(a:g≠A)(o:Nat)(v:Value):g<(W.setCell ⟨A,o,none⟩ v).heap.size/\∀j,j<15->(W.setCell ⟨A,o,none⟩ v).cell? ⟨g,j,none⟩=some (.int .i64 ((wd s.data.toList (2*j) 2:Nat):Int)):=
 ⟨by simpa using h.1,fun j b=>(World.cell?_of_block (w:=W) (a0S W ⟨A,o,none⟩ v g a)).trans (h.2 j b)⟩
theorem wK(s:ByteArray)(a:Option Addr)(w:World)(h:bu w a (List.replicate 15 16))(f:30<=s.size) :
  Calls prog 84 #[.string (s.extract 0 30),.slice a 15 15] w fun e w'=>∃g c,e = .returned (.tuple #[.slice (some ⟨g,0,none⟩) 15 c,.bool true])/\(w.heap.size<=g/\g<w'.heap.size)/\(∀j,j<15->w'.cell? ⟨g,j,none⟩=some (.int .i64 ((wd s.data.toList (2*j) 2:Nat):Int)))/\Below w.heap.size w w':=by
 have e0:(s.extract 0 30).data.toList=s.data.toList.take 30:=by rw[ext_list,a1D]
 have i:30<=s.data.toList.length:=by simpa using f
 have m:(s.extract 0 30).size<=2000000:=by rw[a1p];omega
 refine(rf (s.extract 0 30) a 15 (List.replicate 15 16) w h m (by simp)).mono ?_;rintro e w' ⟨v,rfl,d,hb⟩;rw[e0]at d;rw[e0,wL i];have k:=Jj i;obtain⟨b,c,rfl⟩:=d.formN k;obtain⟨g,rfl⟩:=d.somes (by rw[k];decide);refine⟨g,c,rfl,d.below,fun j l=>?_,hb⟩;have:=(d.at k l).1;rw[BQ i j l]at this;exact this
def HgO(s:ByteArray)(a b c d f:Nat)(n t:ByteArray):Prop:=a<65536/\b<4294967296/\c<4294967296/\d<4294967296/\f<4294967296/\n.size<=s.size/\t.size<=s.size
def HgP(s:ByteArray)(e:Ending):Prop:=
 (hdB s=true/\e = .returned (.tuple #[.agg #[.int .i64 (wd s.data.toList 8 2:Nat),.int .i64 (wd s.data.toList 10 4:Nat),.int .i64 (wd s.data.toList 14 4:Nat),.int .i64 (wd s.data.toList 18 4:Nat),.int .i64 (wd s.data.toList 22 4:Nat),.string (nmB s),.string (bdB s)],.bool true])) ∨
 (hdB s=false/\∃(a b c d f:Nat) (n t:ByteArray),HgO s a b c d f n t/\e = .returned (.tuple #[.agg #[.int .i64 (a:Nat),.int .i64 (b:Nat),.int .i64 (c:Nat),.int .i64 (d:Nat),.int .i64 (f:Nat),.string n,.string t],.bool false]))
theorem Jm(h:hdB s=false)(a b c d f:Nat)(n t:ByteArray)(k:HgO s a b c d f n t):HgP s (.returned (.tuple #[.agg #[.int .i64 (a:Nat),.int .i64 (b:Nat),.int .i64 (c:Nat),.int .i64 (d:Nat),.int .i64 (f:Nat),.string n,.string t],.bool false])):=.inr ⟨h,a,b,c,d,f,n,t,k,rfl⟩
theorem yI: HgO s 0 0 0 0 0 ⟨#[]⟩ ⟨#[]⟩:=⟨by decide,by decide,by decide,by decide,by decide,a0g _,a0g _⟩
theorem pL(s:ByteArray)(w:World)(hs:s.size<=1048576) :
  Calls prog 61 #[.string s] w fun e w'=>HgP s e/\Below w.heap.size w w':=by
 have r:prog.follows .mixedOrders=true:=by kernel_rfl
 have b2:(s.size:Int)<=1048576:=by omega
 have T0:Hid (HgS w (w.alloc (.cells #[.int .i64 0,.int .i64 0,.int .i64 0,.int .i64 0,.int .i64 0,.string ⟨#[]⟩,.string ⟨#[]⟩] 92))):=⟨(a0c _ _).alloc (a0a _) _,au w #[.int .i64 0,.int .i64 0,.int .i64 0,.int .i64 0,.int .i64 0,.string ⟨#[]⟩,.string ⟨#[]⟩] 92⟩;by_cases z:30<=s.size
 .
  have a5:s.extract 0 30=s.extract 0 30:=rfl;obtain⟨HD,hHD⟩:∃x,s.extract 0 30=x:=⟨_,rfl⟩;have O:Hid (∀M W,W.cell? ⟨M,0,none⟩=some (.int .i64 16)->Calls prog 85 #[.slice (some ⟨M,0,none⟩) 1 1,.int .i64 15] W fun e w'=>e = .returned (.slice (some ⟨W.heap.size,0,none⟩) 15 15)/\ay w' W.heap.size (.slice (some ⟨W.heap.size,0,none⟩) 15 15) (List.replicate 15 16)/\Below W.heap.size W w'):=fun M W h=>nH 16 15 1 M 0 W h (by omega) (by omega);have CB:Hid (∀a W,bu W a (List.replicate 15 16)->Calls prog 84 #[.string HD,.slice a 15 15] W fun e w'=>∃g c,e = .returned (.tuple #[.slice (some ⟨g,0,none⟩) 15 c,.bool true])/\(W.heap.size<=g/\g<w'.heap.size)/\(∀j,j<15->w'.cell? ⟨g,j,none⟩=some (.int .i64 ((wd s.data.toList (2*j) 2:Nat):Int)))/\Below W.heap.size W w'):=by rw[←hHD];exact fun a W h=>wK s a W h z
  obtain⟨HW,hHW⟩:∃x,wd s.data.toList 8 2=x:=⟨_,rfl⟩;obtain⟨ST,hST⟩:∃x,wd s.data.toList 10 4=x:=⟨_,rfl⟩;obtain⟨CR,hCR⟩:∃x,wd s.data.toList 14 4=x:=⟨_,rfl⟩;obtain⟨PK,hPK⟩:∃x,wd s.data.toList 18 4=x:=⟨_,rfl⟩;obtain⟨LN,hLN⟩:∃x,wd s.data.toList 22 4=x:=⟨_,rfl⟩;obtain⟨NL,hNL⟩:∃x,wd s.data.toList 26 2=x:=⟨_,rfl⟩;have k:=af (a0b hHW (a0b hST (a0b hCR (a0b hPK (a0b hLN hNL)))));have lHW:HW<65536:=by rw[←hHW];exact ib _ _
  have lST:ST<4294967296:=by rw[←hST];exact ea _ _
  have lCR:CR<4294967296:=by rw[←hCR];exact ea _ _
  have lPK:PK<4294967296:=by rw[←hPK];exact ea _ _
  have lLN:LN<4294967296:=by rw[←hLN];exact ea _ _
  have lNL:NL<65536:=by rw[←hNL];exact ib _ _
  have Z:30<=(s.size:Int):=by omega
  have a6:decide ((s.size:Int)<30)=false:=by simp;omega
  have t:=af (a0b lHW (a0b lST (a0b lCR (a0b lPK (a0b lLN lNL)))));have a7:(NL:Int)<65536:=by omega
  have a9:(PK:Int)<4294967296:=by omega
  have y:=af z;clear hHW hST hCR hPK hLN hNL lHW lST lCR lPK lLN lNL z a5;go_enter func61,ntmps61;go_wp2_with fail;go_cut[4,5] (fun v u wx=>(∃B g c,v = .pointer (some ⟨B,0,none⟩)/\w.heap.size<B/\w.heap.size<g/\HgS w wx/\Wds wx B g c s)/\u = .bool true)
  case first=>
   obtain⟨W0,hW0⟩:∃x,w.alloc (.cells #[.int .i64 0,.int .i64 0,.int .i64 0,.int .i64 0,.int .i64 0,.string ⟨#[]⟩,.string ⟨#[]⟩] 92)=x:=⟨_,rfl⟩;rw[hW0]at T0;rw[hW0];clear hW0;refine wp_region_held_drew (S:=fun _=>True) r trivial (fun _=>?_);refine wpAnyH_take (i:=0) (v:=.string s) rfl (by kernel_rfl) (by kernel_rfl) (by kernel_rfl) (fun _ _ _ h=>h) (a0s ⟨by rfl,fun W d=>by go_simp⟩) trivial ?_;refine wpAnyH_take (i:=1) (v:=.string HD) rfl (by kernel_rfl) (by kernel_rfl) (by kernel_rfl) (fun _ _ _ h=>h) (a0s ⟨by rfl,fun W d=>by go_simp⟩) trivial ?_;have T1:=af (ae T0).drew;clear T0;generalize W0.drew=W1 at *
   have X:Hid (Flo w W1 [.slice none 0 0] none (fun _=>True) (fun _=>True)):=⟨ae T1,trivial,fun _ _ _ h=>h,nofun⟩;clear T1;refine wpAnyH_ready (rs:=[2,8]) (by kernel_rfl) (by simp) ?_;refine AllReadyH.cons rfl (fun K f=>?c1) (AllReadyH.cons rfl (fun K f=>?a1) AllReadyH.nil)
   case' a1=>
    go_simp
    replace X:=af ((ae X).lay trivial 65)
    refine Shut.out f _ _ trivial (fun _=>?_);clear f K;generalize W1.heap.size=A at *
    generalize W1.alloc (.cells #[.slice none 0 0] 65)=W1 at *
    refine ah 2 (by kernel_rfl) rfl fun K f=>?_
   all_goals
    go_simp;have o:Below W1.heap.size W1 (W1.alloc (.cells #[.int .i64 16] 3)):=(a0c _ _).alloc (a0a _) _
    replace X:=af ((ae X).call (E':=fun V=>Blk V W1.heap.size [.int .i64 16]) (N':=fun _=>True) o (au W1 #[.int .i64 16] 3) (fun _ _ b h=>Blk.later h b h.1) (fun _ _ _=>trivial))
    refine Shut.out f _ _ trivial (fun _=>?_);clear f K o;generalize W1.heap.size=M at *
    generalize W1.alloc (.cells #[.int .i64 16] 3)=W2 at *
   case' c1=>
    refine wpAnyH_ready (rs:=[3,8]) (by kernel_rfl) (by simp) ?_;refine AllReadyH.cons rfl (fun K f=>?c2) (AllReadyH.cons rfl (fun K f=>?a2) AllReadyH.nil)
    case' a2=>
     go_simp
     replace X:=af ((ae X).lay trivial 65)
     refine Shut.out f _ _ trivial (fun _=>?_);clear f K;generalize W2.heap.size=A at *
     generalize W2.alloc (.cells #[.slice none 0 0] 65)=W2 at *
     refine ah 3 (by kernel_rfl) rfl fun K f=>?_
   case' a1=>
    refine ah 3 (by kernel_rfl) rfl fun K f=>?_
   all_goals
    go_simp;go_at_call 85;refine(ae O M W2 (Blk.cell (ae X).2.1 0 _ rfl)).mono ?_;rintro e W3 ⟨rfl,ho,o⟩
    replace X:=af ((ae X).call (E':=fun V=>bu V (some ⟨W2.heap.size,0,none⟩) (List.replicate 15 16)) (N':=fun _=>True) o (ay.rowN (n:=15) (by simp) ho) (fun _ _ b h=>bu.later h b) (fun _ _ _=>trivial))
    refine Shut.out f _ _ trivial (fun _=>?_);clear f K ho o;generalize W2.heap.size=rb at *
   case' c2=>
    refine wpAnyH_ready (rs:=[4,8]) (by kernel_rfl) (by simp) ?_;refine AllReadyH.cons rfl (fun K f=>?c3) (AllReadyH.cons rfl (fun K f=>?a3) AllReadyH.nil)
    case' a3=>
     go_simp
     replace X:=af ((ae X).lay trivial 65)
     refine Shut.out f _ _ trivial (fun _=>?_);clear f K;generalize W3.heap.size=A at *
     generalize W3.alloc (.cells #[.slice none 0 0] 65)=W3 at *
     refine ah 4 (by kernel_rfl) rfl fun K f=>?_
   case' a1|a2=>
    refine ah 4 (by kernel_rfl) rfl fun K f=>?_
   all_goals
    go_simp;go_at_call 84;refine(ae CB (some ⟨rb,0,none⟩) W3 (ae X).2.1).mono ?_;rintro e W4 ⟨g,c,rfl,E,q,o⟩;have ab:w.heap.size<g:=a0j (ae X).1.2.1 E.1
    replace X:=af ((ae X).call (E':=fun V=>g<V.heap.size/\∀j,j<15->V.cell? ⟨g,j,none⟩=some (.int .i64 ((wd s.data.toList (2*j) 2:Nat):Int))) (N':=fun A=>g≠A) o ⟨E.2,q⟩ (fun _ _ b h=>⟨a0j h.1 b.size,fun j hj=>(b.cell (p:=⟨g,j,none⟩) h.1).trans (h.2 j hj)⟩) (fun A _ D=>a1S (a0j D E.1)))
    refine Shut.out f _ _ trivial (fun _=>?_);clear f K E q o;refine wpAnyH_take (i:=5) (v:=.tuple #[.slice (some ⟨g,0,none⟩) 15 c,.bool true]) rfl (by kernel_rfl) (by kernel_rfl) (by kernel_rfl) (fun _ _ _ h=>h) (a0s ⟨by rfl,fun W d=>by go_simp⟩) trivial ?_;refine wpAnyH_take (i:=6) (v:=.slice (some ⟨g,0,none⟩) 15 c) rfl (by kernel_rfl) (by kernel_rfl) (by kernel_rfl) (fun _ _ _ h=>h) (a0s ⟨by rfl,fun W d=>by go_simp⟩) trivial ?_;refine wpAnyH_take (i:=7) (v:=.bool true) rfl (by kernel_rfl) (by kernel_rfl) (by kernel_rfl) (fun _ _ _ h=>h) (a0s ⟨by rfl,fun W d=>by go_simp⟩) trivial ?_
   case' c3=>
    refine ah 8 (by kernel_rfl) rfl fun K f=>?_;go_simp
    replace X:=af ((ae X).lay (a1x (ae X).2.1.1) 65)
    refine Shut.out f _ _ trivial (fun _=>?_);clear f K;generalize W4.heap.size=A at *
    generalize W4.alloc (.cells #[.slice none 0 0] 65)=W4 at *
   all_goals
    refine ah 9 (by kernel_rfl) rfl fun K f=>?_;obtain⟨T5,G5,_,R⟩:=ae X;obtain⟨D,al,C⟩:=R _ rfl;have a0:=C.cell 0 _ rfl;have f0:=C.free 0 (by decide);have T5:=af T5;have G5:=af G5;have C:=af C;clear X R;go_simp;have TX':=af ((ae T5).set D 0 (.slice (some ⟨g,0,none⟩) 15 c));have H:=af ((ae C).set 0 (.slice (some ⟨g,0,none⟩) 15 c));have GX':=af (Nz (ae G5) al 0 (.slice (some ⟨g,0,none⟩) 15 c));clear a0 f0;refine Shut.out f _ _ trivial (fun _=>?_);clear f K;refine ah 10 (by kernel_rfl) rfl fun K f=>?_;go_simp;refine Shut.out f _ _ trivial (fun _=>?_);clear f K;refine wpAnyH_done (by kernel_rfl) ?_ _;go_wp2_with fail
    go_meet
    case rel=>exact⟨⟨A,g,c,rfl,D,ab,ae TX',ae H,(ae GX').1,(ae GX').2⟩,rfl⟩
  case rest=>
   obtain⟨⟨B,g,c,rfl,b1,ab,T1',G1'⟩,rfl⟩:=hcut;have T1:=af T1';have G1:=af G1';clear T1' G1' T0;have C5:Hid (∀W,Wds W B g c s->CD 86 #[.int .i64 5,.pointer (some ⟨B,0,none⟩)] W (.int .i64 (ST:Nat))):=fun W h=>by rw[←(ae k).2.1];exact kN 5 B g c s W h (by omega) (ae y)
   have C7:Hid (∀W,Wds W B g c s->CD 86 #[.int .i64 7,.pointer (some ⟨B,0,none⟩)] W (.int .i64 (CR:Nat))):=fun W h=>by rw[←(ae k).2.2.1];exact kN 7 B g c s W h (by omega) (ae y)
   have C9:Hid (∀W,Wds W B g c s->CD 86 #[.int .i64 9,.pointer (some ⟨B,0,none⟩)] W (.int .i64 (PK:Nat))):=fun W h=>by rw[←(ae k).2.2.2.1];exact kN 9 B g c s W h (by omega) (ae y)
   have N:Hid (∀W,Wds W B g c s->CD 86 #[.int .i64 11,.pointer (some ⟨B,0,none⟩)] W (.int .i64 (LN:Nat))):=fun W h=>by rw[←(ae k).2.2.2.2.1];exact kN 11 B g c s W h (by omega) (ae y)
   have W4:Hid (∀W,Wds W B g c s->W.cell? ⟨g,4,none⟩=some (.int .i64 (HW:Nat))):=fun W h=>by rw[←(ae k).1];exact h.2.2 4 (by omega)
   have W13:Hid (∀W,Wds W B g c s->W.cell? ⟨g,13,none⟩=some (.int .i64 (NL:Nat))):=fun W h=>by rw[←(ae k).2.2.2.2.2];exact h.2.2 13 (by omega)
   go_wp2_with fail;go_cut[7] (fun v wx=>∃A,v = .pointer (some ⟨A,0,none⟩)/\w.heap.size<A/\B<A/\g<A/\HgS w wx/\Wds wx B g c s/\Blk wx A [.int .i64 (HW:Nat),.int .i64 (ST:Nat),.int .i64 (CR:Nat),.int .i64 (PK:Nat),.int .i64 (LN:Nat),.string ⟨#[]⟩])
   case first=>
    refine wp_region_held_drew (S:=fun W=>Wds W B g c s) r (ae G1).drew (fun m=>?_);refine ag 0 (.slice (some ⟨g,0,none⟩) 15 c) rfl (by kernel_rfl) (fun _ _ _ h=>h) rfl (fun W d=>by have s0:=Blk.cell d.1 0 _ rfl;go_simp) m ?_;refine ag 1 (.pointer (some ⟨g,4,none⟩)) rfl (by kernel_rfl) (fun _ _ _ h=>h) rfl (fun W d=>by go_simp) m ?_;refine ag 2 (.int .i64 (HW:Nat)) rfl (by kernel_rfl) (fun _ _ _ h=>h) rfl (fun W d=>by have s1:=ae W4 W d;go_simp) m ?_;refine ag 3 (.func (.func 86) #[] #[.pointer (some ⟨B,0,none⟩)]) rfl (by kernel_rfl) (fun _ _ _ h=>h) rfl (fun W d=>by go_simp) m ?_;refine ag 5 (.func (.func 86) #[] #[.pointer (some ⟨B,0,none⟩)]) rfl (by kernel_rfl) (fun _ _ _ h=>h) rfl (fun W d=>by go_simp) m ?_;refine ag 7 (.func (.func 86) #[] #[.pointer (some ⟨B,0,none⟩)]) rfl (by kernel_rfl) (fun _ _ _ h=>h) rfl (fun W d=>by go_simp) m ?_;refine ag 9 (.func (.func 86) #[] #[.pointer (some ⟨B,0,none⟩)]) rfl (by kernel_rfl) (fun _ _ _ h=>h) rfl (fun W d=>by go_simp) m ?_;have T2:=af (ae T1).drew;have G2:=af (ae G1).drew;clear T1 G1;generalize wc.drew=W2 at *
    have X:Hid (Flo w W2 [.int .i64 0,.int .i64 0,.int .i64 0,.int .i64 0,.int .i64 0,.string ⟨#[]⟩] none (fun V=>Wds V B g c s) (fun A=>B<A/\g<A)):=⟨ae T2,ae G2,fun _ _ b h=>Wds.later h b,nofun⟩;clear T2 G2;refine wpAnyH_ready (rs:=[4,12]) (by kernel_rfl) (by simp) ?_;refine AllReadyH.cons rfl (fun K f=>?d1) (AllReadyH.cons rfl (fun K f=>?e1) AllReadyH.nil)
    case' e1=>
     go_simp
     replace X:=af ((ae X).lay ⟨(ae X).2.1.1.1,(ae X).2.1.2.1⟩ 90)
     refine Shut.out f _ _ (ae X).2.1 (fun m=>?_);clear f K;generalize W2.heap.size=A at *
     generalize W2.alloc (.cells #[.int .i64 0,.int .i64 0,.int .i64 0,.int .i64 0,.int .i64 0,.string ⟨#[]⟩] 90)=W2 at *
     refine ah 4 (by kernel_rfl) rfl fun K f=>?_
    all_goals
     go_simp;go_at_call 86;refine(ae C5 W2 (ae X).2.1).mono ?_;rintro e W3 ⟨rfl,o⟩
     replace X:=af ((ae X).later o)
     refine Shut.out f _ _ (ae X).2.1 (fun m=>?_);clear f K o
    case' d1=>
     refine wpAnyH_ready (rs:=[6,12]) (by kernel_rfl) (by simp) ?_;refine AllReadyH.cons rfl (fun K f=>?d2) (AllReadyH.cons rfl (fun K f=>?e2) AllReadyH.nil)
     case' e2=>
      go_simp
      replace X:=af ((ae X).lay ⟨(ae X).2.1.1.1,(ae X).2.1.2.1⟩ 90)
      refine Shut.out f _ _ (ae X).2.1 (fun m=>?_);clear f K;generalize W3.heap.size=A at *
      generalize W3.alloc (.cells #[.int .i64 0,.int .i64 0,.int .i64 0,.int .i64 0,.int .i64 0,.string ⟨#[]⟩] 90)=W3 at *
      refine ah 6 (by kernel_rfl) rfl fun K f=>?_
    case' e1=>
     refine ah 6 (by kernel_rfl) rfl fun K f=>?_
    all_goals
     go_simp;go_at_call 86;refine(ae C7 W3 (ae X).2.1).mono ?_;rintro e W4 ⟨rfl,o⟩
     replace X:=af ((ae X).later o)
     refine Shut.out f _ _ (ae X).2.1 (fun m=>?_);clear f K o
    case' d2=>
     refine wpAnyH_ready (rs:=[8,12]) (by kernel_rfl) (by simp) ?_;refine AllReadyH.cons rfl (fun K f=>?d3) (AllReadyH.cons rfl (fun K f=>?e3) AllReadyH.nil)
     case' e3=>
      go_simp
      replace X:=af ((ae X).lay ⟨(ae X).2.1.1.1,(ae X).2.1.2.1⟩ 90)
      refine Shut.out f _ _ (ae X).2.1 (fun m=>?_);clear f K;generalize W4.heap.size=A at *
      generalize W4.alloc (.cells #[.int .i64 0,.int .i64 0,.int .i64 0,.int .i64 0,.int .i64 0,.string ⟨#[]⟩] 90)=W4 at *
      refine ah 8 (by kernel_rfl) rfl fun K f=>?_
    case' e1|e2=>
     refine ah 8 (by kernel_rfl) rfl fun K f=>?_
    all_goals
     go_simp;go_at_call 86;refine(ae C9 W4 (ae X).2.1).mono ?_;rintro e W5 ⟨rfl,o⟩
     replace X:=af ((ae X).later o)
     refine Shut.out f _ _ (ae X).2.1 (fun m=>?_);clear f K o
    case' d3=>
     refine wpAnyH_ready (rs:=[10,12]) (by kernel_rfl) (by simp) ?_;refine AllReadyH.cons rfl (fun K f=>?d4) (AllReadyH.cons rfl (fun K f=>?e4) AllReadyH.nil)
     case' e4=>
      go_simp
      replace X:=af ((ae X).lay ⟨(ae X).2.1.1.1,(ae X).2.1.2.1⟩ 90)
      refine Shut.out f _ _ (ae X).2.1 (fun m=>?_);clear f K;generalize W5.heap.size=A at *
      generalize W5.alloc (.cells #[.int .i64 0,.int .i64 0,.int .i64 0,.int .i64 0,.int .i64 0,.string ⟨#[]⟩] 90)=W5 at *
      refine ah 10 (by kernel_rfl) rfl fun K f=>?_
    case' e1|e2|e3=>
     refine ah 10 (by kernel_rfl) rfl fun K f=>?_
    all_goals
     go_simp;go_at_call 86;refine(ae N W5 (ae X).2.1).mono ?_;rintro e W6 ⟨rfl,o⟩
     replace X:=af ((ae X).later o)
     refine Shut.out f _ _ (ae X).2.1 (fun m=>?_);clear f K o;refine ag 11 (.agg #[.int .i64 (HW:Nat),.int .i64 (ST:Nat),.int .i64 (CR:Nat),.int .i64 (PK:Nat),.int .i64 (LN:Nat),.string ⟨#[]⟩]) rfl (by kernel_rfl) (fun _ _ _ h=>h) rfl (fun W d=>by go_simp) m ?_
    case' d4=>
     refine ah 12 (by kernel_rfl) rfl fun K f=>?_;go_simp
     replace X:=af ((ae X).lay ⟨(ae X).2.1.1.1,(ae X).2.1.2.1⟩ 90)
     refine Shut.out f _ _ (ae X).2.1 (fun m=>?_);clear f K;generalize W6.heap.size=A at *
     generalize W6.alloc (.cells #[.int .i64 0,.int .i64 0,.int .i64 0,.int .i64 0,.int .i64 0,.string ⟨#[]⟩] 90)=W6 at *
    all_goals
     refine ah 13 (by kernel_rfl) rfl fun K f=>?_;obtain⟨T7,G7,_,R⟩:=ae X;obtain⟨D,⟨I,J⟩,Y⟩:=R _ rfl;have aA:=Y.cells (n:=6) rfl;have fA:=Y.frees (n:=6) rfl;have T7:=af T7;have G7:=af G7;have Y:=af Y;clear X R;go_simp;have TX':=af ((ae T7).set6 D (.int .i64 (HW:Nat)) (.int .i64 (ST:Nat)) (.int .i64 (CR:Nat)) (.int .i64 (PK:Nat)) (.int .i64 (LN:Nat)) (.string ⟨#[]⟩));have H:=af ((ae Y).set6 (.int .i64 (HW:Nat)) (.int .i64 (ST:Nat)) (.int .i64 (CR:Nat)) (.int .i64 (PK:Nat)) (.int .i64 (LN:Nat)) (.string ⟨#[]⟩));have GX':=af ((ae G7).set6 (a1x I) (a1x J) (.int .i64 (HW:Nat)) (.int .i64 (ST:Nat)) (.int .i64 (CR:Nat)) (.int .i64 (PK:Nat)) (.int .i64 (LN:Nat)) (.string ⟨#[]⟩));clear aA fA;refine Shut.out f _ _ (ae GX') (fun m=>?_);clear f K;refine wpAnyH_done (by kernel_rfl) ?_ _;go_wp2_with fail
     go_meet
     case rel=>exact⟨A,rfl,D,I,J,ae TX',ae GX',ae H⟩
   case rest=>
    obtain⟨A,rfl,D,I,J,T2',G2',U⟩:=hcut;have T2:=af T2';have G2:=af G2';have T:=af U;clear T2' G2' U T1 G1 C5 C7 C9 N;have c0:=(ae G2).1.cell 0 _ rfl;have ad:=ae W13 _ (ae G2);have r3:=(ae T).cell 3 _ rfl;have r5:=(ae T).cell 5 _ rfl;have q5:=(ae T).free 5 (by simp);have bz:IntKind.i64.wrap (30+(NL:Int))=30+(NL:Int):=by rw[a0T];omega
    have b0:IntKind.i64.wrap (30+(NL:Int)+(PK:Int))=30+(NL:Int)+(PK:Int):=by rw[a0T];omega
    by_cases F:30+NL+PK<=s.size
    .
     have G:30+(NL:Int)+(PK:Int)<=(s.size:Int):=by omega
     have bs:decide ((s.size:Int)<30+(NL:Int)+(PK:Int))=false:=by simpa using G
     have ba:(30+(NL:Int)).toNat=30+NL:=by omega
     have bb:(30+(NL:Int)+(PK:Int)).toNat=30+NL+PK:=by omega
     have bc:30<=30+(NL:Int):=by omega
     have bd:30+(NL:Int)<=30+(NL:Int)+(PK:Int):=by omega
     have be:0<=30+(NL:Int)+(PK:Int):=by omega
     have bk:30+(NL:Int)<=(s.size:Int):=by omega
     have bq:0<=30+(NL:Int):=by omega
     have b3:s.extract 30 (30+NL)=nmB s:=by unfold nmB;rw[(ae k).2.2.2.2.2]
     have b4:s.extract (30+NL) (30+NL+PK)=bdB s:=by unfold bdB;rw[(ae k).2.2.2.2.2,(ae k).2.2.2.1]
     have Q:Hid ((cj HW ST CR PK LN (nmB s)).data.toList.isPrefixOf s.data.toList=lk s.data.toList):=by
      have hh:=Jk (l:=s.data.toList) (nm:=nmB s) (by rw[(ae k).2.2.2.2.2];simp;omega) (tp s);rw[(ae k).1,(ae k).2.1,(ae k).2.2.1,(ae k).2.2.2.1,(ae k).2.2.2.2.1]at hh;exact hh
     have ac:(nmB s).size<65536:=by rw[iU (by rw[(ae k).2.2.2.2.2];omega)];exact ib _ _
     have P:Hid (∀b,lk s.data.toList=b->HgP s (.returned (.tuple #[.agg #[.int .i64 (HW:Nat),.int .i64 (ST:Nat),.int .i64 (CR:Nat),.int .i64 (PK:Nat),.int .i64 (LN:Nat),.string (nmB s),.string (bdB s)],.bool b]))):=fun b hb=>by
      have hd:hdB s=b:=by
       unfold hdB;rw[hb,(ae k).2.2.2.2.2,(ae k).2.2.2.1,a0y (ae y),a0y F];simp
      cases b
      . exact Jm hd _ _ _ _ _ _ _ ⟨(ae t).1,(ae t).2.1,(ae t).2.2.1,(ae t).2.2.2.1,(ae t).2.2.2.2.1,by unfold nmB;rw[a1p];omega,by unfold bdB;rw[a1p];omega⟩
      . refine .inl ⟨hd,?_⟩;rw[(ae k).1,(ae k).2.1,(ae k).2.2.1,(ae k).2.2.2.1,(ae k).2.2.2.2.1]
     generalize a4:nmB s=NM at *
     generalize ao:bdB s=BD at *
     obtain⟨l1,l2,l3,l4,l5,l6⟩:=ae t;have CH:=af (fun W=>yH HW ST CR PK LN NM BD W l1 l2 l3 l4 l5 ac);have CP:Hid (∀W,Calls prog 60 #[.string s,.string (cj HW ST CR PK LN NM)] W fun e w'=>e = .returned (.bool (lk s.data.toList))/\w'=W):=fun W=>by
      have h:=Tryz.strings_HasPrefix s (cj HW ST CR PK LN NM) W;have e:Lib.hasPrefix s.data.toList (cj HW ST CR PK LN NM).data.toList=lk s.data.toList:=ae Q;rw[e]at h;exact h
     generalize lk s.data.toList=fb at *
     generalize cj HW ST CR PK LN NM=HB at *
     clear a4 ao l1 l2 l3 l4 l5 l6 F Q ac;have T3:=af ((ae T2).set D 5 (.string NM));have R3:=af ((ae T).set 5 (.string NM));clear T2 T G2 W4 W13;go_wp2_with fail;clear c0 ad r3 r5 q5;generalize wc.setCell ⟨A,5,none⟩ (.string NM)=X3 at *
     refine wp_region_held_drew (S:=fun W=>Blk W A [.int .i64 (HW:Nat),.int .i64 (ST:Nat),.int .i64 (CR:Nat),.int .i64 (PK:Nat),.int .i64 (LN:Nat),.string NM]) r (ae R3).drew (fun m=>?_);refine ag 0 (.agg #[.int .i64 (HW:Nat),.int .i64 (ST:Nat),.int .i64 (CR:Nat),.int .i64 (PK:Nat),.int .i64 (LN:Nat),.string NM]) rfl (by kernel_rfl) (fun _ _ _ h=>h) rfl (fun W d=>by have s0:=Blk.cell d 0 _ rfl;have s1:=Blk.cell d 1 _ rfl;have s2:=Blk.cell d 2 _ rfl;have s3:=Blk.cell d 3 _ rfl;have s4:=Blk.cell d 4 _ rfl;have s5:=Blk.cell d 5 _ rfl;go_simp) m ?_;refine ag 1 (.string s) rfl (by kernel_rfl) (fun _ _ _ h=>h) rfl (fun W d=>by go_simp) m ?_;refine ag 2 (.int .i64 (30+(NL:Int))) rfl (by kernel_rfl) (fun _ _ _ h=>h) rfl (fun W d=>by go_simp) m ?_;refine ag 3 (.int .i64 (30+(NL:Int))) rfl (by kernel_rfl) (fun _ _ _ h=>h) rfl (fun W d=>by go_simp) m ?_;refine ag 4 (.pointer (some ⟨A,3,none⟩)) rfl (by kernel_rfl) (fun _ _ _ h=>h) rfl (fun W d=>by go_simp) m ?_;refine ag 5 (.int .i64 (PK:Nat)) rfl (by kernel_rfl) (fun _ _ _ h=>h) rfl (fun W d=>by have s3:=Blk.cell d 3 _ rfl;go_simp) m ?_;refine ag 6 (.int .i64 (30+(NL:Int)+(PK:Int))) rfl (by kernel_rfl) (fun _ _ _ h=>h) rfl (fun W d=>by go_simp) m ?_;refine ag 7 (.string BD) rfl (by kernel_rfl) (fun _ _ _ h=>h) rfl (fun W d=>by go_simp) m ?_;refine ag 8 (.agg #[.int .i64 (HW:Nat),.int .i64 (ST:Nat),.int .i64 (CR:Nat),.int .i64 (PK:Nat),.int .i64 (LN:Nat),.string NM,.string BD]) rfl (by kernel_rfl) (fun _ _ _ h=>h) rfl (fun W d=>by go_simp) m ?_;have T4:=af (ae T3).drew;have R4:=af (ae R3).drew;clear T3 R3;generalize X3.drew=W4 at *
     refine ah 9 (by kernel_rfl) rfl fun K f=>?_;go_simp;have o:Below W4.heap.size W4 (W4.alloc (.cells #[.int .i64 0,.int .i64 0,.int .i64 0,.int .i64 0,.int .i64 0,.string ⟨#[]⟩,.string ⟨#[]⟩] 92)):=(a0c _ _).alloc (a0a _) _;have T5:=af ((ae T4).later o);have C:=af ((ae R4).later o (ae R4).1);have L5:Hid (Blk (W4.alloc (.cells #[.int .i64 0,.int .i64 0,.int .i64 0,.int .i64 0,.int .i64 0,.string ⟨#[]⟩,.string ⟨#[]⟩] 92)) W4.heap.size [.int .i64 0,.int .i64 0,.int .i64 0,.int .i64 0,.int .i64 0,.string ⟨#[]⟩,.string ⟨#[]⟩]):=au _ _ _;have hL:w.heap.size<W4.heap.size:=(ae T4).2.1;have aa:A<W4.heap.size:=(ae R4).1;refine Shut.out f _ _ (ae C) (fun m=>?_);clear f K;obtain⟨L,hLe⟩:∃x,W4.heap.size=x:=⟨_,rfl⟩;obtain⟨W5,hW5⟩:∃x,W4.alloc (.cells #[.int .i64 0,.int .i64 0,.int .i64 0,.int .i64 0,.int .i64 0,.string ⟨#[]⟩,.string ⟨#[]⟩] 92)=x:=⟨_,rfl⟩;rw[hW5]at T5 C m;rw[hLe,hW5]at L5;rw[hLe]at hL aa;rw[hLe,hW5];clear o hLe hW5 T4 R4;refine ah 10 (by kernel_rfl) rfl fun K f=>?_;have aA:=(ae L5).cells (n:=7) rfl;have fA:=(ae L5).frees (n:=7) rfl;go_simp;have T6:=af ((ae T5).set7 hL (.int .i64 (HW:Nat)) (.int .i64 (ST:Nat)) (.int .i64 (CR:Nat)) (.int .i64 (PK:Nat)) (.int .i64 (LN:Nat)) (.string NM) (.string BD));have L6:=af ((ae L5).set7 (.int .i64 (HW:Nat)) (.int .i64 (ST:Nat)) (.int .i64 (CR:Nat)) (.int .i64 (PK:Nat)) (.int .i64 (LN:Nat)) (.string NM) (.string BD));have R6:=af (Kf (ae C) (a1x aa) (.int .i64 (HW:Nat)) (.int .i64 (ST:Nat)) (.int .i64 (CR:Nat)) (.int .i64 (PK:Nat)) (.int .i64 (LN:Nat)) (.string NM) (.string BD));clear aA fA T5 C L5;refine Shut.out f _ _ (ae R6) (fun m=>?_);clear f K;refine wpAnyH_done (by kernel_rfl) ?_ _;clear m;obtain⟨X6,hX6⟩:∃x,(((((((W5.setCell ⟨L,0,none⟩ (.int .i64 (HW:Nat))).setCell ⟨L,1,none⟩ (.int .i64 (ST:Nat))).setCell ⟨L,2,none⟩ (.int .i64 (CR:Nat))).setCell ⟨L,3,none⟩ (.int .i64 (PK:Nat))).setCell ⟨L,4,none⟩ (.int .i64 (LN:Nat))).setCell ⟨L,5,none⟩ (.string NM)).setCell ⟨L,6,none⟩ (.string BD))=x:=⟨_,rfl⟩;rw[hX6]at T6 L6;rw[hX6];clear hX6 R6;go_wp2_with fail;refine wp_region_held_drew (S:=fun W=>Blk W L [.int .i64 (HW:Nat),.int .i64 (ST:Nat),.int .i64 (CR:Nat),.int .i64 (PK:Nat),.int .i64 (LN:Nat),.string NM,.string BD]) r (ae L6).drew (fun m=>?_);refine ag 0 (.agg #[.int .i64 (HW:Nat),.int .i64 (ST:Nat),.int .i64 (CR:Nat),.int .i64 (PK:Nat),.int .i64 (LN:Nat),.string NM,.string BD]) rfl (by kernel_rfl) (fun _ _ _ h=>h) rfl (fun W d=>by have s0:=Blk.cell d 0 _ rfl;have s1:=Blk.cell d 1 _ rfl;have s2:=Blk.cell d 2 _ rfl;have s3:=Blk.cell d 3 _ rfl;have s4:=Blk.cell d 4 _ rfl;have s5:=Blk.cell d 5 _ rfl;have s6:=Blk.cell d 6 _ rfl;go_simp) m ?_;refine ag 1 (.string s) rfl (by kernel_rfl) (fun _ _ _ h=>h) rfl (fun W d=>by go_simp) m ?_;refine ag 2 (.agg #[.int .i64 (HW:Nat),.int .i64 (ST:Nat),.int .i64 (CR:Nat),.int .i64 (PK:Nat),.int .i64 (LN:Nat),.string NM,.string BD]) rfl (by kernel_rfl) (fun _ _ _ h=>h) rfl (fun W d=>by have s0:=Blk.cell d 0 _ rfl;have s1:=Blk.cell d 1 _ rfl;have s2:=Blk.cell d 2 _ rfl;have s3:=Blk.cell d 3 _ rfl;have s4:=Blk.cell d 4 _ rfl;have s5:=Blk.cell d 5 _ rfl;have s6:=Blk.cell d 6 _ rfl;go_simp) m ?_;have T7:=af (ae T6).drew;have L7:=af (ae L6).drew;clear T6 L6;generalize X6.drew=W7 at *
     refine ah 3 (by kernel_rfl) rfl fun K f=>?_;go_simp;go_at_call 87;refine(ae CH W7).mono ?_;rintro e W8 ⟨rfl,o⟩;have T8:=af ((ae T7).later o);have L8:=af ((ae L7).later o (ae L7).1);refine Shut.out f _ _ (ae L8) (fun m=>?_);clear f K;clear o T7 L7;refine ah 4 (by kernel_rfl) rfl fun K f=>?_;go_simp;go_at_call 60;refine(ae CP W8).mono ?_;rintro e W9 ⟨rfl,rfl⟩;refine Shut.out f _ _ (ae L8) (fun m=>?_);clear f K;refine ah 5 (by kernel_rfl) rfl fun K f=>?_;have bA:=(ae T8).2.cells (n:=7) rfl;have gA:=(ae T8).2.frees (n:=7) rfl;go_simp;have TZ:=af (Iu (ae T8).1 (a0a _) (.int .i64 (HW:Nat)) (.int .i64 (ST:Nat)) (.int .i64 (CR:Nat)) (.int .i64 (PK:Nat)) (.int .i64 (LN:Nat)) (.string NM) (.string BD));have ZZ:=af ((ae T8).2.set7 (.int .i64 (HW:Nat)) (.int .i64 (ST:Nat)) (.int .i64 (CR:Nat)) (.int .i64 (PK:Nat)) (.int .i64 (LN:Nat)) (.string NM) (.string BD));have LZ:=af (Kf (ae L8) (a1S hL) (.int .i64 (HW:Nat)) (.int .i64 (ST:Nat)) (.int .i64 (CR:Nat)) (.int .i64 (PK:Nat)) (.int .i64 (LN:Nat)) (.string NM) (.string BD));clear bA gA;refine Shut.out f _ _ (ae LZ) (fun m=>?_);clear f K;refine ah 6 (by kernel_rfl) rfl fun K f=>?_;go_simp;refine Shut.out f _ _ (ae LZ) (fun m=>?_);clear f K;refine wpAnyH_done (by kernel_rfl) ?_ _;go_wp2;have zA:=(ae ZZ).cells (n:=7) rfl;refine a0t (v:=.tuple #[.agg #[.int .i64 (HW:Nat),.int .i64 (ST:Nat),.int .i64 (CR:Nat),.int .i64 (PK:Nat),.int .i64 (LN:Nat),.string NM,.string BD],.bool fb]) (by simp[results,results61,go_sem,zA]) rfl ⟨ae P _ rfl,ae TZ⟩
    .
     have G:(s.size:Int)<30+(NL:Int)+(PK:Int):=by omega
     have P:Hid (hdB s=false):=by
      show _=_;unfold hdB;rw[(ae k).2.2.2.2.2,(ae k).2.2.2.1,a0i F];simp
     clear F;have bA:=(ae T2).2.cells (n:=7) rfl;have gA:=(ae T2).2.frees (n:=7) rfl;have TZ:=af (Iu (ae T2).1 (a0a _) (.int .i64 0) (.int .i64 0) (.int .i64 0) (.int .i64 0) (.int .i64 0) (.string ⟨#[]⟩) (.string ⟨#[]⟩));have ZZ:=af ((ae T2).2.set7 (.int .i64 0) (.int .i64 0) (.int .i64 0) (.int .i64 0) (.int .i64 0) (.string ⟨#[]⟩) (.string ⟨#[]⟩));go_wp2;have zA:=(ae ZZ).cells (n:=7) rfl;refine a0t (v:=.tuple #[.agg #[.int .i64 0,.int .i64 0,.int .i64 0,.int .i64 0,.int .i64 0,.string ⟨#[]⟩,.string ⟨#[]⟩],.bool false]) (by simp[results,results61,go_sem,zA]) rfl ⟨Jm (ae P) 0 0 0 0 0 ⟨#[]⟩ ⟨#[]⟩ yI,ae TZ⟩
 .
  have Z:(s.size:Int)<30:=by omega
  have P:Hid (hdB s=false):=by
   show _=_;unfold hdB;rw[a0i z];simp
  clear z;go_enter func61,ntmps61;go_wp2;refine a0t (v:=.tuple #[.agg #[.int .i64 0,.int .i64 0,.int .i64 0,.int .i64 0,.int .i64 0,.string ⟨#[]⟩,.string ⟨#[]⟩],.bool false]) (by simp[results,results61,go_sem]) rfl ⟨Jm (ae P) 0 0 0 0 0 ⟨#[]⟩ ⟨#[]⟩ yI,(ae T0).1⟩
def EnS(w:World)(vs:List Value)(W:World):Prop:=Below w.heap.size w W/\Blk W w.heap.size vs/\Blk W (w.heap.size+1) [.string ⟨#[]⟩,.int .i64 0,.int .i64 0,.int .i64 0,.int .i64 0,.int .i64 0,.int .i64 0,.string ⟨#[]⟩]
theorem EnS.later(k:EnS w vs W)(hb:Below W.heap.size W W'):EnS w vs W':=⟨ak k.1 hb,k.2.1.later hb k.2.1.1,k.2.2.later hb k.2.2.1⟩
theorem EnS.drew(k:EnS w vs W):EnS w vs W.drew:=⟨k.1.drew,k.2.1.drew,k.2.2.drew⟩
theorem EnS.set(k:EnS w vs W)(a:w.heap.size+1<A)(o:Nat)(v:Value):EnS w vs (W.setCell ⟨A,o,none⟩ v):=⟨aj k.1 (by omega) _,k.2.1.set_other v (by omega),k.2.2.set_other v (by omega)⟩
theorem EnS.set8(k:EnS w vs W)(a:w.heap.size+1<A)(a0 a1 a2 a3 a4 a5 a6 a7:Value):EnS w vs ((((((((W.setCell ⟨A,0,none⟩ a0).setCell ⟨A,1,none⟩ a1).setCell ⟨A,2,none⟩ a2).setCell ⟨A,3,none⟩ a3).setCell ⟨A,4,none⟩ a4).setCell ⟨A,5,none⟩ a5).setCell ⟨A,6,none⟩ a6).setCell ⟨A,7,none⟩ a7):=((((((((k.set a 0 a0).set a 1 a1).set a 2 a2).set a 3 a3).set a 4 a4).set a 5 a5).set a 6 a6).set a 7 a7)
def enB(how st cr lg:Nat)(nm b:ByteArray):Bool:=txO how b&&(gOk (st:Nat)&&(gn nm (zz (gOk (st:Nat)) (gY (st:Nat))) (zz (gOk (st:Nat)) (gM (st:Nat))) (zz (gOk (st:Nat)) (gD (st:Nat))) (zz (gOk (st:Nat)) (gH (st:Nat))) (zz (gOk (st:Nat)) (gI (st:Nat))) (zz (gOk (st:Nat)) (gS (st:Nat))) (uxT how b)&&(decide ((uxT how b).size=lg)&&decide (aH 0 (uxT how b).data.toList=cr))))
def enE(st:Nat)(nm T:ByteArray):Value:=.agg #[.string nm,.int .i64 (zz (gOk (st:Nat)) (gY (st:Nat))),.int .i64 (zz (gOk (st:Nat)) (gM (st:Nat))),.int .i64 (zz (gOk (st:Nat)) (gD (st:Nat))),.int .i64 (zz (gOk (st:Nat)) (gH (st:Nat))),.int .i64 (zz (gOk (st:Nat)) (gI (st:Nat))),.int .i64 (zz (gOk (st:Nat)) (gS (st:Nat))),.string T]
theorem KQ{P:Prop}(a b c:Bool)(x y u v:Nat)
  (g:(a&&(b&&(c&&(decide (x=y)&&decide (u=v)))))=false->a=false->P)
  (h2:(a&&(b&&(c&&(decide (x=y)&&decide (u=v)))))=false->a=true->b=false->P)
  (h:(a&&(b&&(c&&(decide (x=y)&&decide (u=v)))))=false->a=true->b=true->c=false->P)
  (i:(a&&(b&&(c&&(decide (x=y)&&decide (u=v)))))=false->a=true->b=true->c=true->((x:Int) == (y:Int))=false->((x:Int) != (y:Int))=true->P)
  (j:(a&&(b&&(c&&(decide (x=y)&&decide (u=v)))))=false->a=true->b=true->c=true->((x:Int) == (y:Int))=true->((x:Int) != (y:Int))=false->((u:Int) == (v:Int))=false->((u:Int) != (v:Int))=true->P)
  (k:(a&&(b&&(c&&(decide (x=y)&&decide (u=v)))))=true->a=true->b=true->c=true->((x:Int) == (y:Int))=true->((x:Int) != (y:Int))=false->((u:Int) == (v:Int))=true->((u:Int) != (v:Int))=false->P):P:=by
 have e:∀m n:Nat,((m:Int)=(n:Int))<->m=n:=fun m n=>by omega
 cases a
 . exact g (by simp) rfl
 cases b
 . exact h2 (by simp) rfl rfl
 cases c
 . exact h (by simp) rfl rfl rfl
 by_cases d:x=y
 .
  by_cases f:u=v
  . exact k (by simp[d,f]) rfl rfl rfl (by simp[d]) (by simp[d]) (by simp[f]) (by simp[f])
  . exact j (by simp[f]) rfl rfl rfl (by simp[d]) (by simp[d]) (by simp[e,f]) (by simp[e,f])
 . exact i (by simp[d]) rfl rfl rfl (by simp[e,d]) (by simp[e,d])
theorem qD(how st j pk lg:Nat)(nm b:ByteArray)(m:Int)(w:World)(hb:b.size<=1048576)(hh:how<65536)(h1:st<4294967296)(h2:j<4294967296)(h3:lg<4294967296)(hn:nm.size<=1048576)(N:w.cell? ⟨1,0,none⟩=some (.int .i64 m))(Z:dO w) :
  Calls prog 62 #[.agg #[.int .i64 (how:Nat),.int .i64 (st:Nat),.int .i64 (j:Nat),.int .i64 (pk:Nat),.int .i64 (lg:Nat),.string nm,.string b]] w fun e w'=>e=Ending.returned (if enB how st j lg nm b=true then .tuple #[enE st nm (uxT how b),.bool true]else .tuple #[noE,.bool false])/\Below w.heap.size w w':=by
 have o:prog.follows .mixedOrders=true:=by kernel_rfl
 have P:=AG (how:=how) (b:=b) hb;have HM:=af N;have O:=af (World.block_lt_of_cell? _ _ N);have CM:=af (fun W (hb:Below w.heap.size w W)=>(hb.cell (p:=⟨1,0,none⟩) (ae O)).trans (ae HM));have HO:=af (fun W (hb:Below w.heap.size w W)=>Z.later hb);have CU:=af (fun W (h:dO W)=>FZ how (st:Int) (j:Int) (pk:Int) (lg:Int) nm b W hb hh h);have V:=af (fun W=>iW nm W (by omega));have y:=af (fun W=>yK (uxT how b) W (by unfold maxLen;omega));have CS:Hid (∀W,CD 89 #[.int .i64 (st:Nat)] W (.tuple #[.agg #[.int .i64 (zz (gOk (st:Nat)) (gY (st:Nat))),.int .i64 (zz (gOk (st:Nat)) (gM (st:Nat))),.int .i64 (zz (gOk (st:Nat)) (gD (st:Nat))),.int .i64 (zz (gOk (st:Nat)) (gH (st:Nat))),.int .i64 (zz (gOk (st:Nat)) (gI (st:Nat))),.int .i64 (zz (gOk (st:Nat)) (gS (st:Nat)))],.bool (gOk (st:Nat))])):=fun W=>pE _ W (WalkArith.wf_i64 (by omega));have X:=af (fun W (hb:Below w.heap.size w W)=>lc nm (zz (gOk (st:Nat)) (gY (st:Nat))) (zz (gOk (st:Nat)) (gM (st:Nat))) (zz (gOk (st:Nat)) (gD (st:Nat))) (zz (gOk (st:Nat)) (gH (st:Nat))) (zz (gOk (st:Nat)) (gI (st:Nat))) (zz (gOk (st:Nat)) (gS (st:Nat))) (uxT how b) m W (by omega) (by omega) (ae CM _ hb));obtain⟨RES,hRES⟩:∃x,Ending.returned (if enB how st j lg nm b=true then .tuple #[enE st nm (uxT how b),.bool true]else .tuple #[noE,.bool false])=x:=⟨_,rfl⟩;rw[hRES];have k:=af hRES;clear hRES N Z;unfold enB enE at k;generalize txO how b=OK at *
 generalize uxT how b=UT at *
 generalize zz (gOk (st:Nat)) (gY (st:Nat))=yy at *
 generalize zz (gOk (st:Nat)) (gM (st:Nat))=mo at *
 generalize zz (gOk (st:Nat)) (gD (st:Nat))=dd at *
 generalize zz (gOk (st:Nat)) (gH (st:Nat))=hh' at *
 generalize zz (gOk (st:Nat)) (gI (st:Nat))=mi at *
 generalize zz (gOk (st:Nat)) (gS (st:Nat))=ss at *
 generalize gOk (st:Nat)=GO at *
 generalize gn nm yy mo dd hh' mi ss UT=EB at *
 generalize aH 0 UT.data.toList=cu at *
 have T0:Hid (EnS w [.int .i64 (how:Nat),.int .i64 (st:Nat),.int .i64 (j:Nat),.int .i64 (pk:Nat),.int .i64 (lg:Nat),.string nm,.string b] ((w.alloc (.cells #[.int .i64 (how:Nat),.int .i64 (st:Nat),.int .i64 (j:Nat),.int .i64 (pk:Nat),.int .i64 (lg:Nat),.string nm,.string b] 92)).alloc (.cells #[.string ⟨#[]⟩,.int .i64 0,.int .i64 0,.int .i64 0,.int .i64 0,.int .i64 0,.int .i64 0,.string ⟨#[]⟩] 35))):=by
  have e1:=au w #[.int .i64 (how:Nat),.int .i64 (st:Nat),.int .i64 (j:Nat),.int .i64 (pk:Nat),.int .i64 (lg:Nat),.string nm,.string b] 92;have e2:=au (w.alloc (.cells #[.int .i64 (how:Nat),.int .i64 (st:Nat),.int .i64 (j:Nat),.int .i64 (pk:Nat),.int .i64 (lg:Nat),.string nm,.string b] 92)) #[.string ⟨#[]⟩,.int .i64 0,.int .i64 0,.int .i64 0,.int .i64 0,.int .i64 0,.int .i64 0,.string ⟨#[]⟩] 35;have e3:(w.alloc (.cells #[.int .i64 (how:Nat),.int .i64 (st:Nat),.int .i64 (j:Nat),.int .i64 (pk:Nat),.int .i64 (lg:Nat),.string nm,.string b] 92)).heap.size=w.heap.size+1:=by simp
  rw[e3]at e2;exact⟨((a0c _ _).alloc (a0a _) _).alloc (by rw[e3];exact a1e _) _,e1.later ((a0c _ _).alloc (a0a _) _) (by simp),e2⟩
 clear hb hh P h1 h2 h3 hn;go_enter func62,ntmps62;go_wp2_with fail;refine(ae CU _ (ae HO _ (ae T0).1)).mono ?_;rintro e x1 ⟨rfl,D⟩;have T1:=af ((ae T0).later D);clear D T0;have c1:=(ae T1).2.1.cell 1 _ rfl;go_wp2_with fail;refine(ae CS _).mono ?_;rintro e x2 ⟨rfl,E⟩;have T2:=af ((ae T1).later E);clear E T1 c1;have T3:=af ((ae T2).later ((a0c x2.heap.size x2).alloc (a0a _) (.cells #[.int .i64 yy,.int .i64 mo,.int .i64 dd,.int .i64 hh',.int .i64 mi,.int .i64 ss] 33)));have S3:=af (au x2 #[.int .i64 yy,.int .i64 mo,.int .i64 dd,.int .i64 hh',.int .i64 mi,.int .i64 ss] 33);clear T2;go_wp2_with fail;obtain⟨SB,hSB⟩:∃x,x2.heap.size=x:=⟨_,rfl⟩;obtain⟨X3,hX3⟩:∃x,x2.alloc (.cells #[.int .i64 yy,.int .i64 mo,.int .i64 dd,.int .i64 hh',.int .i64 mi,.int .i64 ss] 33)=x:=⟨_,rfl⟩;rw[hX3]at T3;rw[hSB,hX3]at S3;rw[hSB,hX3];clear hSB hX3;go_cut[8] (fun v wx=>∃A,v = .pointer (some ⟨A,0,none⟩)/\w.heap.size+1<A/\EnS w [.int .i64 (how:Nat),.int .i64 (st:Nat),.int .i64 (j:Nat),.int .i64 (pk:Nat),.int .i64 (lg:Nat),.string nm,.string b] wx/\Blk wx A [.string nm,.int .i64 yy,.int .i64 mo,.int .i64 dd,.int .i64 hh',.int .i64 mi,.int .i64 ss,.string UT])
 case first=>
  refine wp_region_held_drew (S:=fun W=>EnS w [.int .i64 (how:Nat),.int .i64 (st:Nat),.int .i64 (j:Nat),.int .i64 (pk:Nat),.int .i64 (lg:Nat),.string nm,.string b] W/\Blk W SB [.int .i64 yy,.int .i64 mo,.int .i64 dd,.int .i64 hh',.int .i64 mi,.int .i64 ss]) o ⟨(ae T3).drew,(ae S3).drew⟩ (fun i=>?_);refine ag 0 (.pointer (some ⟨w.heap.size,0,none⟩)) rfl (by kernel_rfl) (fun _ _ _ h=>h) rfl (fun W a=>by go_simp) i ?_;refine ag 1 (.pointer (some ⟨w.heap.size,5,none⟩)) rfl (by kernel_rfl) (fun _ _ _ h=>h) rfl (fun W a=>by go_simp) i ?_;refine ag 2 (.string nm) rfl (by kernel_rfl) (fun _ _ _ h=>h) rfl (fun W a=>by have s5:=a.1.2.1.cell 5 _ rfl;go_simp) i ?_;refine ag 4 (.agg #[.int .i64 yy,.int .i64 mo,.int .i64 dd,.int .i64 hh',.int .i64 mi,.int .i64 ss]) rfl (by kernel_rfl) (fun _ _ _ h=>h) rfl (fun W a=>by have s0:=a.2.cell 0 _ rfl;have s1:=a.2.cell 1 _ rfl;have s2:=a.2.cell 2 _ rfl;have s3:=a.2.cell 3 _ rfl;have s4:=a.2.cell 4 _ rfl;have s5:=a.2.cell 5 _ rfl;go_simp) i ?_;refine ag 5 (.string UT) rfl (by kernel_rfl) (fun _ _ _ h=>h) rfl (fun W a=>by go_simp) i ?_;have T4:=af (ae T3).drew;have S4:=af (ae S3).drew;clear T3 S3;generalize X3.drew=W4 at *
  refine wpAnyH_ready (rs:=[3,7]) (by kernel_rfl) (by simp) ?_;refine AllReadyH.cons rfl (fun K f=>?_) (AllReadyH.cons rfl (fun K f=>?_) (AllReadyH.nil))
  .
   go_simp;go_at_call 47;refine(ae V W4).mono ?_;rintro e W5 ⟨rfl,g⟩;have T5:=af ((ae T4).later g);have S5:=af ((ae S4).later g (ae S4).1);refine Shut.out f _ _ ⟨ae T5,ae S5⟩ (fun i=>?_);clear f K;clear g T4 S4;refine ag 6 (.agg #[.string nm,.int .i64 yy,.int .i64 mo,.int .i64 dd,.int .i64 hh',.int .i64 mi,.int .i64 ss,.string UT]) rfl (by kernel_rfl) (fun _ _ _ h=>h) rfl (fun W a=>by go_simp) i ?_;refine ah 7 (by kernel_rfl) rfl fun K f=>?_;go_simp;have g:Below W5.heap.size W5 (W5.alloc (.cells #[.string ⟨#[]⟩,.int .i64 0,.int .i64 0,.int .i64 0,.int .i64 0,.int .i64 0,.int .i64 0,.string ⟨#[]⟩] 35)):=(a0c _ _).alloc (a0a _) _;have T6:=af ((ae T5).later g);have S6:=af ((ae S5).later g (ae S5).1);have s:Hid (Blk (W5.alloc (.cells #[.string ⟨#[]⟩,.int .i64 0,.int .i64 0,.int .i64 0,.int .i64 0,.int .i64 0,.int .i64 0,.string ⟨#[]⟩] 35)) W5.heap.size [.string ⟨#[]⟩,.int .i64 0,.int .i64 0,.int .i64 0,.int .i64 0,.int .i64 0,.int .i64 0,.string ⟨#[]⟩]):=au _ _ _;have t:w.heap.size+1<W5.heap.size:=(ae T5).2.2.1;have l:SB≠W5.heap.size:=a1x (ae S5).1;refine Shut.out f _ _ ⟨ae T6,ae S6⟩ (fun i=>?_);clear f K;obtain⟨A,hAe⟩:∃x,W5.heap.size=x:=⟨_,rfl⟩;obtain⟨W6,hW6⟩:∃x,W5.alloc (.cells #[.string ⟨#[]⟩,.int .i64 0,.int .i64 0,.int .i64 0,.int .i64 0,.int .i64 0,.int .i64 0,.string ⟨#[]⟩] 35)=x:=⟨_,rfl⟩;rw[hW6]at T6 S6 i;rw[hAe,hW6]at s;rw[hAe]at t l;rw[hAe,hW6];clear g hAe hW6 T5 S5;refine ah 8 (by kernel_rfl) rfl fun K f=>?_;have aA:=(ae s).cells (n:=8) rfl;have fA:=(ae s).frees (n:=8) rfl;go_simp;have TX:=af ((ae T6).set8 t (.string nm) (.int .i64 yy) (.int .i64 mo) (.int .i64 dd) (.int .i64 hh') (.int .i64 mi) (.int .i64 ss) (.string UT));have L:=af ((ae s).set8 (.string nm) (.int .i64 yy) (.int .i64 mo) (.int .i64 dd) (.int .i64 hh') (.int .i64 mi) (.int .i64 ss) (.string UT));have SX:=af (nz (ae S6) l (.string nm) (.int .i64 yy) (.int .i64 mo) (.int .i64 dd) (.int .i64 hh') (.int .i64 mi) (.int .i64 ss) (.string UT));clear aA fA;refine Shut.out f _ _ ⟨ae TX,ae SX⟩ (fun i=>?_);clear f K;refine wpAnyH_done (by kernel_rfl) ?_ _;go_wp2_with fail
   go_meet
   case rel=>exact⟨A,rfl,t,ae TX,ae L⟩
  .
   go_simp;have g:Below W4.heap.size W4 (W4.alloc (.cells #[.string ⟨#[]⟩,.int .i64 0,.int .i64 0,.int .i64 0,.int .i64 0,.int .i64 0,.int .i64 0,.string ⟨#[]⟩] 35)):=(a0c _ _).alloc (a0a _) _;have T5:=af ((ae T4).later g);have S5:=af ((ae S4).later g (ae S4).1);have I:Hid (Blk (W4.alloc (.cells #[.string ⟨#[]⟩,.int .i64 0,.int .i64 0,.int .i64 0,.int .i64 0,.int .i64 0,.int .i64 0,.string ⟨#[]⟩] 35)) W4.heap.size [.string ⟨#[]⟩,.int .i64 0,.int .i64 0,.int .i64 0,.int .i64 0,.int .i64 0,.int .i64 0,.string ⟨#[]⟩]):=au _ _ _;have t:w.heap.size+1<W4.heap.size:=(ae T4).2.2.1;have l:SB≠W4.heap.size:=a1x (ae S4).1;refine Shut.out f _ _ ⟨ae T5,ae S5⟩ (fun i=>?_);clear f K;obtain⟨A,hAe⟩:∃x,W4.heap.size=x:=⟨_,rfl⟩;obtain⟨W5,hW5⟩:∃x,W4.alloc (.cells #[.string ⟨#[]⟩,.int .i64 0,.int .i64 0,.int .i64 0,.int .i64 0,.int .i64 0,.int .i64 0,.string ⟨#[]⟩] 35)=x:=⟨_,rfl⟩;rw[hW5]at T5 S5 i;rw[hAe,hW5]at I;rw[hAe]at t l;rw[hAe,hW5];clear g hAe hW5 T4 S4;refine ah 3 (by kernel_rfl) rfl fun K f=>?_;go_simp;go_at_call 47;refine(ae V W5).mono ?_;rintro e W6 ⟨rfl,g⟩;have T6:=af ((ae T5).later g);have S6:=af ((ae S5).later g (ae S5).1);have s:=af ((ae I).later g (ae I).1);refine Shut.out f _ _ ⟨ae T6,ae S6⟩ (fun i=>?_);clear f K;clear g T5 S5 I;refine ag 6 (.agg #[.string nm,.int .i64 yy,.int .i64 mo,.int .i64 dd,.int .i64 hh',.int .i64 mi,.int .i64 ss,.string UT]) rfl (by kernel_rfl) (fun _ _ _ h=>h) rfl (fun W a=>by go_simp) i ?_;refine ah 8 (by kernel_rfl) rfl fun K f=>?_;have aA:=(ae s).cells (n:=8) rfl;have fA:=(ae s).frees (n:=8) rfl;go_simp;have TX:=af ((ae T6).set8 t (.string nm) (.int .i64 yy) (.int .i64 mo) (.int .i64 dd) (.int .i64 hh') (.int .i64 mi) (.int .i64 ss) (.string UT));have L:=af ((ae s).set8 (.string nm) (.int .i64 yy) (.int .i64 mo) (.int .i64 dd) (.int .i64 hh') (.int .i64 mi) (.int .i64 ss) (.string UT));have SX:=af (nz (ae S6) l (.string nm) (.int .i64 yy) (.int .i64 mo) (.int .i64 dd) (.int .i64 hh') (.int .i64 mi) (.int .i64 ss) (.string UT));clear aA fA;refine Shut.out f _ _ ⟨ae TX,ae SX⟩ (fun i=>?_);clear f K;refine wpAnyH_done (by kernel_rfl) ?_ _;go_wp2_with fail
   go_meet
   case rel=>exact⟨A,rfl,t,ae TX,ae L⟩
 case rest=>
  obtain⟨A,rfl,t,TB',z⟩:=hcut;have TB:=af TB';have c:=af z;clear TB' z T3 S3;go_wp2_with fail;refine KQ OK GO EB UT.size lg cu j ?_ ?_ ?_ ?_ ?_ ?_;rotate_left 5
  .
   rintro F rfl rfl rfl G H R T;have J:Hid (Ending.returned (.tuple #[.agg #[.string nm,.int .i64 yy,.int .i64 mo,.int .i64 dd,.int .i64 hh',.int .i64 mi,.int .i64 ss,.string UT],.bool true])=RES):=by show _=_;rw[←ae k,a0e F]
   clear F;have U:=cell_regrown ((ae TB).2.1.cell 4 _ rfl);have Q:=cell_regrown ((ae TB).2.1.cell 2 _ rfl);have m0:=cell_regrown ((ae c).cell 0 _ rfl);have m1:=cell_regrown ((ae c).cell 1 _ rfl);have m2:=cell_regrown ((ae c).cell 2 _ rfl);have m3:=cell_regrown ((ae c).cell 3 _ rfl);have m4:=cell_regrown ((ae c).cell 4 _ rfl);have m5:=cell_regrown ((ae c).cell 5 _ rfl);have m6:=cell_regrown ((ae c).cell 6 _ rfl);have m7:=cell_regrown ((ae c).cell 7 _ rfl);have C:=fun d os=>Calls.regrown_of (w:=wc) (d:=d) (os:=os) (ae X _ (ak (ae TB).1 (below_regrown wc d os)));have B:=fun d os=>Calls.regrown_of (w:=wc) (d:=d) (os:=os) (ae y _);refine wp_region_quiet_below o (by kernel_rfl) ?_;repeat (quiet_step (first|exact C _ _|exact B _ _))
   refine a01 ?_;intro zw u;obtain⟨⟨M,osq⟩,q⟩:=u;have r:=below_regrown wc M osq;rw[←q]at r;have T9:=af ((ae TB).later r);have Y:=af ((ae c).later r (ae c).1);clear q r U Q C B TB c m0 m1 m2 m3 m4 m5 m6 m7;have rA:=(ae Y).cells (n:=8) rfl;have bA:=(ae T9).2.2.cells (n:=8) rfl;have gA:=(ae T9).2.2.frees (n:=8) rfl;have TZ:=af (Iv (ae T9).1 (a1e _) (.string nm) (.int .i64 yy) (.int .i64 mo) (.int .i64 dd) (.int .i64 hh') (.int .i64 mi) (.int .i64 ss) (.string UT));have ZZ:=af ((ae T9).2.2.set8 (.string nm) (.int .i64 yy) (.int .i64 mo) (.int .i64 dd) (.int .i64 hh') (.int .i64 mi) (.int .i64 ss) (.string UT));go_wp2;have zA:=(ae ZZ).cells (n:=8) rfl;refine a0t (v:=.tuple #[.agg #[.string nm,.int .i64 yy,.int .i64 mo,.int .i64 dd,.int .i64 hh',.int .i64 mi,.int .i64 ss,.string UT],.bool true]) (by simp[results,results62,go_sem,zA]) rfl ⟨ae J,ae TZ⟩
  all_goals intro F
  all_goals have J:Hid (Ending.returned (.tuple #[.agg #[.string ⟨#[]⟩,.int .i64 0,.int .i64 0,.int .i64 0,.int .i64 0,.int .i64 0,.int .i64 0,.string ⟨#[]⟩],.bool false])=RES):=by show _=_;rw[←ae k,a0d (by rw[F];decide)];rfl
  all_goals clear F
  rintro rfl;rotate_left;rintro rfl rfl;rotate_left;rintro rfl rfl rfl;rotate_left;rintro rfl rfl rfl G H;rotate_left;rintro rfl rfl rfl G H R T;rotate_left;all_goals(
   have U:=cell_regrown ((ae TB).2.1.cell 4 _ rfl);have Q:=cell_regrown ((ae TB).2.1.cell 2 _ rfl);have m0:=cell_regrown ((ae c).cell 0 _ rfl);have m1:=cell_regrown ((ae c).cell 1 _ rfl);have m2:=cell_regrown ((ae c).cell 2 _ rfl);have m3:=cell_regrown ((ae c).cell 3 _ rfl);have m4:=cell_regrown ((ae c).cell 4 _ rfl);have m5:=cell_regrown ((ae c).cell 5 _ rfl);have m6:=cell_regrown ((ae c).cell 6 _ rfl);have m7:=cell_regrown ((ae c).cell 7 _ rfl);have C:=fun d os=>Calls.regrown_of (w:=wc) (d:=d) (os:=os) (ae X _ (ak (ae TB).1 (below_regrown wc d os)));have B:=fun d os=>Calls.regrown_of (w:=wc) (d:=d) (os:=os) (ae y _);refine wp_region_quiet_below o (by kernel_rfl) ?_;repeat (quiet_step (first|exact C _ _|exact B _ _))
   refine a01 ?_;intro zw u;obtain⟨⟨M,osq⟩,q⟩:=u;have r:=below_regrown wc M osq;rw[←q]at r;have T9:=af ((ae TB).later r);have Y:=af ((ae c).later r (ae c).1);clear q r U Q C B TB c m0 m1 m2 m3 m4 m5 m6 m7;have bA:=(ae T9).2.2.cells (n:=8) rfl;have gA:=(ae T9).2.2.frees (n:=8) rfl;have TZ:=af (Iv (ae T9).1 (a1e _) (.string ⟨#[]⟩) (.int .i64 0) (.int .i64 0) (.int .i64 0) (.int .i64 0) (.int .i64 0) (.int .i64 0) (.string ⟨#[]⟩));have ZZ:=af ((ae T9).2.2.set8 (.string ⟨#[]⟩) (.int .i64 0) (.int .i64 0) (.int .i64 0) (.int .i64 0) (.int .i64 0) (.int .i64 0) (.string ⟨#[]⟩));go_wp2;have zA:=(ae ZZ).cells (n:=8) rfl;refine a0t (v:=.tuple #[.agg #[.string ⟨#[]⟩,.int .i64 0,.int .i64 0,.int .i64 0,.int .i64 0,.int .i64 0,.int .i64 0,.string ⟨#[]⟩],.bool false]) (by simp[results,results62,go_sem,zA]) rfl ⟨ae J,ae TZ⟩
  )
theorem Ph(s:ByteArray):enB (wd s.data.toList 8 2) (wd s.data.toList 10 4) (wd s.data.toList 14 4) (wd s.data.toList 22 4) (nmB s) (bdB s)=((txO (wd s.data.toList 8 2) (bdB s)&&(decide (wd s.data.toList 14 4=aH 0 (txT (wd s.data.toList 8 2) (bdB s)).data.toList)&&decide (wd s.data.toList 22 4=(txT (wd s.data.toList 8 2) (bdB s)).size)))&&yg s (txT (wd s.data.toList 8 2) (bdB s)))/\(enB (wd s.data.toList 8 2) (wd s.data.toList 10 4) (wd s.data.toList 14 4) (wd s.data.toList 22 4) (nmB s) (bdB s)=true->enE (wd s.data.toList 10 4) (nmB s) (uxT (wd s.data.toList 8 2) (bdB s))=Gb s (txT (wd s.data.toList 8 2) (bdB s))):=by
 cases d:txO (wd s.data.toList 8 2) (bdB s)
 . simp[enB,d]
 .
  unfold enB enE Gb yg;rw[OT d,d];have e:=Je (n:=(wd s.data.toList 10 4:Nat)) (by omega);cases f:gOk ((wd s.data.toList 10 4:Nat):Int)
  . rw[f]at e;refine⟨?_,by simp⟩;unfold gn;rw[←e];simp
  .
   simp only[zz,a0R];refine⟨?_,fun _=>trivial⟩;rw[a2e];simp only[a0h,a0o,a3z];constructor
   . rintro⟨a,b,c⟩;exact⟨⟨c.symm,b.symm⟩,a⟩
   . rintro⟨⟨a,b⟩,c⟩;exact⟨c,b.symm,a.symm⟩
theorem yc{st i lg:Nat}{nm:ByteArray}(h:enB how st i lg nm b=true):b.size<=700:=by
 simp only[enB,a0h]at h;obtain⟨a,_,d,_⟩:=h;unfold txO nW at a;by_cases c:how=0
 .
  subst c;have e:uxT 0 b=b:=by simp[uxT,txT]
  rw[e]at d;have:=(dz d).2.1;omega
 .
  rw[a0d c]at a;by_cases f:how=8
  .
   rw[a0e f]at a;unfold bZ at a;by_cases g:b.size<=700
   . exact g
   . rw[a0d g]at a;cases a
  . rw[a0d f]at a;cases a
theorem Co(h:hdB s=true):oH s=if enB (wd s.data.toList 8 2) (wd s.data.toList 10 4) (wd s.data.toList 14 4) (wd s.data.toList 22 4) (nmB s) (bdB s)=true then .tuple #[enE (wd s.data.toList 10 4) (nmB s) (uxT (wd s.data.toList 8 2) (bdB s)),.int .i64 ((30+wd s.data.toList 26 2+wd s.data.toList 18 4:Nat):Int),.bool true]else .tuple #[noE,.int .i64 0,.bool false]:=by
 obtain⟨e1,e2⟩:=Ph s;rw[JF h,←e1];by_cases hb:enB (wd s.data.toList 8 2) (wd s.data.toList 10 4) (wd s.data.toList 14 4) (wd s.data.toList 22 4) (nmB s) (bdB s)=true
 . rw[a0e hb,a0e hb,e2 hb]
 . rw[a0d hb,a0d hb]
theorem Ll(t:ByteArray)(a:t.size<=300):nW (ef t) (bg t)=some t:=by
 unfold ef bg nW
 split
 . rw[a0d (by decide),a0e rfl,(BJ t a).1];simp
 . simp
theorem Ng{y mo d h mi s:Int}(k:cz y mo d h mi s=true):gY (stN y mo d h mi s)=y/\gM (stN y mo d h mi s)=mo/\gD (stN y mo d h mi s)=d/\gH (stN y mo d h mi s)=h/\gI (stN y mo d h mi s)=mi/\gS (stN y mo d h mi s)=s:=by
 obtain⟨⟨a0,a1⟩,⟨a,b⟩,⟨c0,_,c1⟩,⟨c,e⟩,⟨e0,e1⟩,⟨f0,f1⟩,f2⟩:=NQ k;simp only[gY,gM,gD,gH,gI,gS,stN];omega
theorem ze{n t:ByteArray}{N:Nat}(c:N<4294967296)(d:n.size<65536)(f:t.size<4294967296)(r:ByteArray) :
  hdB (ca n t N++r)=true/\wd (ca n t N++r).data.toList 8 2=ef t/\wd (ca n t N++r).data.toList 10 4=N/\wd (ca n t N++r).data.toList 14 4=aH 0 t.data.toList/\wd (ca n t N++r).data.toList 18 4=(bg t).size/\wd (ca n t N++r).data.toList 22 4=t.size/\wd (ca n t N++r).data.toList 26 2=n.size/\nmB (ca n t N++r)=n/\bdB (ca n t N++r)=bg t:=by
 have hb:=rT t;have o:=uU t;have p:=(qE c d f).1;have e:(ca n t N++r).data.toList=(cj (ef t) N (aH 0 t.data.toList) (bg t).size t.size n).data.toList++((bg t).data.toList++r.data.toList):=by
  rw[show(ca n t N++r).data.toList=(ca n t N).data.toList++r.data.toList by simp,ti,a0H]
 obtain⟨g,h,i,j,b,k,a,l,m⟩:=sx (how:=ef t) (st:=N) (crc:=aH 0 t.data.toList) (pk:=(bg t).size) (lg:=t.size) (nm:=n) ((bg t).data.toList++r.data.toList) (by omega) c (iJ _ _ (by omega)) (by omega) f d;rw[←e]at g h i j b k a l m;refine⟨gx.2 ⟨?_,g,?_⟩,h,i,j,b,k,a,aO ?_,aO ?_⟩
 . rw[a0u];omega
 . rw[a,b,a0u];omega
 . rw[tp,a,l]
 . rw[It,a,b,m,a1d (by simp),a0A (by simp)]
end Go.Proofs.YtlpmnnjlmjffpaaGreatDoor
