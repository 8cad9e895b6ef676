/- Of what the proof is made: 10 texts, one behind the other. -/
import Derived.Test.YtggknepmhjfohaaGreatDoorM20
import Derived.Test.YtggknepmhjfohaaGreatDoorM34
import Derived.Test.YtggknepmhjfohaaGreatDoorM26
import Derived.Test.YtggknepmhjfohaaGreatDoorM3
import Derived.Lib.QuietBelow
import Derived.Test.YtggknepmhjfohaaGreatDoorLpb
import Derived.Test.YtggknepmhjfohaaGreatDoorM32
import Derived.Test.YtggknepmhjfohaaGreatDoorShelf
import Derived.Test.YtggknepmhjfohaaGreatDoorM18
import Derived.Test.YtggknepmhjfohaaGreatDoorM7
import Derived.Test.YtggknepmhjfohaaGreatDoorM6
import Derived.Test.YtggknepmhjfohaaGreatDoorM33
import Derived.Test.YtggknepmhjfohaaGreatDoorM31
set_option maxRecDepth 100000
set_option linter.unusedSimpArgs false
set_option linter.unusedVariables false
set_option maxHeartbeats 12800000
namespace Go.Proofs.YtggknepmhjfohaaGreatDoor
open Go.Proofs.Tryz
open Go.RowKit Corb
variable {A B c g how:Nat}{E:World->Prop}{N:Nat->Prop}{W W' w:World}{b n s t:ByteArray}{d h mi mo y:Int}{vs z:List Value}
def RdS(w W:World):Prop:=Below w.heap.size w W/\Blk W w.heap.size [.string ⟨#[]⟩,.int .i64 0,.int .i64 0,.int .i64 0,.int .i64 0,.int .i64 0,.int .i64 0,.string ⟨#[]⟩]
theorem RdS.later(k:RdS w W)(hb:Below W.heap.size W W'):RdS w W':=⟨ap k.1 hb,k.2.later hb k.2.1⟩
theorem RdS.drew(k:RdS w W):RdS w W.drew:=⟨k.1.drew,k.2.drew⟩
theorem RdS.set(k:RdS w W)(a:w.heap.size<A)(o:Nat)(v:Value):RdS w (W.setCell ⟨A,o,none⟩ v):=⟨ah k.1 (a0s a) _,k.2.set_other v (by omega)⟩
theorem GB(h:hdB s=false):iH s = .tuple #[noE,.int .i64 0,.bool false]:=by simp[iH,wy,h]
theorem rm(h:¬ (dG s 0 4=67324752/\dG s 4 2=20/\dG s 6 2=0/\dG s 28 2=0)):iH s = .tuple #[noE,.int .i64 0,.bool false]:=by
 refine GB ?_;cases hb:hdB s
 . rfl
 . obtain⟨a,h2,b⟩:=rZ.1 hb;simp only[oc,a0l,a0u]at h2;obtain⟨e1,e2,e3,e4⟩:=h2;refine absurd ?_ h;rw[iX (by omega),iX (by omega),iX (by omega),iX (by omega),e1,e2,e3,e4];exact⟨rfl,rfl,rfl,rfl⟩
theorem GE(c:dG s 0 4=67324752)(d:dG s 4 2=20)(e:dG s 6 2=0)(b:dG s 28 2=0):30<=s.size/\oc s.data.toList=true:=by
 have a:28+2<=s.size:=by
  by_cases h:28+2<=s.size
  . exact h
  . rw[Dm h]at b;omega
 rw[iX (by omega)]at c d e b;refine⟨a,?_⟩;simp only[oc,a0l,a0u];omega
theorem LU(h:¬ 30+wd s.data.toList 26 2+wd s.data.toList 18 4<=s.size):iH s = .tuple #[noE,.int .i64 0,.bool false]:=GB (by simp[hdB,h])
theorem G3(h:hdB s=true):iH s=if ((txO (wd s.data.toList 8 2) (bdB s)&&(decide (wd s.data.toList 14 4=aI 0 (txT (wd s.data.toList 8 2) (bdB s)).data.toList)&&decide (wd s.data.toList 22 4=(txT (wd s.data.toList 8 2) (bdB s)).size)))&&vQ s (txT (wd s.data.toList 8 2) (bdB s)))=true then .tuple #[BG s (txT (wd s.data.toList 8 2) (bdB s)),.int .i64 ((30+wd s.data.toList 26 2+wd s.data.toList 18 4:Nat):Int),.bool true]else .tuple #[noE,.int .i64 0,.bool false]:=by
 unfold iH wy;rw[a0d h,LV];cases a:txO (wd s.data.toList 8 2) (bdB s)
 . simp
 .
  simp only[a0T,Gn];by_cases c1:wd s.data.toList 14 4=aI 0 (txT (wd s.data.toList 8 2) (bdB s)).data.toList
  .
   by_cases c2:wd s.data.toList 22 4=(txT (wd s.data.toList 8 2) (bdB s)).size
   . by_cases c3:vQ s (txT (wd s.data.toList 8 2) (bdB s))=true<;>simp[c1,c2,c3]
   . simp[c2]
  . simp[c1]
def RdP(s:ByteArray)(e:Ending):Prop:=∃n y mo d h mi c t k ok,e = .returned (.tuple #[.agg #[.string n,.int .i64 y,.int .i64 mo,.int .i64 d,.int .i64 h,.int .i64 mi,.int .i64 c,.string t],.int .i64 k,.bool ok])/\iH s=if ok=true then .tuple #[.agg #[.string n,.int .i64 y,.int .i64 mo,.int .i64 d,.int .i64 h,.int .i64 mi,.int .i64 c,.string t],.int .i64 k,.bool true]else .tuple #[noE,.int .i64 0,.bool false]
theorem Bq(s:ByteArray)(w:World)(hs:s.size<=1048576) :
  Calls prog 16 #[.string s] w fun e w'=>RdP s e/\Below w.heap.size w w':=by
 have p:prog.follows .mixedOrders=true:=by kernel_rfl
 have m:Hid (∀W,CD 36 #[.string s,.int .i64 26,.int .i64 2] W (.int .i64 (dG s 26 2))):=fun W=>d6 s 26 2 W (by decide) (by decide) (by omega);have l:Hid (∀W,CD 36 #[.string s,.int .i64 18,.int .i64 4] W (.int .i64 (dG s 18 4))):=fun W=>d6 s 18 4 W (by decide) (by decide) (by omega);have y:Hid (∀W,CD 36 #[.string s,.int .i64 0,.int .i64 4] W (.int .i64 (dG s 0 4))):=fun W=>d6 s 0 4 W (by decide) (by decide) (by omega);have D:Hid (∀W,CD 36 #[.string s,.int .i64 4,.int .i64 2] W (.int .i64 (dG s 4 2))):=fun W=>d6 s 4 2 W (by decide) (by decide) (by omega);have N:Hid (∀W,CD 36 #[.string s,.int .i64 6,.int .i64 2] W (.int .i64 (dG s 6 2))):=fun W=>d6 s 6 2 W (by decide) (by decide) (by omega);have B:Hid (∀W,CD 36 #[.string s,.int .i64 28,.int .i64 2] W (.int .i64 (dG s 28 2))):=fun W=>d6 s 28 2 W (by decide) (by decide) (by omega);have G:Hid (∀W,CD 36 #[.string s,.int .i64 10,.int .i64 4] W (.int .i64 (dG s 10 4))):=fun W=>d6 s 10 4 W (by decide) (by decide) (by omega);have C8:Hid (∀W,CD 36 #[.string s,.int .i64 8,.int .i64 2] W (.int .i64 (dG s 8 2))):=fun W=>d6 s 8 2 W (by decide) (by decide) (by omega);have P:Hid (∀W,CD 36 #[.string s,.int .i64 14,.int .i64 4] W (.int .i64 (dG s 14 4))):=fun W=>d6 s 14 4 W (by decide) (by decide) (by omega);have Q:Hid (∀W,CD 36 #[.string s,.int .i64 22,.int .i64 4] W (.int .i64 (dG s 22 4))):=fun W=>d6 s 22 4 W (by decide) (by decide) (by omega);have T0:Hid (RdS w (w.alloc (.cells #[.string ⟨#[]⟩,.int .i64 0,.int .i64 0,.int .i64 0,.int .i64 0,.int .i64 0,.int .i64 0,.string ⟨#[]⟩] 27))):=⟨(a0c _ _).alloc (a0a _) _,aN w #[.string ⟨#[]⟩,.int .i64 0,.int .i64 0,.int .i64 0,.int .i64 0,.int .i64 0,.int .i64 0,.string ⟨#[]⟩] 27⟩;by_cases r:dG s 0 4=67324752
 .
  by_cases u:dG s 4 2=20
  .
   by_cases C:dG s 6 2=0
   .
    by_cases M:dG s 28 2=0
    .
     obtain⟨I,L⟩:=GE r u C M;rw[r]at y;rw[u]at D;rw[C]at N;rw[M]at B;rw[iX (by omega)]at m l G C8 P Q;have Y:=kW s.data.toList 26;have V:=gU s.data.toList 18;have aa:=gU s.data.toList 10;have J:=kW s.data.toList 8;by_cases t:30+wd s.data.toList 26 2+wd s.data.toList 18 4<=s.size
     .
      have a6:=ti (s:=s) (by omega);have a0:=xd (s:=s) t;have HL:=af (G3 (rZ.2 ⟨I,L,t⟩));have b7:s.extract 30 (30+wd s.data.toList 26 2)=nmB s:=rfl;have b8:s.extract (30+wd s.data.toList 26 2) (30+wd s.data.toList 26 2+wd s.data.toList 18 4)=bdB s:=rfl;have CT:Hid (∀W,CD 38 #[.int .i64 (wd s.data.toList 8 2:Nat),.string (bdB s)] W (.tuple #[.string (txT (wd s.data.toList 8 2) (bdB s)),.bool (txO (wd s.data.toList 8 2) (bdB s))])):=fun W=>Br _ _ W (by omega) J;have a9:=zX (how:=wd s.data.toList 8 2) (b:=bdB s) (by omega);have CC:=af (fun W=>qJ (txT (wd s.data.toList 8 2) (bdB s)) W (by unfold maxLen;omega));have CE:=af (fun W=>ll (nmB s) (gY (wd s.data.toList 10 4:Nat)) (gM (wd s.data.toList 10 4:Nat)) (gD (wd s.data.toList 10 4:Nat)) (gH (wd s.data.toList 10 4:Nat)) (gI (wd s.data.toList 10 4:Nat)) (gS (wd s.data.toList 10 4:Nat)) (txT (wd s.data.toList 8 2) (bdB s)) W (by omega) (by omega));have CG:Hid (∀W,CD 37 #[.int .i64 (wd s.data.toList 10 4:Nat)] W (.agg #[.int .i64 (gY (wd s.data.toList 10 4:Nat)),.int .i64 (gM (wd s.data.toList 10 4:Nat)),.int .i64 (gD (wd s.data.toList 10 4:Nat)),.int .i64 (gH (wd s.data.toList 10 4:Nat)),.int .i64 (gI (wd s.data.toList 10 4:Nat)),.int .i64 (gS (wd s.data.toList 10 4:Nat))])):=fun W=>Ex _ W (by omega) (by omega);unfold BG vQ at HL;have a1:aI 0 (txT (wd s.data.toList 8 2) (bdB s)).data.toList<4294967296:=gu _ _ (by omega);generalize an:txO (wd s.data.toList 8 2) (bdB s)=OK at *
      generalize ao:txT (wd s.data.toList 8 2) (bdB s)=TX at *
      generalize ad:bdB s=BD at *
      generalize al:nmB s=NM at *
      generalize bb:gY (wd s.data.toList 10 4:Nat)=yy at *
      generalize a5:gM (wd s.data.toList 10 4:Nat)=mo at *
      generalize a2:gD (wd s.data.toList 10 4:Nat)=dd at *
      generalize a3:gH (wd s.data.toList 10 4:Nat)=hh at *
      generalize a4:gI (wd s.data.toList 10 4:Nat)=mi at *
      generalize a8:gS (wd s.data.toList 10 4:Nat)=ss at *
      generalize fY NM yy mo dd hh mi ss TX=EB at *
      generalize aI 0 TX.data.toList=cr at *
      generalize wd s.data.toList 26 2=NL at *
      generalize wd s.data.toList 18 4=LG at *
      generalize wd s.data.toList 10 4=ST at *
      generalize wd s.data.toList 8 2=HW at *
      generalize wd s.data.toList 14 4=CR at *
      generalize wd s.data.toList 22 4=LN at *
      have bd:0<=30+(NL:Int):=by omega
      have Z:decide ((NL:Int)<0)=false:=by simp
      have X:decide ((LG:Int)<0)=false:=by simp
      have F:30+(NL:Int)+(LG:Int)<=(s.size:Int):=by omega
      have b5:IntKind.i64.wrap (30+(NL:Int))=30+(NL:Int):=by rw[a1x];omega
      have b6:IntKind.i64.wrap (30+(NL:Int)+(LG:Int))=30+(NL:Int)+(LG:Int):=by rw[a1x];omega
      have bs:(30+(NL:Int)).toNat=30+NL:=by omega
      have b0:(30+(NL:Int)+(LG:Int)).toNat=30+NL+LG:=by omega
      have b1:30<=30+(NL:Int):=by omega
      have b2:30+(NL:Int)<=30+(NL:Int)+(LG:Int):=by omega
      have b3:30+(NL:Int)<=(s.size:Int):=by omega
      have b4:decide ((s.size:Int)<30+(NL:Int)+(LG:Int))=false:=by simpa using F
      have bl:(cr:Int)<4294967296:=by omega
      clear r u C M I L an ao ad al bb a5 a2 a3 a4 a8 Y V aa J a1 a6 a0 a9 t;go_enter a2N,a2O;go_wp2_with fail;refine(ae m _).mono ?_;rintro e x1 ⟨rfl,hb⟩;have T1:=af ((ae T0).later hb);clear hb T0;go_wp2_with fail;refine(ae l _).mono ?_;rintro e x2 ⟨rfl,hb⟩;have T2:=af ((ae T1).later hb);clear hb T1;go_wp2_with fail;refine(ae y _).mono ?_;rintro e x3 ⟨rfl,hb⟩;have T3:=af ((ae T2).later hb);clear hb T2;go_wp2_with fail;refine(ae D _).mono ?_;rintro e x4 ⟨rfl,hb⟩;have T4:=af ((ae T3).later hb);clear hb T3;go_wp2_with fail;refine(ae N _).mono ?_;rintro e x5 ⟨rfl,hb⟩;have T5:=af ((ae T4).later hb);clear hb T4;go_wp2_with fail;refine(ae B _).mono ?_;rintro e x6 ⟨rfl,hb⟩;have T6:=af ((ae T5).later hb);clear hb T5;go_wp2_with fail;go_cut[8] (fun v wx=>∃A,v = .pointer (some ⟨A,0,none⟩)/\w.heap.size<A/\RdS w wx/\Blk wx A [.string NM,.int .i64 yy,.int .i64 mo,.int .i64 dd,.int .i64 hh,.int .i64 mi,.int .i64 ss,.string ⟨#[]⟩])
      case first=>
       refine wp_region_held_drew (S:=fun _=>True) p trivial (fun _=>?_);refine wpAnyH_take (i:=0) (v:=.string s) rfl (by kernel_rfl) (by kernel_rfl) (by kernel_rfl) (fun _ _ _ h=>h) (a0o ⟨by rfl,fun W c=>by go_simp⟩) trivial ?_;refine wpAnyH_take (i:=1) (v:=.int .i64 (NL:Nat)) rfl (by kernel_rfl) (by kernel_rfl) (by kernel_rfl) (fun _ _ _ h=>h) (a0o ⟨by rfl,fun W c=>by go_simp⟩) trivial ?_;refine wpAnyH_take (i:=2) (v:=.int .i64 (30+(NL:Int))) rfl (by kernel_rfl) (by kernel_rfl) (by kernel_rfl) (fun _ _ _ h=>h) (a0o ⟨by rfl,fun W c=>by go_simp⟩) trivial ?_;refine wpAnyH_take (i:=3) (v:=.string NM) rfl (by kernel_rfl) (by kernel_rfl) (by kernel_rfl) (fun _ _ _ h=>h) (a0o ⟨by rfl,fun W c=>by go_simp⟩) trivial ?_;refine wpAnyH_take (i:=4) (v:=.string s) rfl (by kernel_rfl) (by kernel_rfl) (by kernel_rfl) (fun _ _ _ h=>h) (a0o ⟨by rfl,fun W c=>by go_simp⟩) trivial ?_;have T7:=af (ae T6).drew;clear T6;generalize x6.drew=W7 at *
       refine wpAnyH_ready (rs:=[5,8]) (by kernel_rfl) (by simp) ?_;refine AllReadyH.cons rfl (fun K a=>?_) (AllReadyH.cons rfl (fun K a=>?_) (AllReadyH.nil))
       .
        go_simp;go_at_call 36;refine(ae G W7).mono ?_;rintro e W8 ⟨rfl,g⟩;have T8:=af ((ae T7).later g);refine Shut.out a _ _ trivial (fun _=>?_);clear a K g T7;refine wpAnyH_ready (rs:=[6,8]) (by kernel_rfl) (by simp) ?_;refine AllReadyH.cons rfl (fun K a=>?_) (AllReadyH.cons rfl (fun K a=>?_) (AllReadyH.nil))
        .
         go_simp;go_at_call 37;refine(ae CG W8).mono ?_;rintro e W9 ⟨rfl,g⟩;have T9:=af ((ae T8).later g);refine Shut.out a _ _ trivial (fun _=>?_);clear a K g T8;refine wpAnyH_take (i:=7) (v:=.agg #[.string NM,.int .i64 yy,.int .i64 mo,.int .i64 dd,.int .i64 hh,.int .i64 mi,.int .i64 ss,.string ⟨#[]⟩]) rfl (by kernel_rfl) (by kernel_rfl) (by kernel_rfl) (fun _ _ _ h=>h) (a0o ⟨by rfl,fun W c=>by go_simp⟩) trivial ?_;refine ai 8 (by kernel_rfl) rfl fun K a=>?_;go_simp;have g:Below W9.heap.size W9 (W9.alloc (.cells #[.string ⟨#[]⟩,.int .i64 0,.int .i64 0,.int .i64 0,.int .i64 0,.int .i64 0,.int .i64 0,.string ⟨#[]⟩] 27)):=(a0c _ _).alloc (a0a _) _;have T10:=af ((ae T9).later g);have j:Hid (Blk (W9.alloc (.cells #[.string ⟨#[]⟩,.int .i64 0,.int .i64 0,.int .i64 0,.int .i64 0,.int .i64 0,.int .i64 0,.string ⟨#[]⟩] 27)) W9.heap.size [.string ⟨#[]⟩,.int .i64 0,.int .i64 0,.int .i64 0,.int .i64 0,.int .i64 0,.int .i64 0,.string ⟨#[]⟩]):=aN _ _ _;have k:w.heap.size<W9.heap.size:=(ae T9).2.1;refine Shut.out a _ _ trivial (fun _=>?_);clear a K;obtain⟨A,hAe⟩:∃x,W9.heap.size=x:=⟨_,rfl⟩;obtain⟨W10,hW10⟩:∃x,W9.alloc (.cells #[.string ⟨#[]⟩,.int .i64 0,.int .i64 0,.int .i64 0,.int .i64 0,.int .i64 0,.int .i64 0,.string ⟨#[]⟩] 27)=x:=⟨_,rfl⟩;rw[hW10]at T10;rw[hAe,hW10]at j;rw[hAe]at k;rw[hAe,hW10];clear g hAe hW10 T9;refine ai 9 (by kernel_rfl) rfl fun K a=>?_;have aA:=(ae j).cells (n:=8) rfl;have fA:=(ae j).frees (n:=8) rfl;go_simp;have ZX:=af (ul (ae T10).1 (a0s k) (ae j) (.string NM) (.int .i64 yy) (.int .i64 mo) (.int .i64 dd) (.int .i64 hh) (.int .i64 mi) (.int .i64 ss) (.string ⟨#[]⟩));have OX:=af (kK (ae T10).2 (a1J k) (.string NM) (.int .i64 yy) (.int .i64 mo) (.int .i64 dd) (.int .i64 hh) (.int .i64 mi) (.int .i64 ss) (.string ⟨#[]⟩));clear aA fA;refine Shut.out a _ _ trivial (fun _=>?_);clear a K;refine wpAnyH_done (by kernel_rfl) ?_ _;go_wp2_with fail
         go_meet
         case rel=>exact⟨A,rfl,k,⟨(ae ZX).1,ae OX⟩,(ae ZX).2⟩
        .
         go_simp;have g:Below W8.heap.size W8 (W8.alloc (.cells #[.string ⟨#[]⟩,.int .i64 0,.int .i64 0,.int .i64 0,.int .i64 0,.int .i64 0,.int .i64 0,.string ⟨#[]⟩] 27)):=(a0c _ _).alloc (a0a _) _;have T9:=af ((ae T8).later g);have q:Hid (Blk (W8.alloc (.cells #[.string ⟨#[]⟩,.int .i64 0,.int .i64 0,.int .i64 0,.int .i64 0,.int .i64 0,.int .i64 0,.string ⟨#[]⟩] 27)) W8.heap.size [.string ⟨#[]⟩,.int .i64 0,.int .i64 0,.int .i64 0,.int .i64 0,.int .i64 0,.int .i64 0,.string ⟨#[]⟩]):=aN _ _ _;have k:w.heap.size<W8.heap.size:=(ae T8).2.1;refine Shut.out a _ _ trivial (fun _=>?_);clear a K;obtain⟨A,hAe⟩:∃x,W8.heap.size=x:=⟨_,rfl⟩;obtain⟨W9,hW9⟩:∃x,W8.alloc (.cells #[.string ⟨#[]⟩,.int .i64 0,.int .i64 0,.int .i64 0,.int .i64 0,.int .i64 0,.int .i64 0,.string ⟨#[]⟩] 27)=x:=⟨_,rfl⟩;rw[hW9]at T9;rw[hAe,hW9]at q;rw[hAe]at k;rw[hAe,hW9];clear g hAe hW9 T8;refine ai 6 (by kernel_rfl) rfl fun K a=>?_;go_simp;go_at_call 37;refine(ae CG W9).mono ?_;rintro e W10 ⟨rfl,g⟩;have T10:=af ((ae T9).later g);have j:=af ((ae q).later g (ae q).1);refine Shut.out a _ _ trivial (fun _=>?_);clear a K g T9 q;refine wpAnyH_take (i:=7) (v:=.agg #[.string NM,.int .i64 yy,.int .i64 mo,.int .i64 dd,.int .i64 hh,.int .i64 mi,.int .i64 ss,.string ⟨#[]⟩]) rfl (by kernel_rfl) (by kernel_rfl) (by kernel_rfl) (fun _ _ _ h=>h) (a0o ⟨by rfl,fun W c=>by go_simp⟩) trivial ?_;refine ai 9 (by kernel_rfl) rfl fun K a=>?_;have aA:=(ae j).cells (n:=8) rfl;have fA:=(ae j).frees (n:=8) rfl;go_simp;have ZX:=af (ul (ae T10).1 (a0s k) (ae j) (.string NM) (.int .i64 yy) (.int .i64 mo) (.int .i64 dd) (.int .i64 hh) (.int .i64 mi) (.int .i64 ss) (.string ⟨#[]⟩));have OX:=af (kK (ae T10).2 (a1J k) (.string NM) (.int .i64 yy) (.int .i64 mo) (.int .i64 dd) (.int .i64 hh) (.int .i64 mi) (.int .i64 ss) (.string ⟨#[]⟩));clear aA fA;refine Shut.out a _ _ trivial (fun _=>?_);clear a K;refine wpAnyH_done (by kernel_rfl) ?_ _;go_wp2_with fail
         go_meet
         case rel=>exact⟨A,rfl,k,⟨(ae ZX).1,ae OX⟩,(ae ZX).2⟩
       .
        go_simp;have g:Below W7.heap.size W7 (W7.alloc (.cells #[.string ⟨#[]⟩,.int .i64 0,.int .i64 0,.int .i64 0,.int .i64 0,.int .i64 0,.int .i64 0,.string ⟨#[]⟩] 27)):=(a0c _ _).alloc (a0a _) _;have T8:=af ((ae T7).later g);have z:Hid (Blk (W7.alloc (.cells #[.string ⟨#[]⟩,.int .i64 0,.int .i64 0,.int .i64 0,.int .i64 0,.int .i64 0,.int .i64 0,.string ⟨#[]⟩] 27)) W7.heap.size [.string ⟨#[]⟩,.int .i64 0,.int .i64 0,.int .i64 0,.int .i64 0,.int .i64 0,.int .i64 0,.string ⟨#[]⟩]):=aN _ _ _;have k:w.heap.size<W7.heap.size:=(ae T7).2.1;refine Shut.out a _ _ trivial (fun _=>?_);clear a K;obtain⟨A,hAe⟩:∃x,W7.heap.size=x:=⟨_,rfl⟩;obtain⟨W8,hW8⟩:∃x,W7.alloc (.cells #[.string ⟨#[]⟩,.int .i64 0,.int .i64 0,.int .i64 0,.int .i64 0,.int .i64 0,.int .i64 0,.string ⟨#[]⟩] 27)=x:=⟨_,rfl⟩;rw[hW8]at T8;rw[hAe,hW8]at z;rw[hAe]at k;rw[hAe,hW8];clear g hAe hW8 T7;refine ai 5 (by kernel_rfl) rfl fun K a=>?_;go_simp;go_at_call 36;refine(ae G W8).mono ?_;rintro e W9 ⟨rfl,g⟩;have T9:=af ((ae T8).later g);have q:=af ((ae z).later g (ae z).1);refine Shut.out a _ _ trivial (fun _=>?_);clear a K g T8 z;refine ai 6 (by kernel_rfl) rfl fun K a=>?_;go_simp;go_at_call 37;refine(ae CG W9).mono ?_;rintro e W10 ⟨rfl,g⟩;have T10:=af ((ae T9).later g);have j:=af ((ae q).later g (ae q).1);refine Shut.out a _ _ trivial (fun _=>?_);clear a K g T9 q;refine wpAnyH_take (i:=7) (v:=.agg #[.string NM,.int .i64 yy,.int .i64 mo,.int .i64 dd,.int .i64 hh,.int .i64 mi,.int .i64 ss,.string ⟨#[]⟩]) rfl (by kernel_rfl) (by kernel_rfl) (by kernel_rfl) (fun _ _ _ h=>h) (a0o ⟨by rfl,fun W c=>by go_simp⟩) trivial ?_;refine ai 9 (by kernel_rfl) rfl fun K a=>?_;have aA:=(ae j).cells (n:=8) rfl;have fA:=(ae j).frees (n:=8) rfl;go_simp;have ZX:=af (ul (ae T10).1 (a0s k) (ae j) (.string NM) (.int .i64 yy) (.int .i64 mo) (.int .i64 dd) (.int .i64 hh) (.int .i64 mi) (.int .i64 ss) (.string ⟨#[]⟩));have OX:=af (kK (ae T10).2 (a1J k) (.string NM) (.int .i64 yy) (.int .i64 mo) (.int .i64 dd) (.int .i64 hh) (.int .i64 mi) (.int .i64 ss) (.string ⟨#[]⟩));clear aA fA;refine Shut.out a _ _ trivial (fun _=>?_);clear a K;refine wpAnyH_done (by kernel_rfl) ?_ _;go_wp2_with fail
        go_meet
        case rel=>exact⟨A,rfl,k,⟨(ae ZX).1,ae OX⟩,(ae ZX).2⟩
      case rest=>
       obtain⟨A,rfl,k,TA',T⟩:=hcut;have TA:=af TA';have RA:=af T;clear TA' T T6;go_wp2_with fail;have c8:=fun d os=>Calls.regrown_of (w:=wc) (d:=d) (os:=os) (ae C8 _);have cT:=fun d os=>Calls.regrown_of (w:=wc) (d:=d) (os:=os) (ae CT _);refine wp_region_quiet_below p (by kernel_rfl) ?_;repeat (quiet_step (first|exact c8 _ _|exact cT _ _))
       refine a3f ?_;intro zw ba;obtain⟨⟨dq,osq⟩,ab⟩:=ba;have HZ:=below_regrown wc dq osq;rw[←ab]at HZ;have T7:=af ((ae TA).later HZ);have R7:=af ((ae RA).later HZ (ae RA).1);clear ab HZ c8 cT TA RA;have a7:=(ae R7).cell 7 _ rfl;have f7:=(ae R7).free 7 (by simp)
       go_upto_region 9 with fail
       have T8:=af ((ae T7).set k 7 (.string TX));have z:=af ((ae R7).set 7 (.string TX));clear a7 f7 T7 R7;generalize zw.setCell ⟨A,7,none⟩ (.string TX)=Z8 at *
       go_cut[10] (fun v wx=>v = .bool (OK&&(decide (CR=cr)&&decide (LN=TX.size)))/\RdS w wx/\Blk wx A [.string NM,.int .i64 yy,.int .i64 mo,.int .i64 dd,.int .i64 hh,.int .i64 mi,.int .i64 ss,.string TX])
       case first=>
        cases OK
        .
         go_wp2_with fail
         go_meet
         case rel=>exact⟨rfl,ae T8,ae z⟩
        .
         go_wp2_with fail;refine(ae P _).mono ?_;rintro e x9 ⟨rfl,hb⟩;have T9:=af ((ae T8).later hb);have q:=af ((ae z).later hb (ae z).1);clear hb T8 z;go_wp2_with fail;refine(ae CC _).mono ?_;rintro e x10 ⟨rfl,rfl⟩;by_cases k1:CR=cr
         .
          subst k1;go_wp2_with fail;refine(ae Q _).mono ?_;rintro e x11 ⟨rfl,hb⟩;have T11:=af ((ae T9).later hb);have R:=af ((ae q).later hb (ae q).1);clear hb T9 q;by_cases k2:LN=TX.size
          .
           have ac:(LN:Int)=(TX.size:Int):=by omega
           go_wp2_with fail
           go_meet
           case rel=>exact⟨by simp[k2],ae T11,ae R⟩
          .
           have ac:¬ (LN:Int)=(TX.size:Int):=by omega
           go_wp2_with fail
           go_meet
           case rel=>exact⟨by simp[k2,ac],ae T11,ae R⟩
         .
          have b9:¬ (CR:Int)=(cr:Int):=by omega
          go_wp2_with fail
          go_meet
          case rel=>exact⟨by simp[k1],ae T9,ae q⟩
       case rest=>
        obtain⟨rfl,TB',U⟩:=hcut;have TB:=af TB';have O:=af U;clear TB' U T8 z;have o:Hid (iH s=if ((OK&&(decide (CR=cr)&&decide (LN=TX.size)))&&EB)=true then .tuple #[.agg #[.string NM,.int .i64 yy,.int .i64 mo,.int .i64 dd,.int .i64 hh,.int .i64 mi,.int .i64 ss,.string TX],.int .i64 (30+(NL:Int)+(LG:Int)),.bool true]else .tuple #[noE,.int .i64 0,.bool false]):=by
         have:=ae HL;show _=_;rw[this,Int.natCast_add,Int.natCast_add]
         congr 1
        generalize (OK&&(decide (CR=cr)&&decide (LN=TX.size)))=OB at *
        go_wp2_with fail;cases OB
        .
         have o:=af (show iH s = .tuple #[noE,.int .i64 0,.bool false]from ae o);refine wp_region_held_drew (S:=fun W=>Blk W A [.string NM,.int .i64 yy,.int .i64 mo,.int .i64 dd,.int .i64 hh,.int .i64 mi,.int .i64 ss,.string TX]) p (ae O).drew (fun f=>?_);refine ag 0 (.agg #[.string NM,.int .i64 yy,.int .i64 mo,.int .i64 dd,.int .i64 hh,.int .i64 mi,.int .i64 ss,.string TX]) rfl (by kernel_rfl) (fun _ _ _ h=>h) rfl (fun W c=>by have sA:=Blk.cells c (n:=8) rfl;go_simp) f ?_;refine ag 1 (.int .i64 (NL:Nat)) rfl (by kernel_rfl) (fun _ _ _ h=>h) rfl (fun W c=>by go_simp) f ?_;refine ag 2 (.int .i64 (30+(NL:Int))) rfl (by kernel_rfl) (fun _ _ _ h=>h) rfl (fun W c=>by go_simp) f ?_;refine ag 3 (.int .i64 (LG:Nat)) rfl (by kernel_rfl) (fun _ _ _ h=>h) rfl (fun W c=>by go_simp) f ?_;refine ag 4 (.int .i64 (30+(NL:Int)+(LG:Int))) rfl (by kernel_rfl) (fun _ _ _ h=>h) rfl (fun W c=>by go_simp) f ?_;refine ag 5 (.bool false) rfl (by kernel_rfl) (fun _ _ _ h=>h) rfl (fun W c=>by go_simp) f ?_;refine ag 6 (.bool false) rfl (by kernel_rfl) (fun _ _ _ h=>h) rfl (fun W c=>by go_simp) f ?_;refine ai 7 (by kernel_rfl) rfl fun K a=>?_;go_simp;refine Shut.out a _ _ f (fun f=>?_);clear a K;refine ai 8 (by kernel_rfl) rfl fun K a=>?_;go_simp;refine Shut.out a _ _ f (fun f=>?_);clear a K;refine ag 9 (.bool false) rfl (by kernel_rfl) (fun _ _ _ h=>h) rfl (fun W c=>by go_simp) f ?_;have TD:=af (ae TB).drew;have RD:=af (ae O).drew;clear TB O;generalize wc.drew=V1 at *
         refine ai 10 (by kernel_rfl) rfl fun K a=>?_;have E:=(ae TD).2.cells (n:=8) rfl;have gA:=(ae TD).2.frees (n:=8) rfl;go_simp;have ZZ:=af (ul (ae TD).1 (a0a _) (ae TD).2 (.string NM) (.int .i64 yy) (.int .i64 mo) (.int .i64 dd) (.int .i64 hh) (.int .i64 mi) (.int .i64 ss) (.string TX));have H:=af (kK (ae RD) (a1w k) (.string NM) (.int .i64 yy) (.int .i64 mo) (.int .i64 dd) (.int .i64 hh) (.int .i64 mi) (.int .i64 ss) (.string TX));clear E gA;refine Shut.out a _ _ (ae H) (fun f=>?_);clear a K;refine ai 11 (by kernel_rfl) rfl fun K a=>?_;go_simp;refine Shut.out a _ _ (ae H) (fun f=>?_);clear a K;refine ai 12 (by kernel_rfl) rfl fun K a=>?_;go_simp;refine Shut.out a _ _ (ae H) (fun f=>?_);clear a K;refine wpAnyH_done (by kernel_rfl) ?_ _;go_wp2;have zA:=(ae ZZ).2.cells (n:=8) rfl;refine a0y (v:=.tuple #[.agg #[.string NM,.int .i64 yy,.int .i64 mo,.int .i64 dd,.int .i64 hh,.int .i64 mi,.int .i64 ss,.string TX],.int .i64 (30+(NL:Int)+(LG:Int)),.bool false]) (by simp[results,a2m,go_sem,zA]) rfl ⟨⟨_,_,_,_,_,_,_,_,_,_,rfl,?_⟩,(ae ZZ).1⟩;exact ae o
        .
         refine wp_region_held_drew (S:=fun W=>Blk W A [.string NM,.int .i64 yy,.int .i64 mo,.int .i64 dd,.int .i64 hh,.int .i64 mi,.int .i64 ss,.string TX]) p (ae O).drew (fun f=>?_);refine ag 0 (.agg #[.string NM,.int .i64 yy,.int .i64 mo,.int .i64 dd,.int .i64 hh,.int .i64 mi,.int .i64 ss,.string TX]) rfl (by kernel_rfl) (fun _ _ _ h=>h) rfl (fun W c=>by have sA:=Blk.cells c (n:=8) rfl;go_simp) f ?_;refine ag 1 (.int .i64 (NL:Nat)) rfl (by kernel_rfl) (fun _ _ _ h=>h) rfl (fun W c=>by go_simp) f ?_;refine ag 2 (.int .i64 (30+(NL:Int))) rfl (by kernel_rfl) (fun _ _ _ h=>h) rfl (fun W c=>by go_simp) f ?_;refine ag 3 (.int .i64 (LG:Nat)) rfl (by kernel_rfl) (fun _ _ _ h=>h) rfl (fun W c=>by go_simp) f ?_;refine ag 4 (.int .i64 (30+(NL:Int)+(LG:Int))) rfl (by kernel_rfl) (fun _ _ _ h=>h) rfl (fun W c=>by go_simp) f ?_;refine ag 5 (.bool true) rfl (by kernel_rfl) (fun _ _ _ h=>h) rfl (fun W c=>by go_simp) f ?_;refine ag 6 (.bool true) rfl (by kernel_rfl) (fun _ _ _ h=>h) rfl (fun W c=>by go_simp) f ?_;have sA:=Blk.cells f (n:=8) rfl;refine ai 7 (by kernel_rfl) rfl fun K a=>?_;go_simp;refine Shut.out a _ _ f (fun f=>?_);clear a K;clear sA;have TC:=af (ae TB).drew;have RC:=af (ae O).drew;clear TB O;generalize wc.drew=V0 at *
         refine ai 8 (by kernel_rfl) rfl fun K a=>?_;go_simp;go_at_call 22;refine(ae CE V0).mono ?_;rintro e V1 ⟨rfl,g⟩;have TD:=af ((ae TC).later g);have RD:=af ((ae RC).later g (ae RC).1);refine Shut.out a _ _ (ae RD) (fun f=>?_);clear a K g TC RC;refine ag 9 (.bool EB) rfl (by kernel_rfl) (fun _ _ _ h=>h) rfl (fun W c=>by go_simp) f ?_;refine ai 10 (by kernel_rfl) rfl fun K a=>?_;have E:=(ae TD).2.cells (n:=8) rfl;have gA:=(ae TD).2.frees (n:=8) rfl;go_simp;have ZZ:=af (ul (ae TD).1 (a0a _) (ae TD).2 (.string NM) (.int .i64 yy) (.int .i64 mo) (.int .i64 dd) (.int .i64 hh) (.int .i64 mi) (.int .i64 ss) (.string TX));have H:=af (kK (ae RD) (a1w k) (.string NM) (.int .i64 yy) (.int .i64 mo) (.int .i64 dd) (.int .i64 hh) (.int .i64 mi) (.int .i64 ss) (.string TX));clear E gA;refine Shut.out a _ _ (ae H) (fun f=>?_);clear a K;refine ai 11 (by kernel_rfl) rfl fun K a=>?_;go_simp;refine Shut.out a _ _ (ae H) (fun f=>?_);clear a K;refine ai 12 (by kernel_rfl) rfl fun K a=>?_;go_simp;refine Shut.out a _ _ (ae H) (fun f=>?_);clear a K;refine wpAnyH_done (by kernel_rfl) ?_ _;go_wp2;have zA:=(ae ZZ).2.cells (n:=8) rfl;refine a0y (v:=.tuple #[.agg #[.string NM,.int .i64 yy,.int .i64 mo,.int .i64 dd,.int .i64 hh,.int .i64 mi,.int .i64 ss,.string TX],.int .i64 (30+(NL:Int)+(LG:Int)),.bool EB]) (by simp[results,a2m,go_sem,zA]) rfl ⟨⟨_,_,_,_,_,_,_,_,_,_,rfl,?_⟩,(ae ZZ).1⟩;exact ae o
     .
      have o:=af (LU (s:=s) t);generalize wd s.data.toList 26 2=NL at *
      generalize wd s.data.toList 18 4=LG at *
      have bk:(NL:Int)<65536:=by omega
      have bc:(LG:Int)<4294967296:=by omega
      have Z:decide ((NL:Int)<0)=false:=by simp
      have X:decide ((LG:Int)<0)=false:=by simp
      have F:(s.size:Int)<30+(NL:Int)+(LG:Int):=by omega
      clear r u C M I L t Y V aa J;go_enter a2N,a2O;go_wp2_with fail;refine(ae m _).mono ?_;rintro e x1 ⟨rfl,hb⟩;have T1:=af ((ae T0).later hb);clear hb T0;go_wp2_with fail;refine(ae l _).mono ?_;rintro e x2 ⟨rfl,hb⟩;have T2:=af ((ae T1).later hb);clear hb T1;go_wp2_with fail;refine(ae y _).mono ?_;rintro e x3 ⟨rfl,hb⟩;have T3:=af ((ae T2).later hb);clear hb T2;go_wp2_with fail;refine(ae D _).mono ?_;rintro e x4 ⟨rfl,hb⟩;have T4:=af ((ae T3).later hb);clear hb T3;go_wp2_with fail;refine(ae N _).mono ?_;rintro e x5 ⟨rfl,hb⟩;have T5:=af ((ae T4).later hb);clear hb T4;go_wp2_with fail;refine(ae B _).mono ?_;rintro e x6 ⟨rfl,hb⟩;have T6:=af ((ae T5).later hb);clear hb T5;have E:=(ae T6).2.cells (n:=8) rfl;have gA:=(ae T6).2.frees (n:=8) rfl;have ZZ:=af (ul (ae T6).1 (a0a _) (ae T6).2 (.string ⟨#[]⟩) (.int .i64 0) (.int .i64 0) (.int .i64 0) (.int .i64 0) (.int .i64 0) (.int .i64 0) (.string ⟨#[]⟩));go_wp2;have zA:=(ae ZZ).2.cells (n:=8) rfl;refine a0y (v:=.tuple #[.agg #[.string ⟨#[]⟩,.int .i64 0,.int .i64 0,.int .i64 0,.int .i64 0,.int .i64 0,.int .i64 0,.string ⟨#[]⟩],.int .i64 0,.bool false]) (by simp[results,a2m,go_sem,zA]) rfl ⟨⟨_,_,_,_,_,_,_,_,_,_,rfl,ae o⟩,(ae ZZ).1⟩
    .
     have o:=af (rm (s:=s) (fun h=>M h.2.2.2));rw[r]at y;rw[u]at D;rw[C]at N;clear r u C;have qb:(dG s 28 2 == 0)=false:=by simpa using M
     clear M;generalize dG s 28 2=i3 at *
     generalize dG s 26 2=i26 at *
     generalize dG s 18 4=i18 at *
     go_enter a2N,a2O;go_wp2_with fail;refine(ae m _).mono ?_;rintro e x1 ⟨rfl,hb⟩;have T1:=af ((ae T0).later hb);clear hb T0;go_wp2_with fail;refine(ae l _).mono ?_;rintro e x2 ⟨rfl,hb⟩;have T2:=af ((ae T1).later hb);clear hb T1;go_wp2_with fail;refine(ae y _).mono ?_;rintro e x3 ⟨rfl,hb⟩;have T3:=af ((ae T2).later hb);clear hb T2;go_wp2_with fail;refine(ae D _).mono ?_;rintro e x4 ⟨rfl,hb⟩;have T4:=af ((ae T3).later hb);clear hb T3;go_wp2_with fail;refine(ae N _).mono ?_;rintro e x5 ⟨rfl,hb⟩;have T5:=af ((ae T4).later hb);clear hb T4;go_wp2_with fail;refine(ae B _).mono ?_;rintro e x6 ⟨rfl,hb⟩;have T6:=af ((ae T5).later hb);clear hb T5;have E:=(ae T6).2.cells (n:=8) rfl;have gA:=(ae T6).2.frees (n:=8) rfl;have ZZ:=af (ul (ae T6).1 (a0a _) (ae T6).2 (.string ⟨#[]⟩) (.int .i64 0) (.int .i64 0) (.int .i64 0) (.int .i64 0) (.int .i64 0) (.int .i64 0) (.string ⟨#[]⟩));go_wp2;have zA:=(ae ZZ).2.cells (n:=8) rfl;refine a0y (v:=.tuple #[.agg #[.string ⟨#[]⟩,.int .i64 0,.int .i64 0,.int .i64 0,.int .i64 0,.int .i64 0,.int .i64 0,.string ⟨#[]⟩],.int .i64 0,.bool false]) (by simp[results,a2m,go_sem,zA]) rfl ⟨⟨_,_,_,_,_,_,_,_,_,_,rfl,ae o⟩,(ae ZZ).1⟩
   .
    have o:=af (rm (s:=s) (fun h=>C h.2.2.1));rw[r]at y;rw[u]at D;clear r u;have qb:(dG s 6 2 == 0)=false:=by simpa using C
    clear C;generalize dG s 6 2=i2 at *
    generalize dG s 26 2=i26 at *
    generalize dG s 18 4=i18 at *
    go_enter a2N,a2O;go_wp2_with fail;refine(ae m _).mono ?_;rintro e x1 ⟨rfl,hb⟩;have T1:=af ((ae T0).later hb);clear hb T0;go_wp2_with fail;refine(ae l _).mono ?_;rintro e x2 ⟨rfl,hb⟩;have T2:=af ((ae T1).later hb);clear hb T1;go_wp2_with fail;refine(ae y _).mono ?_;rintro e x3 ⟨rfl,hb⟩;have T3:=af ((ae T2).later hb);clear hb T2;go_wp2_with fail;refine(ae D _).mono ?_;rintro e x4 ⟨rfl,hb⟩;have T4:=af ((ae T3).later hb);clear hb T3;go_wp2_with fail;refine(ae N _).mono ?_;rintro e x5 ⟨rfl,hb⟩;have T5:=af ((ae T4).later hb);clear hb T4;have E:=(ae T5).2.cells (n:=8) rfl;have gA:=(ae T5).2.frees (n:=8) rfl;have ZZ:=af (ul (ae T5).1 (a0a _) (ae T5).2 (.string ⟨#[]⟩) (.int .i64 0) (.int .i64 0) (.int .i64 0) (.int .i64 0) (.int .i64 0) (.int .i64 0) (.string ⟨#[]⟩));go_wp2;have zA:=(ae ZZ).2.cells (n:=8) rfl;refine a0y (v:=.tuple #[.agg #[.string ⟨#[]⟩,.int .i64 0,.int .i64 0,.int .i64 0,.int .i64 0,.int .i64 0,.int .i64 0,.string ⟨#[]⟩],.int .i64 0,.bool false]) (by simp[results,a2m,go_sem,zA]) rfl ⟨⟨_,_,_,_,_,_,_,_,_,_,rfl,ae o⟩,(ae ZZ).1⟩
  .
   have o:=af (rm (s:=s) (fun h=>u h.2.1));rw[r]at y;clear r;have qb:(dG s 4 2 == 20)=false:=by simpa using u
   clear u;generalize dG s 4 2=i1 at *
   generalize dG s 26 2=i26 at *
   generalize dG s 18 4=i18 at *
   go_enter a2N,a2O;go_wp2_with fail;refine(ae m _).mono ?_;rintro e x1 ⟨rfl,hb⟩;have T1:=af ((ae T0).later hb);clear hb T0;go_wp2_with fail;refine(ae l _).mono ?_;rintro e x2 ⟨rfl,hb⟩;have T2:=af ((ae T1).later hb);clear hb T1;go_wp2_with fail;refine(ae y _).mono ?_;rintro e x3 ⟨rfl,hb⟩;have T3:=af ((ae T2).later hb);clear hb T2;go_wp2_with fail;refine(ae D _).mono ?_;rintro e x4 ⟨rfl,hb⟩;have T4:=af ((ae T3).later hb);clear hb T3;have E:=(ae T4).2.cells (n:=8) rfl;have gA:=(ae T4).2.frees (n:=8) rfl;have ZZ:=af (ul (ae T4).1 (a0a _) (ae T4).2 (.string ⟨#[]⟩) (.int .i64 0) (.int .i64 0) (.int .i64 0) (.int .i64 0) (.int .i64 0) (.int .i64 0) (.string ⟨#[]⟩));go_wp2;have zA:=(ae ZZ).2.cells (n:=8) rfl;refine a0y (v:=.tuple #[.agg #[.string ⟨#[]⟩,.int .i64 0,.int .i64 0,.int .i64 0,.int .i64 0,.int .i64 0,.int .i64 0,.string ⟨#[]⟩],.int .i64 0,.bool false]) (by simp[results,a2m,go_sem,zA]) rfl ⟨⟨_,_,_,_,_,_,_,_,_,_,rfl,ae o⟩,(ae ZZ).1⟩
 .
  have o:=af (rm (s:=s) (fun h=>r h.1));have qb:(dG s 0 4 == 67324752)=false:=by simpa using r
  clear r;generalize dG s 0 4=i0 at *
  generalize dG s 26 2=i26 at *
  generalize dG s 18 4=i18 at *
  go_enter a2N,a2O;go_wp2_with fail;refine(ae m _).mono ?_;rintro e x1 ⟨rfl,hb⟩;have T1:=af ((ae T0).later hb);clear hb T0;go_wp2_with fail;refine(ae l _).mono ?_;rintro e x2 ⟨rfl,hb⟩;have T2:=af ((ae T1).later hb);clear hb T1;go_wp2_with fail;refine(ae y _).mono ?_;rintro e x3 ⟨rfl,hb⟩;have T3:=af ((ae T2).later hb);clear hb T2;have E:=(ae T3).2.cells (n:=8) rfl;have gA:=(ae T3).2.frees (n:=8) rfl;have ZZ:=af (ul (ae T3).1 (a0a _) (ae T3).2 (.string ⟨#[]⟩) (.int .i64 0) (.int .i64 0) (.int .i64 0) (.int .i64 0) (.int .i64 0) (.int .i64 0) (.string ⟨#[]⟩));go_wp2;have zA:=(ae ZZ).2.cells (n:=8) rfl;refine a0y (v:=.tuple #[.agg #[.string ⟨#[]⟩,.int .i64 0,.int .i64 0,.int .i64 0,.int .i64 0,.int .i64 0,.int .i64 0,.string ⟨#[]⟩],.int .i64 0,.bool false]) (by simp[results,a2m,go_sem,zA]) rfl ⟨⟨_,_,_,_,_,_,_,_,_,_,rfl,ae o⟩,(ae ZZ).1⟩
theorem Jk(t:ByteArray)(a:t.size<=300):mN (eq t) (bn t)=some t:=by
 unfold eq bn mN
 split
 . rw[a0e (by decide),a0d rfl,(AU t a).1];simp
 . simp
theorem KM{s:Int}(k:cR y mo d h mi s=true):gY (stN y mo d h mi s)=y/\gM (stN y mo d h mi s)=mo/\gD (stN y mo d h mi s)=d/\gH (stN y mo d h mi s)=h/\gI (stN y mo d h mi s)=mi/\gS (stN y mo d h mi s)=s:=by
 obtain⟨⟨a0,a1⟩,⟨a,b⟩,⟨c0,_,c1⟩,⟨c,e⟩,⟨e0,e1⟩,⟨f0,f1⟩,f2⟩:=I0 k;simp only[gY,gM,gD,gH,gI,gS,stN];omega
theorem yQ{N:Nat}(c:N<4294967296)(d:n.size<65536)(f:t.size<4294967296)(r:ByteArray) :
  hdB (bV n t N++r)=true/\wd (bV n t N++r).data.toList 8 2=eq t/\wd (bV n t N++r).data.toList 10 4=N/\wd (bV n t N++r).data.toList 14 4=aI 0 t.data.toList/\wd (bV n t N++r).data.toList 18 4=(bn t).size/\wd (bV n t N++r).data.toList 22 4=t.size/\wd (bV n t N++r).data.toList 26 2=n.size/\nmB (bV n t N++r)=n/\bdB (bV n t N++r)=bn t:=by
 have hb:=m8 t;have o:=uH t;have p:=(lM c d f).1;have e:(bV n t N++r).data.toList=(cG (eq t) N (aI 0 t.data.toList) (bn t).size t.size n).data.toList++((bn t).data.toList++r.data.toList):=by
  rw[show(bV n t N++r).data.toList=(bV n t N).data.toList++r.data.toList by simp,sZ,a0M]
 obtain⟨g,h,i,j,b,k,a,l,m⟩:=sd (how:=eq t) (st:=N) (crc:=aI 0 t.data.toList) (pk:=(bn t).size) (lg:=t.size) (nm:=n) ((bn t).data.toList++r.data.toList) (by omega) c (gu _ _ (by omega)) (by omega) f d;rw[←e]at g h i j b k a l m;refine⟨rZ.2 ⟨?_,g,?_⟩,h,i,j,b,k,a,ko ?_,ko ?_⟩
 . rw[a0U];omega
 . rw[a,b,a0U];omega
 . rw[y8,a,l]
 . rw[F3,a,b,m,a3G (by simp),a0F (by simp)]
theorem BH{s:Int}(k:fY n y mo d h mi s t=true)(r:ByteArray) :
  iH (dh n y mo d h mi s t++r) = .tuple #[.agg #[.string n,.int .i64 y,.int .i64 mo,.int .i64 d,.int .i64 h,.int .i64 mi,.int .i64 s,.string t],.int .i64 ((dh n y mo d h mi s t).size:Nat),.bool true]:=by
 obtain⟨f1,f2,f3⟩:=iK k;obtain⟨g1,g2,g3,g4⟩:=oO f3;have e:dh n y mo d h mi s t=bV n t (stN y mo d h mi s).toNat:=by simp[dh,k]
 have e2:(((stN y mo d h mi s).toNat:Nat):Int)=stN y mo d h mi s:=by rw[←g4];simp[stI,f3]
 have f:=(lM (n:=n) (t:=t) g3 (by omega) (by omega)).1;obtain⟨g,i,a,j,l,m,o,b,p⟩:=yQ (n:=n) (t:=t) g3 (by omega) (by omega) r;obtain⟨s0,s1,s2,s3,s4,s5⟩:=KM f3;rw[e];have c:wy (bV n t (stN y mo d h mi s).toNat++r)=some t:=by
  unfold wy;rw[a0d g,i,p,Jk t f2];simp only;rw[a0d];unfold Gn vQ;rw[j,m,a,b,e2,s0,s1,s2,s3,s4,s5,k];simp
 unfold iH;rw[c];simp only;unfold BG;rw[b,a,e2,s0,s1,s2,s3,s4,s5,o,l,f]
def Wds(W:World)(B g c:Nat)(s:ByteArray):Prop:=Blk W B [.slice (some ⟨g,0,none⟩) 15 c]/\g<W.heap.size/\∀j,j<15->W.cell? ⟨g,j,none⟩=some (.int .i64 ((wd s.data.toList (2*j) 2:Nat):Int))
theorem Wds.later(h:Wds W B g c s)(hb:Below W.heap.size W W'):Wds W' B g c s:=
 ⟨h.1.later hb h.1.1,a0k h.2.1 hb.size,fun j a=>(hb.cell (p:=⟨g,j,none⟩) h.2.1).trans (h.2.2 j a)⟩
theorem Wds.drew(h:Wds W B g c s):Wds W.drew B g c s:=h
theorem Wds.set(h:Wds W B g c s)(a:B≠A)(h2:g≠A)(o:Nat)(v:Value):Wds (W.setCell ⟨A,o,none⟩ v) B g c s:=
 ⟨h.1.set_other v a,by simpa using h.2.1,fun j b=>(World.cell?_of_block (w:=W) (a0L W ⟨A,o,none⟩ v g h2)).trans (h.2.2 j b)⟩
theorem Md{x y:Nat}(a:x<65536)(b:y<65536):bits .or .i64 (x:Int) ((y:Int)*65536)=((x+65536*y:Nat):Int):=by
 rw[j7 16 (x:Int) ((y:Int)*65536) (by omega) (by omega) (by omega) (by omega) (by omega) (by omega)];omega
theorem kJ(k B g c:Nat)(s:ByteArray)(w:World)(h:Wds w B g c s)(j:k+1<15)(a:30<=s.size) :
  CD 29 #[.int .i64 (k:Int),.pointer (some ⟨B,0,none⟩)] w (.int .i64 ((wd s.data.toList (2*k) 4:Nat):Int)):=by
 have c1:=h.1.cell 0 _ rfl;have c2:=h.2.2 k (by omega);have c3:=h.2.2 (k+1) j;have m:(k:Int)+1<15:=by omega
 have l:0<=(k:Int)+1:=by omega
 have b:=kW s.data.toList (2*k);have d:=kW s.data.toList (2*(k+1));have e:Hid (∀a:2*k+2<=s.data.toList.length,wd s.data.toList (2*k) 4=wd s.data.toList (2*k) 2+65536*wd s.data.toList (2*(k+1)) 2):=fun a=>Mm a;generalize wd s.data.toList (2*k) 2=X at *
 generalize wd s.data.toList (2*(k+1)) 2=Y at *
 have f:=af (Md b d);have i:(Y:Int)<65536:=by omega
 clear h b d;go_enter func29,ntmps29;go_wp2_with fail
 go_quiet (fail)
 go_wp2;go_ret;exact⟨aE (by rw[ae f,ae e (by simp;omega)]),a0G (a0c _ _) _⟩
theorem tF(s:ByteArray)(w:World)(b:s.size<=281474976710656) :
  CD 34 #[.string s] w (.string s):=by
 go_enter func34,ntmps34;go_wp2_with fail;refine(Tryz.stringslite_Clone s _ b).mono ?_;rintro e x1 ⟨rfl,a⟩;go_wp2;go_ret;exact⟨rfl,a⟩
def uxT(how:Nat)(b:ByteArray):ByteArray:=if how=0∨how=8 then txT how b else⟨#[]⟩
theorem Jm(hb:b.size<=1048576):(uxT how b).size<=1048576:=by
 unfold uxT
 split
 . exact zX hb
 . exact a0g _
theorem LW(h:txO how b=true):uxT how b=txT how b:=by
 unfold uxT;rw[a0d];unfold txO mN at h;by_cases a:how=0
 . exact .inl a
 .
  rw[a0e a]at h;by_cases c:how=8
  . exact .inr c
  . rw[a0e c]at h;cases h
theorem EG(how:Nat)(st crc pk lg:Int)(nm b:ByteArray)(w:World)(hb:b.size<=1048576)(r:how<65536)(j:ec w) :
  CD 32 #[.agg #[.int .i64 (how:Int),.int .i64 st,.int .i64 crc,.int .i64 pk,.int .i64 lg,.string nm,.string b]] w (.tuple #[.string (uxT how b),.bool (txO how b)]):=by
 have h:prog.follows .mixedOrders=true:=by kernel_rfl
 have m:=af ((a0c w.heap.size w).alloc (a0a _) (.cells #[.int .i64 (how:Int),.int .i64 st,.int .i64 crc,.int .i64 pk,.int .i64 lg,.string nm,.string b] 40));have o:=af (aN w #[.int .i64 (how:Int),.int .i64 st,.int .i64 crc,.int .i64 pk,.int .i64 lg,.string nm,.string b] 40);have B:(how:Int)<65536:=by omega
 by_cases g:how=0
 .
  subst g;have e1:uxT 0 b=b:=by simp[uxT,txT]
  have e2:txO 0 b=true:=by simp[txO,mN]
  rw[e1,e2];have y:=af (fun W=>tF b W (by omega));clear j hb r e1 e2;go_enter func32,a3J;go_wp2_with fail;refine(ae y _).mono ?_;rintro e x1 ⟨rfl,a⟩;have c:=af (ap (ae m) a);clear a;go_wp2
  go_ret2
  exact⟨rfl,ae c⟩
 .
  by_cases p:how=8
  .
   subst p;have l:=af (fun W (j:ec W)=>pz b W (by omega) j);have v:=af (j.later (ae m));rcases f:cn b with _|⟨T,q⟩
   .
    have e1:uxT 8 b=⟨#[]⟩:=by simp[uxT,txT,f]
    have e2:txO 8 b=false:=by simp[txO,mN,f]
    rw[f]at l;rw[e1,e2];simp only[pt]at l;clear hb r f e1 e2 g j;go_enter func32,a3J;go_wp2_with fail;refine(ae l _ (ae v)).mono ?_;rintro e x1 ⟨rfl,a⟩;have c:=af (ap (ae m) a);have n:=((ae o).later a (ae o).1).cell 6 _ rfl;clear a;go_wp2_with fail;have u:=cell_regrown n;refine wp_region_quiet_below h (by kernel_rfl) ?_;repeat (quiet_step (fail))
    refine a3f ?_;intro zw k;obtain⟨⟨t,osq⟩,d⟩:=k;have i:=below_regrown x1 t osq;rw[←d]at i;have s:=af (ap (ae c) i);clear d i u n;go_wp2
    go_ret2
    exact⟨rfl,ae s⟩
   .
    obtain⟨C,hq⟩:=pr f;have e1:uxT 8 b=⟨T.toArray⟩:=by simp[uxT,txT,f]
    have e2:txO 8 b=decide (((q/8:Nat):Int)=(b.size:Int)):=by
     unfold txO mN;rw[a0e g,a0d rfl,f];by_cases x:q/8=b.size
     . rw[a0v (by omega)];simp[x]
     . rw[a0j (by omega)];simp[x]
    rw[f]at l;rw[e1,e2];simp only[pt]at l;clear hb r f e1 e2 g hq j;generalize (⟨T.toArray⟩:ByteArray)=X at *
    generalize q/8=q8 at *
    go_enter func32,a3J;go_wp2_with fail;refine(ae l _ (ae v)).mono ?_;rintro e x1 ⟨rfl,a⟩;have c:=af (ap (ae m) a);have n:=((ae o).later a (ae o).1).cell 6 _ rfl;clear a;go_wp2_with fail;have u:=cell_regrown n;refine wp_region_quiet_below h (by kernel_rfl) ?_;repeat (quiet_step (fail))
    refine a3f ?_;intro zw k;obtain⟨⟨t,osq⟩,d⟩:=k;have i:=below_regrown x1 t osq;rw[←d]at i;have s:=af (ap (ae c) i);clear d i u n;go_wp2
    go_ret2
    exact⟨rfl,ae s⟩
  .
   have A:((how:Int) == 8)=false:=by simp;omega
   have z:((how:Int) == 0)=false:=by simp[g]
   have e1:uxT how b=⟨#[]⟩:=by simp[uxT,g,p]
   have e2:txO how b=false:=by simp[txO,mN,g,p]
   rw[e1,e2];clear hb r e1 e2 g p j;go_enter func32,a3J;go_wp2
   go_ret2
   exact⟨rfl,ae m⟩
def HgS(w W:World):Prop:=Below w.heap.size w W/\Blk W w.heap.size [.int .i64 0,.int .i64 0,.int .i64 0,.int .i64 0,.int .i64 0,.string ⟨#[]⟩,.string ⟨#[]⟩]
theorem HgS.later(k:HgS w W)(hb:Below W.heap.size W W'):HgS w W':=⟨ap k.1 hb,k.2.later hb k.2.1⟩
theorem HgS.drew(k:HgS w W):HgS w W.drew:=⟨k.1.drew,k.2.drew⟩
theorem HgS.set(k:HgS w W)(a:w.heap.size<A)(o:Nat)(v:Value):HgS w (W.setCell ⟨A,o,none⟩ v):=⟨ah k.1 (a0s a) _,k.2.set_other v (by omega)⟩
theorem HgS.set6(k:HgS w W)(a:w.heap.size<A)(a0 a1 a2 a3 a4 a5:Value):HgS w ((((((W.setCell ⟨A,0,none⟩ a0).setCell ⟨A,1,none⟩ a1).setCell ⟨A,2,none⟩ a2).setCell ⟨A,3,none⟩ a3).setCell ⟨A,4,none⟩ a4).setCell ⟨A,5,none⟩ a5):=((((((k.set a 0 a0).set a 1 a1).set a 2 a2).set a 3 a3).set a 4 a4).set a 5 a5)
theorem HgS.set7(k:HgS w W)(a:w.heap.size<A)(a0 a1 a2 a3 a4 a5 a6:Value):HgS w (((((((W.setCell ⟨A,0,none⟩ a0).setCell ⟨A,1,none⟩ a1).setCell ⟨A,2,none⟩ a2).setCell ⟨A,3,none⟩ a3).setCell ⟨A,4,none⟩ a4).setCell ⟨A,5,none⟩ a5).setCell ⟨A,6,none⟩ a6):=(((((((k.set a 0 a0).set a 1 a1).set a 2 a2).set a 3 a3).set a 4 a4).set a 5 a5).set a 6 a6)
theorem Wds.set6(h:Wds W B g c s)(a:B≠A)(h2:g≠A)(a0 a1 a2 a3 a4 a5:Value):Wds ((((((W.setCell ⟨A,0,none⟩ a0).setCell ⟨A,1,none⟩ a1).setCell ⟨A,2,none⟩ a2).setCell ⟨A,3,none⟩ a3).setCell ⟨A,4,none⟩ a4).setCell ⟨A,5,none⟩ a5) B g c s:=((((((h.set a h2 0 a0).set a h2 1 a1).set a h2 2 a2).set a h2 3 a3).set a h2 4 a4).set a h2 5 a5)
def Flo(w W:World)(z:List Value)(o:Option Nat)(E:World->Prop)(N:Nat->Prop):Prop:=HgS w W/\E W/\(∀V V':World,Below V.heap.size V V'->E V->E V')/\∀A,o=some A->w.heap.size<A/\N A/\Blk W A z
theorem Flo.call{o:Option Nat}{E':World->Prop}{N':Nat->Prop}(h:Flo w W z o E N)(b:Below W.heap.size W W')(e:E' W')(m:∀V V':World,Below V.heap.size V V'->E' V->E' V')(n:∀A,N A->A<W.heap.size->N' A):Flo w W' z o E' N':=
 ⟨h.1.later b,e,m,fun A q=>have r:=h.2.2.2 A q; ⟨r.1,n A r.2.1 r.2.2.1,r.2.2.later b r.2.2.1⟩⟩
theorem Flo.later{o:Option Nat}(h:Flo w W z o E N)(b:Below W.heap.size W W'):Flo w W' z o E N:=h.call b (h.2.2.1 _ _ b h.2.1) h.2.2.1 (fun _ k _=>k)
theorem Flo.lay(h:Flo w W z none E N)(n:N W.heap.size)(u:TypeId):Flo w (W.alloc (.cells z.toArray u)) z (some W.heap.size) E N:=
 have b:Below W.heap.size W (W.alloc (.cells z.toArray u)):=(a0c _ _).alloc (a0a _) _
 ⟨h.1.later b,h.2.2.1 _ _ b h.2.1,h.2.2.1,fun A q=>by
  obtain rfl:=a1N q;exact⟨h.1.2.1,n,aN W z.toArray u⟩⟩
theorem KY(h:g<W.heap.size/\∀j,j<15->W.cell? ⟨g,j,none⟩=some (.int .i64 ((wd s.data.toList (2*j) 2:Nat):Int)))(a:g≠A)(o:Nat)(v:Value):g<(W.setCell ⟨A,o,none⟩ v).heap.size/\∀j,j<15->(W.setCell ⟨A,o,none⟩ v).cell? ⟨g,j,none⟩=some (.int .i64 ((wd s.data.toList (2*j) 2:Nat):Int)):=
 ⟨by simpa using h.1,fun j b=>(World.cell?_of_block (w:=W) (a0L W ⟨A,o,none⟩ v g a)).trans (h.2 j b)⟩
theorem vX(s:ByteArray)(a:Option Addr)(w:World)(h:bp w a (List.replicate 15 16))(f:30<=s.size) :
  Calls prog 27 #[.string (s.extract 0 30),.slice a 15 15] w fun e w'=>∃g c,e = .returned (.tuple #[.slice (some ⟨g,0,none⟩) 15 c,.bool true])/\(w.heap.size<=g/\g<w'.heap.size)/\(∀j,j<15->w'.cell? ⟨g,j,none⟩=some (.int .i64 ((wd s.data.toList (2*j) 2:Nat):Int)))/\Below w.heap.size w w':=by
 have e0:(s.extract 0 30).data.toList=s.data.toList.take 30:=by rw[ext_list,a16]
 have i:30<=s.data.toList.length:=by simpa using f
 have m:(s.extract 0 30).size<=2000000:=by rw[a2c];omega
 refine(qZ (s.extract 0 30) a 15 (List.replicate 15 16) w h m (by simp)).mono ?_;rintro e w' ⟨v,rfl,d,hb⟩;rw[e0]at d;rw[e0,vY i];have k:=GC i;obtain⟨b,c,rfl⟩:=d.formN k;obtain⟨g,rfl⟩:=d.somes (by rw[k];decide);refine⟨g,c,rfl,d.below,fun j l=>?_,hb⟩;have:=(d.at k l).1;rw[Ba i j l]at this;exact this
def HgO(s:ByteArray)(a b c d f:Nat)(n t:ByteArray):Prop:=a<65536/\b<4294967296/\c<4294967296/\d<4294967296/\f<4294967296/\n.size<=s.size/\t.size<=s.size
def HgP(s:ByteArray)(e:Ending):Prop:=
 (hdB s=true/\e = .returned (.tuple #[.agg #[.int .i64 (wd s.data.toList 8 2:Nat),.int .i64 (wd s.data.toList 10 4:Nat),.int .i64 (wd s.data.toList 14 4:Nat),.int .i64 (wd s.data.toList 18 4:Nat),.int .i64 (wd s.data.toList 22 4:Nat),.string (nmB s),.string (bdB s)],.bool true])) ∨
 (hdB s=false/\∃(a b c d f:Nat) (n t:ByteArray),HgO s a b c d f n t/\e = .returned (.tuple #[.agg #[.int .i64 (a:Nat),.int .i64 (b:Nat),.int .i64 (c:Nat),.int .i64 (d:Nat),.int .i64 (f:Nat),.string n,.string t],.bool false]))
theorem GG(h:hdB s=false)(a b c d f:Nat)(n t:ByteArray)(k:HgO s a b c d f n t):HgP s (.returned (.tuple #[.agg #[.int .i64 (a:Nat),.int .i64 (b:Nat),.int .i64 (c:Nat),.int .i64 (d:Nat),.int .i64 (f:Nat),.string n,.string t],.bool false])):=.inr ⟨h,a,b,c,d,f,n,t,k,rfl⟩
theorem yi: HgO s 0 0 0 0 0 ⟨#[]⟩ ⟨#[]⟩:=⟨by decide,by decide,by decide,by decide,by decide,a0g _,a0g _⟩
theorem pL(s:ByteArray)(w:World)(hs:s.size<=1048576) :
  Calls prog 13 #[.string s] w fun e w'=>HgP s e/\Below w.heap.size w w':=by
 have r:prog.follows .mixedOrders=true:=by kernel_rfl
 have b2:(s.size:Int)<=1048576:=by omega
 have T0:Hid (HgS w (w.alloc (.cells #[.int .i64 0,.int .i64 0,.int .i64 0,.int .i64 0,.int .i64 0,.string ⟨#[]⟩,.string ⟨#[]⟩] 40))):=⟨(a0c _ _).alloc (a0a _) _,aN w #[.int .i64 0,.int .i64 0,.int .i64 0,.int .i64 0,.int .i64 0,.string ⟨#[]⟩,.string ⟨#[]⟩] 40⟩;by_cases z:30<=s.size
 .
  have a4:s.extract 0 30=s.extract 0 30:=rfl;obtain⟨HD,hHD⟩:∃x,s.extract 0 30=x:=⟨_,rfl⟩;have O:Hid (∀M W,W.cell? ⟨M,0,none⟩=some (.int .i64 16)->Calls prog 28 #[.slice (some ⟨M,0,none⟩) 1 1,.int .i64 15] W fun e w'=>e = .returned (.slice (some ⟨W.heap.size,0,none⟩) 15 15)/\ak w' W.heap.size (.slice (some ⟨W.heap.size,0,none⟩) 15 15) (List.replicate 15 16)/\Below W.heap.size W w'):=fun M W h=>nz 16 15 1 M 0 W h (by omega) (by omega);have CB:Hid (∀a W,bp W a (List.replicate 15 16)->Calls prog 27 #[.string HD,.slice a 15 15] W fun e w'=>∃g c,e = .returned (.tuple #[.slice (some ⟨g,0,none⟩) 15 c,.bool true])/\(W.heap.size<=g/\g<w'.heap.size)/\(∀j,j<15->w'.cell? ⟨g,j,none⟩=some (.int .i64 ((wd s.data.toList (2*j) 2:Nat):Int)))/\Below W.heap.size W w'):=by rw[←hHD];exact fun a W h=>vX s a W h z
  obtain⟨HW,hHW⟩:∃x,wd s.data.toList 8 2=x:=⟨_,rfl⟩;obtain⟨ST,hST⟩:∃x,wd s.data.toList 10 4=x:=⟨_,rfl⟩;obtain⟨CR,hCR⟩:∃x,wd s.data.toList 14 4=x:=⟨_,rfl⟩;obtain⟨PK,hPK⟩:∃x,wd s.data.toList 18 4=x:=⟨_,rfl⟩;obtain⟨LN,hLN⟩:∃x,wd s.data.toList 22 4=x:=⟨_,rfl⟩;obtain⟨NL,hNL⟩:∃x,wd s.data.toList 26 2=x:=⟨_,rfl⟩;have k:=af (a0b hHW (a0b hST (a0b hCR (a0b hPK (a0b hLN hNL)))));have lHW:HW<65536:=by rw[←hHW];exact kW _ _
  have lST:ST<4294967296:=by rw[←hST];exact gU _ _
  have lCR:CR<4294967296:=by rw[←hCR];exact gU _ _
  have lPK:PK<4294967296:=by rw[←hPK];exact gU _ _
  have lLN:LN<4294967296:=by rw[←hLN];exact gU _ _
  have lNL:NL<65536:=by rw[←hNL];exact kW _ _
  have Z:30<=(s.size:Int):=by omega
  have a5:decide ((s.size:Int)<30)=false:=by simp;omega
  have t:=af (a0b lHW (a0b lST (a0b lCR (a0b lPK (a0b lLN lNL)))));have a6:(NL:Int)<65536:=by omega
  have a7:(PK:Int)<4294967296:=by omega
  have y:=af z;clear hHW hST hCR hPK hLN hNL lHW lST lCR lPK lLN lNL z a4;go_enter func13,ntmps13;go_wp2_with fail;go_cut[4,5] (fun v u wx=>(∃B g c,v = .pointer (some ⟨B,0,none⟩)/\w.heap.size<B/\w.heap.size<g/\HgS w wx/\Wds wx B g c s)/\u = .bool true)
  case first=>
   obtain⟨W0,hW0⟩:∃x,w.alloc (.cells #[.int .i64 0,.int .i64 0,.int .i64 0,.int .i64 0,.int .i64 0,.string ⟨#[]⟩,.string ⟨#[]⟩] 40)=x:=⟨_,rfl⟩;rw[hW0]at T0;rw[hW0];clear hW0;refine wp_region_held_drew (S:=fun _=>True) r trivial (fun _=>?_);refine wpAnyH_take (i:=0) (v:=.string s) rfl (by kernel_rfl) (by kernel_rfl) (by kernel_rfl) (fun _ _ _ h=>h) (a0o ⟨by rfl,fun W d=>by go_simp⟩) trivial ?_;refine wpAnyH_take (i:=1) (v:=.string HD) rfl (by kernel_rfl) (by kernel_rfl) (by kernel_rfl) (fun _ _ _ h=>h) (a0o ⟨by rfl,fun W d=>by go_simp⟩) trivial ?_;have T1:=af (ae T0).drew;clear T0;generalize W0.drew=W1 at *
   have X:Hid (Flo w W1 [.slice none 0 0] none (fun _=>True) (fun _=>True)):=⟨ae T1,trivial,fun _ _ _ h=>h,nofun⟩;clear T1;refine wpAnyH_ready (rs:=[2,8]) (by kernel_rfl) (by simp) ?_;refine AllReadyH.cons rfl (fun K f=>?c1) (AllReadyH.cons rfl (fun K f=>?a1) AllReadyH.nil)
   case' a1=>
    go_simp
    replace X:=af ((ae X).lay trivial 56)
    refine Shut.out f _ _ trivial (fun _=>?_);clear f K;generalize W1.heap.size=A at *
    generalize W1.alloc (.cells #[.slice none 0 0] 56)=W1 at *
    refine ai 2 (by kernel_rfl) rfl fun K f=>?_
   all_goals
    go_simp;have o:Below W1.heap.size W1 (W1.alloc (.cells #[.int .i64 16] 3)):=(a0c _ _).alloc (a0a _) _
    replace X:=af ((ae X).call (E':=fun V=>Blk V W1.heap.size [.int .i64 16]) (N':=fun _=>True) o (aN W1 #[.int .i64 16] 3) (fun _ _ b h=>Blk.later h b h.1) (fun _ _ _=>trivial))
    refine Shut.out f _ _ trivial (fun _=>?_);clear f K o;generalize W1.heap.size=M at *
    generalize W1.alloc (.cells #[.int .i64 16] 3)=W2 at *
   case' c1=>
    refine wpAnyH_ready (rs:=[3,8]) (by kernel_rfl) (by simp) ?_;refine AllReadyH.cons rfl (fun K f=>?c2) (AllReadyH.cons rfl (fun K f=>?a2) AllReadyH.nil)
    case' a2=>
     go_simp
     replace X:=af ((ae X).lay trivial 56)
     refine Shut.out f _ _ trivial (fun _=>?_);clear f K;generalize W2.heap.size=A at *
     generalize W2.alloc (.cells #[.slice none 0 0] 56)=W2 at *
     refine ai 3 (by kernel_rfl) rfl fun K f=>?_
   case' a1=>
    refine ai 3 (by kernel_rfl) rfl fun K f=>?_
   all_goals
    go_simp;go_at_call 28;refine(ae O M W2 (Blk.cell (ae X).2.1 0 _ rfl)).mono ?_;rintro e W3 ⟨rfl,ho,o⟩
    replace X:=af ((ae X).call (E':=fun V=>bp V (some ⟨W2.heap.size,0,none⟩) (List.replicate 15 16)) (N':=fun _=>True) o (ak.rowN (n:=15) (by simp) ho) (fun _ _ b h=>bp.later h b) (fun _ _ _=>trivial))
    refine Shut.out f _ _ trivial (fun _=>?_);clear f K ho o;generalize W2.heap.size=rb at *
   case' c2=>
    refine wpAnyH_ready (rs:=[4,8]) (by kernel_rfl) (by simp) ?_;refine AllReadyH.cons rfl (fun K f=>?c3) (AllReadyH.cons rfl (fun K f=>?a3) AllReadyH.nil)
    case' a3=>
     go_simp
     replace X:=af ((ae X).lay trivial 56)
     refine Shut.out f _ _ trivial (fun _=>?_);clear f K;generalize W3.heap.size=A at *
     generalize W3.alloc (.cells #[.slice none 0 0] 56)=W3 at *
     refine ai 4 (by kernel_rfl) rfl fun K f=>?_
   case' a1|a2=>
    refine ai 4 (by kernel_rfl) rfl fun K f=>?_
   all_goals
    go_simp;go_at_call 27;refine(ae CB (some ⟨rb,0,none⟩) W3 (ae X).2.1).mono ?_;rintro e W4 ⟨g,c,rfl,E,q,o⟩;have ab:w.heap.size<g:=a0k (ae X).1.2.1 E.1
    replace X:=af ((ae X).call (E':=fun V=>g<V.heap.size/\∀j,j<15->V.cell? ⟨g,j,none⟩=some (.int .i64 ((wd s.data.toList (2*j) 2:Nat):Int))) (N':=fun A=>g≠A) o ⟨E.2,q⟩ (fun _ _ b h=>⟨a0k h.1 b.size,fun j hj=>(b.cell (p:=⟨g,j,none⟩) h.1).trans (h.2 j hj)⟩) (fun A _ D=>a1w (a0k D E.1)))
    refine Shut.out f _ _ trivial (fun _=>?_);clear f K E q o;refine wpAnyH_take (i:=5) (v:=.tuple #[.slice (some ⟨g,0,none⟩) 15 c,.bool true]) rfl (by kernel_rfl) (by kernel_rfl) (by kernel_rfl) (fun _ _ _ h=>h) (a0o ⟨by rfl,fun W d=>by go_simp⟩) trivial ?_;refine wpAnyH_take (i:=6) (v:=.slice (some ⟨g,0,none⟩) 15 c) rfl (by kernel_rfl) (by kernel_rfl) (by kernel_rfl) (fun _ _ _ h=>h) (a0o ⟨by rfl,fun W d=>by go_simp⟩) trivial ?_;refine wpAnyH_take (i:=7) (v:=.bool true) rfl (by kernel_rfl) (by kernel_rfl) (by kernel_rfl) (fun _ _ _ h=>h) (a0o ⟨by rfl,fun W d=>by go_simp⟩) trivial ?_
   case' c3=>
    refine ai 8 (by kernel_rfl) rfl fun K f=>?_;go_simp
    replace X:=af ((ae X).lay (a1J (ae X).2.1.1) 56)
    refine Shut.out f _ _ trivial (fun _=>?_);clear f K;generalize W4.heap.size=A at *
    generalize W4.alloc (.cells #[.slice none 0 0] 56)=W4 at *
   all_goals
    refine ai 9 (by kernel_rfl) rfl fun K f=>?_;obtain⟨T5,G5,_,R⟩:=ae X;obtain⟨D,al,C⟩:=R _ rfl;have a0:=C.cell 0 _ rfl;have f0:=C.free 0 (by decide);have T5:=af T5;have G5:=af G5;have C:=af C;clear X R;go_simp;have TX':=af ((ae T5).set D 0 (.slice (some ⟨g,0,none⟩) 15 c));have H:=af ((ae C).set 0 (.slice (some ⟨g,0,none⟩) 15 c));have GX':=af (KY (ae G5) al 0 (.slice (some ⟨g,0,none⟩) 15 c));clear a0 f0;refine Shut.out f _ _ trivial (fun _=>?_);clear f K;refine ai 10 (by kernel_rfl) rfl fun K f=>?_;go_simp;refine Shut.out f _ _ trivial (fun _=>?_);clear f K;refine wpAnyH_done (by kernel_rfl) ?_ _;go_wp2_with fail
    go_meet
    case rel=>exact⟨⟨A,g,c,rfl,D,ab,ae TX',ae H,(ae GX').1,(ae GX').2⟩,rfl⟩
  case rest=>
   obtain⟨⟨B,g,c,rfl,b1,ab,T1',G1'⟩,rfl⟩:=hcut;have T1:=af T1';have G1:=af G1';clear T1' G1' T0;have C5:Hid (∀W,Wds W B g c s->CD 29 #[.int .i64 5,.pointer (some ⟨B,0,none⟩)] W (.int .i64 (ST:Nat))):=fun W h=>by rw[←(ae k).2.1];exact kJ 5 B g c s W h (by omega) (ae y)
   have C7:Hid (∀W,Wds W B g c s->CD 29 #[.int .i64 7,.pointer (some ⟨B,0,none⟩)] W (.int .i64 (CR:Nat))):=fun W h=>by rw[←(ae k).2.2.1];exact kJ 7 B g c s W h (by omega) (ae y)
   have C9:Hid (∀W,Wds W B g c s->CD 29 #[.int .i64 9,.pointer (some ⟨B,0,none⟩)] W (.int .i64 (PK:Nat))):=fun W h=>by rw[←(ae k).2.2.2.1];exact kJ 9 B g c s W h (by omega) (ae y)
   have N:Hid (∀W,Wds W B g c s->CD 29 #[.int .i64 11,.pointer (some ⟨B,0,none⟩)] W (.int .i64 (LN:Nat))):=fun W h=>by rw[←(ae k).2.2.2.2.1];exact kJ 11 B g c s W h (by omega) (ae y)
   have W4:Hid (∀W,Wds W B g c s->W.cell? ⟨g,4,none⟩=some (.int .i64 (HW:Nat))):=fun W h=>by rw[←(ae k).1];exact h.2.2 4 (by omega)
   have W13:Hid (∀W,Wds W B g c s->W.cell? ⟨g,13,none⟩=some (.int .i64 (NL:Nat))):=fun W h=>by rw[←(ae k).2.2.2.2.2];exact h.2.2 13 (by omega)
   go_wp2_with fail;go_cut[7] (fun v wx=>∃A,v = .pointer (some ⟨A,0,none⟩)/\w.heap.size<A/\B<A/\g<A/\HgS w wx/\Wds wx B g c s/\Blk wx A [.int .i64 (HW:Nat),.int .i64 (ST:Nat),.int .i64 (CR:Nat),.int .i64 (PK:Nat),.int .i64 (LN:Nat),.string ⟨#[]⟩])
   case first=>
    refine wp_region_held_drew (S:=fun W=>Wds W B g c s) r (ae G1).drew (fun m=>?_);refine ag 0 (.slice (some ⟨g,0,none⟩) 15 c) rfl (by kernel_rfl) (fun _ _ _ h=>h) rfl (fun W d=>by have s0:=Blk.cell d.1 0 _ rfl;go_simp) m ?_;refine ag 1 (.pointer (some ⟨g,4,none⟩)) rfl (by kernel_rfl) (fun _ _ _ h=>h) rfl (fun W d=>by go_simp) m ?_;refine ag 2 (.int .i64 (HW:Nat)) rfl (by kernel_rfl) (fun _ _ _ h=>h) rfl (fun W d=>by have s1:=ae W4 W d;go_simp) m ?_;refine ag 3 (.func (.func 29) #[] #[.pointer (some ⟨B,0,none⟩)]) rfl (by kernel_rfl) (fun _ _ _ h=>h) rfl (fun W d=>by go_simp) m ?_;refine ag 5 (.func (.func 29) #[] #[.pointer (some ⟨B,0,none⟩)]) rfl (by kernel_rfl) (fun _ _ _ h=>h) rfl (fun W d=>by go_simp) m ?_;refine ag 7 (.func (.func 29) #[] #[.pointer (some ⟨B,0,none⟩)]) rfl (by kernel_rfl) (fun _ _ _ h=>h) rfl (fun W d=>by go_simp) m ?_;refine ag 9 (.func (.func 29) #[] #[.pointer (some ⟨B,0,none⟩)]) rfl (by kernel_rfl) (fun _ _ _ h=>h) rfl (fun W d=>by go_simp) m ?_;have T2:=af (ae T1).drew;have G2:=af (ae G1).drew;clear T1 G1;generalize wc.drew=W2 at *
    have X:Hid (Flo w W2 [.int .i64 0,.int .i64 0,.int .i64 0,.int .i64 0,.int .i64 0,.string ⟨#[]⟩] none (fun V=>Wds V B g c s) (fun A=>B<A/\g<A)):=⟨ae T2,ae G2,fun _ _ b h=>Wds.later h b,nofun⟩;clear T2 G2;refine wpAnyH_ready (rs:=[4,12]) (by kernel_rfl) (by simp) ?_;refine AllReadyH.cons rfl (fun K f=>?d1) (AllReadyH.cons rfl (fun K f=>?e1) AllReadyH.nil)
    case' e1=>
     go_simp
     replace X:=af ((ae X).lay ⟨(ae X).2.1.1.1,(ae X).2.1.2.1⟩ 38)
     refine Shut.out f _ _ (ae X).2.1 (fun m=>?_);clear f K;generalize W2.heap.size=A at *
     generalize W2.alloc (.cells #[.int .i64 0,.int .i64 0,.int .i64 0,.int .i64 0,.int .i64 0,.string ⟨#[]⟩] 38)=W2 at *
     refine ai 4 (by kernel_rfl) rfl fun K f=>?_
    all_goals
     go_simp;go_at_call 29;refine(ae C5 W2 (ae X).2.1).mono ?_;rintro e W3 ⟨rfl,o⟩
     replace X:=af ((ae X).later o)
     refine Shut.out f _ _ (ae X).2.1 (fun m=>?_);clear f K o
    case' d1=>
     refine wpAnyH_ready (rs:=[6,12]) (by kernel_rfl) (by simp) ?_;refine AllReadyH.cons rfl (fun K f=>?d2) (AllReadyH.cons rfl (fun K f=>?e2) AllReadyH.nil)
     case' e2=>
      go_simp
      replace X:=af ((ae X).lay ⟨(ae X).2.1.1.1,(ae X).2.1.2.1⟩ 38)
      refine Shut.out f _ _ (ae X).2.1 (fun m=>?_);clear f K;generalize W3.heap.size=A at *
      generalize W3.alloc (.cells #[.int .i64 0,.int .i64 0,.int .i64 0,.int .i64 0,.int .i64 0,.string ⟨#[]⟩] 38)=W3 at *
      refine ai 6 (by kernel_rfl) rfl fun K f=>?_
    case' e1=>
     refine ai 6 (by kernel_rfl) rfl fun K f=>?_
    all_goals
     go_simp;go_at_call 29;refine(ae C7 W3 (ae X).2.1).mono ?_;rintro e W4 ⟨rfl,o⟩
     replace X:=af ((ae X).later o)
     refine Shut.out f _ _ (ae X).2.1 (fun m=>?_);clear f K o
    case' d2=>
     refine wpAnyH_ready (rs:=[8,12]) (by kernel_rfl) (by simp) ?_;refine AllReadyH.cons rfl (fun K f=>?d3) (AllReadyH.cons rfl (fun K f=>?e3) AllReadyH.nil)
     case' e3=>
      go_simp
      replace X:=af ((ae X).lay ⟨(ae X).2.1.1.1,(ae X).2.1.2.1⟩ 38)
      refine Shut.out f _ _ (ae X).2.1 (fun m=>?_);clear f K;generalize W4.heap.size=A at *
      generalize W4.alloc (.cells #[.int .i64 0,.int .i64 0,.int .i64 0,.int .i64 0,.int .i64 0,.string ⟨#[]⟩] 38)=W4 at *
      refine ai 8 (by kernel_rfl) rfl fun K f=>?_
    case' e1|e2=>
     refine ai 8 (by kernel_rfl) rfl fun K f=>?_
    all_goals
     go_simp;go_at_call 29;refine(ae C9 W4 (ae X).2.1).mono ?_;rintro e W5 ⟨rfl,o⟩
     replace X:=af ((ae X).later o)
     refine Shut.out f _ _ (ae X).2.1 (fun m=>?_);clear f K o
    case' d3=>
     refine wpAnyH_ready (rs:=[10,12]) (by kernel_rfl) (by simp) ?_;refine AllReadyH.cons rfl (fun K f=>?d4) (AllReadyH.cons rfl (fun K f=>?e4) AllReadyH.nil)
     case' e4=>
      go_simp
      replace X:=af ((ae X).lay ⟨(ae X).2.1.1.1,(ae X).2.1.2.1⟩ 38)
      refine Shut.out f _ _ (ae X).2.1 (fun m=>?_);clear f K;generalize W5.heap.size=A at *
      generalize W5.alloc (.cells #[.int .i64 0,.int .i64 0,.int .i64 0,.int .i64 0,.int .i64 0,.string ⟨#[]⟩] 38)=W5 at *
      refine ai 10 (by kernel_rfl) rfl fun K f=>?_
    case' e1|e2|e3=>
     refine ai 10 (by kernel_rfl) rfl fun K f=>?_
    all_goals
     go_simp;go_at_call 29;refine(ae N W5 (ae X).2.1).mono ?_;rintro e W6 ⟨rfl,o⟩
     replace X:=af ((ae X).later o)
     refine Shut.out f _ _ (ae X).2.1 (fun m=>?_);clear f K o;refine ag 11 (.agg #[.int .i64 (HW:Nat),.int .i64 (ST:Nat),.int .i64 (CR:Nat),.int .i64 (PK:Nat),.int .i64 (LN:Nat),.string ⟨#[]⟩]) rfl (by kernel_rfl) (fun _ _ _ h=>h) rfl (fun W d=>by go_simp) m ?_
    case' d4=>
     refine ai 12 (by kernel_rfl) rfl fun K f=>?_;go_simp
     replace X:=af ((ae X).lay ⟨(ae X).2.1.1.1,(ae X).2.1.2.1⟩ 38)
     refine Shut.out f _ _ (ae X).2.1 (fun m=>?_);clear f K;generalize W6.heap.size=A at *
     generalize W6.alloc (.cells #[.int .i64 0,.int .i64 0,.int .i64 0,.int .i64 0,.int .i64 0,.string ⟨#[]⟩] 38)=W6 at *
    all_goals
     refine ai 13 (by kernel_rfl) rfl fun K f=>?_;obtain⟨T7,G7,_,R⟩:=ae X;obtain⟨D,⟨I,J⟩,Y⟩:=R _ rfl;have aA:=Y.cells (n:=6) rfl;have fA:=Y.frees (n:=6) rfl;have T7:=af T7;have G7:=af G7;have Y:=af Y;clear X R;go_simp;have TX':=af ((ae T7).set6 D (.int .i64 (HW:Nat)) (.int .i64 (ST:Nat)) (.int .i64 (CR:Nat)) (.int .i64 (PK:Nat)) (.int .i64 (LN:Nat)) (.string ⟨#[]⟩));have H:=af ((ae Y).set6 (.int .i64 (HW:Nat)) (.int .i64 (ST:Nat)) (.int .i64 (CR:Nat)) (.int .i64 (PK:Nat)) (.int .i64 (LN:Nat)) (.string ⟨#[]⟩));have GX':=af ((ae G7).set6 (a1J I) (a1J J) (.int .i64 (HW:Nat)) (.int .i64 (ST:Nat)) (.int .i64 (CR:Nat)) (.int .i64 (PK:Nat)) (.int .i64 (LN:Nat)) (.string ⟨#[]⟩));clear aA fA;refine Shut.out f _ _ (ae GX') (fun m=>?_);clear f K;refine wpAnyH_done (by kernel_rfl) ?_ _;go_wp2_with fail
     go_meet
     case rel=>exact⟨A,rfl,D,I,J,ae TX',ae GX',ae H⟩
   case rest=>
    obtain⟨A,rfl,D,I,J,T2',G2',U⟩:=hcut;have T2:=af T2';have G2:=af G2';have T:=af U;clear T2' G2' U T1 G1 C5 C7 C9 N;have c0:=(ae G2).1.cell 0 _ rfl;have ad:=ae W13 _ (ae G2);have r3:=(ae T).cell 3 _ rfl;have r5:=(ae T).cell 5 _ rfl;have q5:=(ae T).free 5 (by simp);have bs:IntKind.i64.wrap (30+(NL:Int))=30+(NL:Int):=by rw[a1x];omega
    have b0:IntKind.i64.wrap (30+(NL:Int)+(PK:Int))=30+(NL:Int)+(PK:Int):=by rw[a1x];omega
    by_cases F:30+NL+PK<=s.size
    .
     have G:30+(NL:Int)+(PK:Int)<=(s.size:Int):=by omega
     have bl:decide ((s.size:Int)<30+(NL:Int)+(PK:Int))=false:=by simpa using G
     have a8:(30+(NL:Int)).toNat=30+NL:=by omega
     have a9:(30+(NL:Int)+(PK:Int)).toNat=30+NL+PK:=by omega
     have ba:30<=30+(NL:Int):=by omega
     have bb:30+(NL:Int)<=30+(NL:Int)+(PK:Int):=by omega
     have bc:0<=30+(NL:Int)+(PK:Int):=by omega
     have bd:30+(NL:Int)<=(s.size:Int):=by omega
     have bk:0<=30+(NL:Int):=by omega
     have b3:s.extract 30 (30+NL)=nmB s:=by unfold nmB;rw[(ae k).2.2.2.2.2]
     have b4:s.extract (30+NL) (30+NL+PK)=bdB s:=by unfold bdB;rw[(ae k).2.2.2.2.2,(ae k).2.2.2.1]
     have Q:Hid ((cG HW ST CR PK LN (nmB s)).data.toList.isPrefixOf s.data.toList=oc s.data.toList):=by
      have hh:=GD (l:=s.data.toList) (nm:=nmB s) (by rw[(ae k).2.2.2.2.2];simp;omega) (y8 s);rw[(ae k).1,(ae k).2.1,(ae k).2.2.1,(ae k).2.2.2.1,(ae k).2.2.2.2.1]at hh;exact hh
     have ac:(nmB s).size<65536:=by rw[ti (by rw[(ae k).2.2.2.2.2];omega)];exact kW _ _
     have P:Hid (∀b,oc s.data.toList=b->HgP s (.returned (.tuple #[.agg #[.int .i64 (HW:Nat),.int .i64 (ST:Nat),.int .i64 (CR:Nat),.int .i64 (PK:Nat),.int .i64 (LN:Nat),.string (nmB s),.string (bdB s)],.bool b]))):=fun b hb=>by
      have hd:hdB s=b:=by
       unfold hdB;rw[hb,(ae k).2.2.2.2.2,(ae k).2.2.2.1,a0v (ae y),a0v F];simp
      cases b
      . exact GG hd _ _ _ _ _ _ _ ⟨(ae t).1,(ae t).2.1,(ae t).2.2.1,(ae t).2.2.2.1,(ae t).2.2.2.2.1,by unfold nmB;rw[a2c];omega,by unfold bdB;rw[a2c];omega⟩
      . refine .inl ⟨hd,?_⟩;rw[(ae k).1,(ae k).2.1,(ae k).2.2.1,(ae k).2.2.2.1,(ae k).2.2.2.2.1]
     generalize ao:nmB s=NM at *
     generalize an:bdB s=BD at *
     obtain⟨l1,l2,l3,l4,l5,l6⟩:=ae t;have CH:=af (fun W=>yh HW ST CR PK LN NM BD W l1 l2 l3 l4 l5 ac);have CP:Hid (∀W,Calls prog 30 #[.string s,.string (cG HW ST CR PK LN NM)] W fun e w'=>e = .returned (.bool (oc s.data.toList))/\w'=W):=fun W=>by
      have h:=Tryz.strings_HasPrefix s (cG HW ST CR PK LN NM) W;have e:Lib.hasPrefix s.data.toList (cG HW ST CR PK LN NM).data.toList=oc s.data.toList:=ae Q;rw[e]at h;exact h
     generalize oc s.data.toList=fb at *
     generalize cG HW ST CR PK LN NM=HB at *
     clear ao an l1 l2 l3 l4 l5 l6 F Q ac;have T3:=af ((ae T2).set D 5 (.string NM));have R3:=af ((ae T).set 5 (.string NM));clear T2 T G2 W4 W13;go_wp2_with fail;clear c0 ad r3 r5 q5;generalize wc.setCell ⟨A,5,none⟩ (.string NM)=X3 at *
     refine wp_region_held_drew (S:=fun W=>Blk W A [.int .i64 (HW:Nat),.int .i64 (ST:Nat),.int .i64 (CR:Nat),.int .i64 (PK:Nat),.int .i64 (LN:Nat),.string NM]) r (ae R3).drew (fun m=>?_);refine ag 0 (.agg #[.int .i64 (HW:Nat),.int .i64 (ST:Nat),.int .i64 (CR:Nat),.int .i64 (PK:Nat),.int .i64 (LN:Nat),.string NM]) rfl (by kernel_rfl) (fun _ _ _ h=>h) rfl (fun W d=>by have s0:=Blk.cell d 0 _ rfl;have s1:=Blk.cell d 1 _ rfl;have s2:=Blk.cell d 2 _ rfl;have s3:=Blk.cell d 3 _ rfl;have s4:=Blk.cell d 4 _ rfl;have s5:=Blk.cell d 5 _ rfl;go_simp) m ?_;refine ag 1 (.string s) rfl (by kernel_rfl) (fun _ _ _ h=>h) rfl (fun W d=>by go_simp) m ?_;refine ag 2 (.int .i64 (30+(NL:Int))) rfl (by kernel_rfl) (fun _ _ _ h=>h) rfl (fun W d=>by go_simp) m ?_;refine ag 3 (.int .i64 (30+(NL:Int))) rfl (by kernel_rfl) (fun _ _ _ h=>h) rfl (fun W d=>by go_simp) m ?_;refine ag 4 (.pointer (some ⟨A,3,none⟩)) rfl (by kernel_rfl) (fun _ _ _ h=>h) rfl (fun W d=>by go_simp) m ?_;refine ag 5 (.int .i64 (PK:Nat)) rfl (by kernel_rfl) (fun _ _ _ h=>h) rfl (fun W d=>by have s3:=Blk.cell d 3 _ rfl;go_simp) m ?_;refine ag 6 (.int .i64 (30+(NL:Int)+(PK:Int))) rfl (by kernel_rfl) (fun _ _ _ h=>h) rfl (fun W d=>by go_simp) m ?_;refine ag 7 (.string BD) rfl (by kernel_rfl) (fun _ _ _ h=>h) rfl (fun W d=>by go_simp) m ?_;refine ag 8 (.agg #[.int .i64 (HW:Nat),.int .i64 (ST:Nat),.int .i64 (CR:Nat),.int .i64 (PK:Nat),.int .i64 (LN:Nat),.string NM,.string BD]) rfl (by kernel_rfl) (fun _ _ _ h=>h) rfl (fun W d=>by go_simp) m ?_;have T4:=af (ae T3).drew;have R4:=af (ae R3).drew;clear T3 R3;generalize X3.drew=W4 at *
     refine ai 9 (by kernel_rfl) rfl fun K f=>?_;go_simp;have o:Below W4.heap.size W4 (W4.alloc (.cells #[.int .i64 0,.int .i64 0,.int .i64 0,.int .i64 0,.int .i64 0,.string ⟨#[]⟩,.string ⟨#[]⟩] 40)):=(a0c _ _).alloc (a0a _) _;have T5:=af ((ae T4).later o);have C:=af ((ae R4).later o (ae R4).1);have L5:Hid (Blk (W4.alloc (.cells #[.int .i64 0,.int .i64 0,.int .i64 0,.int .i64 0,.int .i64 0,.string ⟨#[]⟩,.string ⟨#[]⟩] 40)) W4.heap.size [.int .i64 0,.int .i64 0,.int .i64 0,.int .i64 0,.int .i64 0,.string ⟨#[]⟩,.string ⟨#[]⟩]):=aN _ _ _;have hL:w.heap.size<W4.heap.size:=(ae T4).2.1;have aa:A<W4.heap.size:=(ae R4).1;refine Shut.out f _ _ (ae C) (fun m=>?_);clear f K;obtain⟨L,hLe⟩:∃x,W4.heap.size=x:=⟨_,rfl⟩;obtain⟨W5,hW5⟩:∃x,W4.alloc (.cells #[.int .i64 0,.int .i64 0,.int .i64 0,.int .i64 0,.int .i64 0,.string ⟨#[]⟩,.string ⟨#[]⟩] 40)=x:=⟨_,rfl⟩;rw[hW5]at T5 C m;rw[hLe,hW5]at L5;rw[hLe]at hL aa;rw[hLe,hW5];clear o hLe hW5 T4 R4;refine ai 10 (by kernel_rfl) rfl fun K f=>?_;have aA:=(ae L5).cells (n:=7) rfl;have fA:=(ae L5).frees (n:=7) rfl;go_simp;have T6:=af ((ae T5).set7 hL (.int .i64 (HW:Nat)) (.int .i64 (ST:Nat)) (.int .i64 (CR:Nat)) (.int .i64 (PK:Nat)) (.int .i64 (LN:Nat)) (.string NM) (.string BD));have L6:=af ((ae L5).set7 (.int .i64 (HW:Nat)) (.int .i64 (ST:Nat)) (.int .i64 (CR:Nat)) (.int .i64 (PK:Nat)) (.int .i64 (LN:Nat)) (.string NM) (.string BD));have R6:=af (Ih (ae C) (a1J aa) (.int .i64 (HW:Nat)) (.int .i64 (ST:Nat)) (.int .i64 (CR:Nat)) (.int .i64 (PK:Nat)) (.int .i64 (LN:Nat)) (.string NM) (.string BD));clear aA fA T5 C L5;refine Shut.out f _ _ (ae R6) (fun m=>?_);clear f K;refine wpAnyH_done (by kernel_rfl) ?_ _;clear m;obtain⟨X6,hX6⟩:∃x,(((((((W5.setCell ⟨L,0,none⟩ (.int .i64 (HW:Nat))).setCell ⟨L,1,none⟩ (.int .i64 (ST:Nat))).setCell ⟨L,2,none⟩ (.int .i64 (CR:Nat))).setCell ⟨L,3,none⟩ (.int .i64 (PK:Nat))).setCell ⟨L,4,none⟩ (.int .i64 (LN:Nat))).setCell ⟨L,5,none⟩ (.string NM)).setCell ⟨L,6,none⟩ (.string BD))=x:=⟨_,rfl⟩;rw[hX6]at T6 L6;rw[hX6];clear hX6 R6;go_wp2_with fail;refine wp_region_held_drew (S:=fun W=>Blk W L [.int .i64 (HW:Nat),.int .i64 (ST:Nat),.int .i64 (CR:Nat),.int .i64 (PK:Nat),.int .i64 (LN:Nat),.string NM,.string BD]) r (ae L6).drew (fun m=>?_);refine ag 0 (.agg #[.int .i64 (HW:Nat),.int .i64 (ST:Nat),.int .i64 (CR:Nat),.int .i64 (PK:Nat),.int .i64 (LN:Nat),.string NM,.string BD]) rfl (by kernel_rfl) (fun _ _ _ h=>h) rfl (fun W d=>by have s0:=Blk.cell d 0 _ rfl;have s1:=Blk.cell d 1 _ rfl;have s2:=Blk.cell d 2 _ rfl;have s3:=Blk.cell d 3 _ rfl;have s4:=Blk.cell d 4 _ rfl;have s5:=Blk.cell d 5 _ rfl;have s6:=Blk.cell d 6 _ rfl;go_simp) m ?_;refine ag 1 (.string s) rfl (by kernel_rfl) (fun _ _ _ h=>h) rfl (fun W d=>by go_simp) m ?_;refine ag 2 (.agg #[.int .i64 (HW:Nat),.int .i64 (ST:Nat),.int .i64 (CR:Nat),.int .i64 (PK:Nat),.int .i64 (LN:Nat),.string NM,.string BD]) rfl (by kernel_rfl) (fun _ _ _ h=>h) rfl (fun W d=>by have s0:=Blk.cell d 0 _ rfl;have s1:=Blk.cell d 1 _ rfl;have s2:=Blk.cell d 2 _ rfl;have s3:=Blk.cell d 3 _ rfl;have s4:=Blk.cell d 4 _ rfl;have s5:=Blk.cell d 5 _ rfl;have s6:=Blk.cell d 6 _ rfl;go_simp) m ?_;have T7:=af (ae T6).drew;have L7:=af (ae L6).drew;clear T6 L6;generalize X6.drew=W7 at *
     refine ai 3 (by kernel_rfl) rfl fun K f=>?_;go_simp;go_at_call 31;refine(ae CH W7).mono ?_;rintro e W8 ⟨rfl,o⟩;have T8:=af ((ae T7).later o);have L8:=af ((ae L7).later o (ae L7).1);refine Shut.out f _ _ (ae L8) (fun m=>?_);clear f K;clear o T7 L7;refine ai 4 (by kernel_rfl) rfl fun K f=>?_;go_simp;go_at_call 30;refine(ae CP W8).mono ?_;rintro e W9 ⟨rfl,rfl⟩;refine Shut.out f _ _ (ae L8) (fun m=>?_);clear f K;refine ai 5 (by kernel_rfl) rfl fun K f=>?_;have bA:=(ae T8).2.cells (n:=7) rfl;have gA:=(ae T8).2.frees (n:=7) rfl;go_simp;have TZ:=af (F4 (ae T8).1 (a0a _) (.int .i64 (HW:Nat)) (.int .i64 (ST:Nat)) (.int .i64 (CR:Nat)) (.int .i64 (PK:Nat)) (.int .i64 (LN:Nat)) (.string NM) (.string BD));have ZZ:=af ((ae T8).2.set7 (.int .i64 (HW:Nat)) (.int .i64 (ST:Nat)) (.int .i64 (CR:Nat)) (.int .i64 (PK:Nat)) (.int .i64 (LN:Nat)) (.string NM) (.string BD));have LZ:=af (Ih (ae L8) (a1w hL) (.int .i64 (HW:Nat)) (.int .i64 (ST:Nat)) (.int .i64 (CR:Nat)) (.int .i64 (PK:Nat)) (.int .i64 (LN:Nat)) (.string NM) (.string BD));clear bA gA;refine Shut.out f _ _ (ae LZ) (fun m=>?_);clear f K;refine ai 6 (by kernel_rfl) rfl fun K f=>?_;go_simp;refine Shut.out f _ _ (ae LZ) (fun m=>?_);clear f K;refine wpAnyH_done (by kernel_rfl) ?_ _;go_wp2;have zA:=(ae ZZ).cells (n:=7) rfl;refine a0y (v:=.tuple #[.agg #[.int .i64 (HW:Nat),.int .i64 (ST:Nat),.int .i64 (CR:Nat),.int .i64 (PK:Nat),.int .i64 (LN:Nat),.string NM,.string BD],.bool fb]) (by simp[results,results13,go_sem,zA]) rfl ⟨ae P _ rfl,ae TZ⟩
    .
     have G:(s.size:Int)<30+(NL:Int)+(PK:Int):=by omega
     have P:Hid (hdB s=false):=by
      show _=_;unfold hdB;rw[(ae k).2.2.2.2.2,(ae k).2.2.2.1,a0j F];simp
     clear F;have bA:=(ae T2).2.cells (n:=7) rfl;have gA:=(ae T2).2.frees (n:=7) rfl;have TZ:=af (F4 (ae T2).1 (a0a _) (.int .i64 0) (.int .i64 0) (.int .i64 0) (.int .i64 0) (.int .i64 0) (.string ⟨#[]⟩) (.string ⟨#[]⟩));have ZZ:=af ((ae T2).2.set7 (.int .i64 0) (.int .i64 0) (.int .i64 0) (.int .i64 0) (.int .i64 0) (.string ⟨#[]⟩) (.string ⟨#[]⟩));go_wp2;have zA:=(ae ZZ).cells (n:=7) rfl;refine a0y (v:=.tuple #[.agg #[.int .i64 0,.int .i64 0,.int .i64 0,.int .i64 0,.int .i64 0,.string ⟨#[]⟩,.string ⟨#[]⟩],.bool false]) (by simp[results,results13,go_sem,zA]) rfl ⟨GG (ae P) 0 0 0 0 0 ⟨#[]⟩ ⟨#[]⟩ yi,ae TZ⟩
 .
  have Z:(s.size:Int)<30:=by omega
  have P:Hid (hdB s=false):=by
   show _=_;unfold hdB;rw[a0j z];simp
  clear z;go_enter func13,ntmps13;go_wp2;refine a0y (v:=.tuple #[.agg #[.int .i64 0,.int .i64 0,.int .i64 0,.int .i64 0,.int .i64 0,.string ⟨#[]⟩,.string ⟨#[]⟩],.bool false]) (by simp[results,results13,go_sem]) rfl ⟨GG (ae P) 0 0 0 0 0 ⟨#[]⟩ ⟨#[]⟩ yi,(ae T0).1⟩
def EnS(w:World)(vs:List Value)(W:World):Prop:=Below w.heap.size w W/\Blk W w.heap.size vs/\Blk W (w.heap.size+1) [.string ⟨#[]⟩,.int .i64 0,.int .i64 0,.int .i64 0,.int .i64 0,.int .i64 0,.int .i64 0,.string ⟨#[]⟩]
theorem EnS.later(k:EnS w vs W)(hb:Below W.heap.size W W'):EnS w vs W':=⟨ap k.1 hb,k.2.1.later hb k.2.1.1,k.2.2.later hb k.2.2.1⟩
theorem EnS.drew(k:EnS w vs W):EnS w vs W.drew:=⟨k.1.drew,k.2.1.drew,k.2.2.drew⟩
theorem EnS.set(k:EnS w vs W)(a:w.heap.size+1<A)(o:Nat)(v:Value):EnS w vs (W.setCell ⟨A,o,none⟩ v):=⟨ah k.1 (by omega) _,k.2.1.set_other v (by omega),k.2.2.set_other v (by omega)⟩
theorem EnS.set8(k:EnS w vs W)(a:w.heap.size+1<A)(a0 a1 a2 a3 a4 a5 a6 a7:Value):EnS w vs ((((((((W.setCell ⟨A,0,none⟩ a0).setCell ⟨A,1,none⟩ a1).setCell ⟨A,2,none⟩ a2).setCell ⟨A,3,none⟩ a3).setCell ⟨A,4,none⟩ a4).setCell ⟨A,5,none⟩ a5).setCell ⟨A,6,none⟩ a6).setCell ⟨A,7,none⟩ a7):=((((((((k.set a 0 a0).set a 1 a1).set a 2 a2).set a 3 a3).set a 4 a4).set a 5 a5).set a 6 a6).set a 7 a7)
def enB(how st cr lg:Nat)(nm b:ByteArray):Bool:=txO how b&&(gOk (st:Nat)&&(fY nm (zz (gOk (st:Nat)) (gY (st:Nat))) (zz (gOk (st:Nat)) (gM (st:Nat))) (zz (gOk (st:Nat)) (gD (st:Nat))) (zz (gOk (st:Nat)) (gH (st:Nat))) (zz (gOk (st:Nat)) (gI (st:Nat))) (zz (gOk (st:Nat)) (gS (st:Nat))) (uxT how b)&&(decide ((uxT how b).size=lg)&&decide (aI 0 (uxT how b).data.toList=cr))))
def enE(st:Nat)(nm T:ByteArray):Value:=.agg #[.string nm,.int .i64 (zz (gOk (st:Nat)) (gY (st:Nat))),.int .i64 (zz (gOk (st:Nat)) (gM (st:Nat))),.int .i64 (zz (gOk (st:Nat)) (gD (st:Nat))),.int .i64 (zz (gOk (st:Nat)) (gH (st:Nat))),.int .i64 (zz (gOk (st:Nat)) (gI (st:Nat))),.int .i64 (zz (gOk (st:Nat)) (gS (st:Nat))),.string T]
theorem IX{P:Prop}(a b c:Bool)(x y u v:Nat)
  (g:(a&&(b&&(c&&(decide (x=y)&&decide (u=v)))))=false->a=false->P)
  (h2:(a&&(b&&(c&&(decide (x=y)&&decide (u=v)))))=false->a=true->b=false->P)
  (h:(a&&(b&&(c&&(decide (x=y)&&decide (u=v)))))=false->a=true->b=true->c=false->P)
  (i:(a&&(b&&(c&&(decide (x=y)&&decide (u=v)))))=false->a=true->b=true->c=true->((x:Int) == (y:Int))=false->((x:Int) != (y:Int))=true->P)
  (j:(a&&(b&&(c&&(decide (x=y)&&decide (u=v)))))=false->a=true->b=true->c=true->((x:Int) == (y:Int))=true->((x:Int) != (y:Int))=false->((u:Int) == (v:Int))=false->((u:Int) != (v:Int))=true->P)
  (k:(a&&(b&&(c&&(decide (x=y)&&decide (u=v)))))=true->a=true->b=true->c=true->((x:Int) == (y:Int))=true->((x:Int) != (y:Int))=false->((u:Int) == (v:Int))=true->((u:Int) != (v:Int))=false->P):P:=by
 have e:∀m n:Nat,((m:Int)=(n:Int))<->m=n:=fun m n=>by omega
 cases a
 . exact g (by simp) rfl
 cases b
 . exact h2 (by simp) rfl rfl
 cases c
 . exact h (by simp) rfl rfl rfl
 by_cases d:x=y
 .
  by_cases f:u=v
  . exact k (by simp[d,f]) rfl rfl rfl (by simp[d]) (by simp[d]) (by simp[f]) (by simp[f])
  . exact j (by simp[f]) rfl rfl rfl (by simp[d]) (by simp[d]) (by simp[e,f]) (by simp[e,f])
 . exact i (by simp[d]) rfl rfl rfl (by simp[e,d]) (by simp[e,d])
theorem yN(how st j pk lg:Nat)(nm b:ByteArray)(m:Int)(w:World)(hb:b.size<=1048576)(hh:how<65536)(h1:st<4294967296)(h2:j<4294967296)(h3:lg<4294967296)(hn:nm.size<=1048576)(N:w.cell? ⟨1,0,none⟩=some (.int .i64 m))(Z:ec w) :
  Calls prog 14 #[.agg #[.int .i64 (how:Nat),.int .i64 (st:Nat),.int .i64 (j:Nat),.int .i64 (pk:Nat),.int .i64 (lg:Nat),.string nm,.string b]] w fun e w'=>e=Ending.returned (if enB how st j lg nm b=true then .tuple #[enE st nm (uxT how b),.bool true]else .tuple #[noE,.bool false])/\Below w.heap.size w w':=by
 have o:prog.follows .mixedOrders=true:=by kernel_rfl
 have P:=Jm (how:=how) (b:=b) hb;have HM:=af N;have O:=af (World.block_lt_of_cell? _ _ N);have CM:=af (fun W (hb:Below w.heap.size w W)=>(hb.cell (p:=⟨1,0,none⟩) (ae O)).trans (ae HM));have HO:=af (fun W (hb:Below w.heap.size w W)=>Z.later hb);have CU:=af (fun W (h:ec W)=>EG how (st:Int) (j:Int) (pk:Int) (lg:Int) nm b W hb hh h);have V:=af (fun W=>tF nm W (by omega));have y:=af (fun W=>qw (uxT how b) W (by unfold maxLen;omega));have CS:Hid (∀W,CD 33 #[.int .i64 (st:Nat)] W (.tuple #[.agg #[.int .i64 (zz (gOk (st:Nat)) (gY (st:Nat))),.int .i64 (zz (gOk (st:Nat)) (gM (st:Nat))),.int .i64 (zz (gOk (st:Nat)) (gD (st:Nat))),.int .i64 (zz (gOk (st:Nat)) (gH (st:Nat))),.int .i64 (zz (gOk (st:Nat)) (gI (st:Nat))),.int .i64 (zz (gOk (st:Nat)) (gS (st:Nat)))],.bool (gOk (st:Nat))])):=fun W=>pC _ W (WalkArith.wf_i64 (by omega));have X:=af (fun W (hb:Below w.heap.size w W)=>io nm (zz (gOk (st:Nat)) (gY (st:Nat))) (zz (gOk (st:Nat)) (gM (st:Nat))) (zz (gOk (st:Nat)) (gD (st:Nat))) (zz (gOk (st:Nat)) (gH (st:Nat))) (zz (gOk (st:Nat)) (gI (st:Nat))) (zz (gOk (st:Nat)) (gS (st:Nat))) (uxT how b) m W (by omega) (by omega) (ae CM _ hb));obtain⟨RES,hRES⟩:∃x,Ending.returned (if enB how st j lg nm b=true then .tuple #[enE st nm (uxT how b),.bool true]else .tuple #[noE,.bool false])=x:=⟨_,rfl⟩;rw[hRES];have k:=af hRES;clear hRES N Z;unfold enB enE at k;generalize txO how b=OK at *
 generalize uxT how b=UT at *
 generalize zz (gOk (st:Nat)) (gY (st:Nat))=yy at *
 generalize zz (gOk (st:Nat)) (gM (st:Nat))=mo at *
 generalize zz (gOk (st:Nat)) (gD (st:Nat))=dd at *
 generalize zz (gOk (st:Nat)) (gH (st:Nat))=hh' at *
 generalize zz (gOk (st:Nat)) (gI (st:Nat))=mi at *
 generalize zz (gOk (st:Nat)) (gS (st:Nat))=ss at *
 generalize gOk (st:Nat)=GO at *
 generalize fY nm yy mo dd hh' mi ss UT=EB at *
 generalize aI 0 UT.data.toList=cu at *
 have T0:Hid (EnS w [.int .i64 (how:Nat),.int .i64 (st:Nat),.int .i64 (j:Nat),.int .i64 (pk:Nat),.int .i64 (lg:Nat),.string nm,.string b] ((w.alloc (.cells #[.int .i64 (how:Nat),.int .i64 (st:Nat),.int .i64 (j:Nat),.int .i64 (pk:Nat),.int .i64 (lg:Nat),.string nm,.string b] 40)).alloc (.cells #[.string ⟨#[]⟩,.int .i64 0,.int .i64 0,.int .i64 0,.int .i64 0,.int .i64 0,.int .i64 0,.string ⟨#[]⟩] 27))):=by
  have e1:=aN w #[.int .i64 (how:Nat),.int .i64 (st:Nat),.int .i64 (j:Nat),.int .i64 (pk:Nat),.int .i64 (lg:Nat),.string nm,.string b] 40;have e2:=aN (w.alloc (.cells #[.int .i64 (how:Nat),.int .i64 (st:Nat),.int .i64 (j:Nat),.int .i64 (pk:Nat),.int .i64 (lg:Nat),.string nm,.string b] 40)) #[.string ⟨#[]⟩,.int .i64 0,.int .i64 0,.int .i64 0,.int .i64 0,.int .i64 0,.int .i64 0,.string ⟨#[]⟩] 27;have e3:(w.alloc (.cells #[.int .i64 (how:Nat),.int .i64 (st:Nat),.int .i64 (j:Nat),.int .i64 (pk:Nat),.int .i64 (lg:Nat),.string nm,.string b] 40)).heap.size=w.heap.size+1:=by simp
  rw[e3]at e2;exact⟨((a0c _ _).alloc (a0a _) _).alloc (by rw[e3];exact a01 _) _,e1.later ((a0c _ _).alloc (a0a _) _) (by simp),e2⟩
 clear hb hh P h1 h2 h3 hn;go_enter func14,ntmps14;go_wp2_with fail;refine(ae CU _ (ae HO _ (ae T0).1)).mono ?_;rintro e x1 ⟨rfl,D⟩;have T1:=af ((ae T0).later D);clear D T0;have c1:=(ae T1).2.1.cell 1 _ rfl;go_wp2_with fail;refine(ae CS _).mono ?_;rintro e x2 ⟨rfl,E⟩;have T2:=af ((ae T1).later E);clear E T1 c1;have T3:=af ((ae T2).later ((a0c x2.heap.size x2).alloc (a0a _) (.cells #[.int .i64 yy,.int .i64 mo,.int .i64 dd,.int .i64 hh',.int .i64 mi,.int .i64 ss] 25)));have S3:=af (aN x2 #[.int .i64 yy,.int .i64 mo,.int .i64 dd,.int .i64 hh',.int .i64 mi,.int .i64 ss] 25);clear T2;go_wp2_with fail;obtain⟨SB,hSB⟩:∃x,x2.heap.size=x:=⟨_,rfl⟩;obtain⟨X3,hX3⟩:∃x,x2.alloc (.cells #[.int .i64 yy,.int .i64 mo,.int .i64 dd,.int .i64 hh',.int .i64 mi,.int .i64 ss] 25)=x:=⟨_,rfl⟩;rw[hX3]at T3;rw[hSB,hX3]at S3;rw[hSB,hX3];clear hSB hX3;go_cut[8] (fun v wx=>∃A,v = .pointer (some ⟨A,0,none⟩)/\w.heap.size+1<A/\EnS w [.int .i64 (how:Nat),.int .i64 (st:Nat),.int .i64 (j:Nat),.int .i64 (pk:Nat),.int .i64 (lg:Nat),.string nm,.string b] wx/\Blk wx A [.string nm,.int .i64 yy,.int .i64 mo,.int .i64 dd,.int .i64 hh',.int .i64 mi,.int .i64 ss,.string UT])
 case first=>
  refine wp_region_held_drew (S:=fun W=>EnS w [.int .i64 (how:Nat),.int .i64 (st:Nat),.int .i64 (j:Nat),.int .i64 (pk:Nat),.int .i64 (lg:Nat),.string nm,.string b] W/\Blk W SB [.int .i64 yy,.int .i64 mo,.int .i64 dd,.int .i64 hh',.int .i64 mi,.int .i64 ss]) o ⟨(ae T3).drew,(ae S3).drew⟩ (fun i=>?_);refine ag 0 (.pointer (some ⟨w.heap.size,0,none⟩)) rfl (by kernel_rfl) (fun _ _ _ h=>h) rfl (fun W a=>by go_simp) i ?_;refine ag 1 (.pointer (some ⟨w.heap.size,5,none⟩)) rfl (by kernel_rfl) (fun _ _ _ h=>h) rfl (fun W a=>by go_simp) i ?_;refine ag 2 (.string nm) rfl (by kernel_rfl) (fun _ _ _ h=>h) rfl (fun W a=>by have s5:=a.1.2.1.cell 5 _ rfl;go_simp) i ?_;refine ag 4 (.agg #[.int .i64 yy,.int .i64 mo,.int .i64 dd,.int .i64 hh',.int .i64 mi,.int .i64 ss]) rfl (by kernel_rfl) (fun _ _ _ h=>h) rfl (fun W a=>by have s0:=a.2.cell 0 _ rfl;have s1:=a.2.cell 1 _ rfl;have s2:=a.2.cell 2 _ rfl;have s3:=a.2.cell 3 _ rfl;have s4:=a.2.cell 4 _ rfl;have s5:=a.2.cell 5 _ rfl;go_simp) i ?_;refine ag 5 (.string UT) rfl (by kernel_rfl) (fun _ _ _ h=>h) rfl (fun W a=>by go_simp) i ?_;have T4:=af (ae T3).drew;have S4:=af (ae S3).drew;clear T3 S3;generalize X3.drew=W4 at *
  refine wpAnyH_ready (rs:=[3,7]) (by kernel_rfl) (by simp) ?_;refine AllReadyH.cons rfl (fun K f=>?_) (AllReadyH.cons rfl (fun K f=>?_) (AllReadyH.nil))
  .
   go_simp;go_at_call 34;refine(ae V W4).mono ?_;rintro e W5 ⟨rfl,g⟩;have T5:=af ((ae T4).later g);have S5:=af ((ae S4).later g (ae S4).1);refine Shut.out f _ _ ⟨ae T5,ae S5⟩ (fun i=>?_);clear f K;clear g T4 S4;refine ag 6 (.agg #[.string nm,.int .i64 yy,.int .i64 mo,.int .i64 dd,.int .i64 hh',.int .i64 mi,.int .i64 ss,.string UT]) rfl (by kernel_rfl) (fun _ _ _ h=>h) rfl (fun W a=>by go_simp) i ?_;refine ai 7 (by kernel_rfl) rfl fun K f=>?_;go_simp;have g:Below W5.heap.size W5 (W5.alloc (.cells #[.string ⟨#[]⟩,.int .i64 0,.int .i64 0,.int .i64 0,.int .i64 0,.int .i64 0,.int .i64 0,.string ⟨#[]⟩] 27)):=(a0c _ _).alloc (a0a _) _;have T6:=af ((ae T5).later g);have S6:=af ((ae S5).later g (ae S5).1);have s:Hid (Blk (W5.alloc (.cells #[.string ⟨#[]⟩,.int .i64 0,.int .i64 0,.int .i64 0,.int .i64 0,.int .i64 0,.int .i64 0,.string ⟨#[]⟩] 27)) W5.heap.size [.string ⟨#[]⟩,.int .i64 0,.int .i64 0,.int .i64 0,.int .i64 0,.int .i64 0,.int .i64 0,.string ⟨#[]⟩]):=aN _ _ _;have t:w.heap.size+1<W5.heap.size:=(ae T5).2.2.1;have l:SB≠W5.heap.size:=a1J (ae S5).1;refine Shut.out f _ _ ⟨ae T6,ae S6⟩ (fun i=>?_);clear f K;obtain⟨A,hAe⟩:∃x,W5.heap.size=x:=⟨_,rfl⟩;obtain⟨W6,hW6⟩:∃x,W5.alloc (.cells #[.string ⟨#[]⟩,.int .i64 0,.int .i64 0,.int .i64 0,.int .i64 0,.int .i64 0,.int .i64 0,.string ⟨#[]⟩] 27)=x:=⟨_,rfl⟩;rw[hW6]at T6 S6 i;rw[hAe,hW6]at s;rw[hAe]at t l;rw[hAe,hW6];clear g hAe hW6 T5 S5;refine ai 8 (by kernel_rfl) rfl fun K f=>?_;have aA:=(ae s).cells (n:=8) rfl;have fA:=(ae s).frees (n:=8) rfl;go_simp;have TX:=af ((ae T6).set8 t (.string nm) (.int .i64 yy) (.int .i64 mo) (.int .i64 dd) (.int .i64 hh') (.int .i64 mi) (.int .i64 ss) (.string UT));have L:=af ((ae s).set8 (.string nm) (.int .i64 yy) (.int .i64 mo) (.int .i64 dd) (.int .i64 hh') (.int .i64 mi) (.int .i64 ss) (.string UT));have SX:=af (kK (ae S6) l (.string nm) (.int .i64 yy) (.int .i64 mo) (.int .i64 dd) (.int .i64 hh') (.int .i64 mi) (.int .i64 ss) (.string UT));clear aA fA;refine Shut.out f _ _ ⟨ae TX,ae SX⟩ (fun i=>?_);clear f K;refine wpAnyH_done (by kernel_rfl) ?_ _;go_wp2_with fail
   go_meet
   case rel=>exact⟨A,rfl,t,ae TX,ae L⟩
  .
   go_simp;have g:Below W4.heap.size W4 (W4.alloc (.cells #[.string ⟨#[]⟩,.int .i64 0,.int .i64 0,.int .i64 0,.int .i64 0,.int .i64 0,.int .i64 0,.string ⟨#[]⟩] 27)):=(a0c _ _).alloc (a0a _) _;have T5:=af ((ae T4).later g);have S5:=af ((ae S4).later g (ae S4).1);have I:Hid (Blk (W4.alloc (.cells #[.string ⟨#[]⟩,.int .i64 0,.int .i64 0,.int .i64 0,.int .i64 0,.int .i64 0,.int .i64 0,.string ⟨#[]⟩] 27)) W4.heap.size [.string ⟨#[]⟩,.int .i64 0,.int .i64 0,.int .i64 0,.int .i64 0,.int .i64 0,.int .i64 0,.string ⟨#[]⟩]):=aN _ _ _;have t:w.heap.size+1<W4.heap.size:=(ae T4).2.2.1;have l:SB≠W4.heap.size:=a1J (ae S4).1;refine Shut.out f _ _ ⟨ae T5,ae S5⟩ (fun i=>?_);clear f K;obtain⟨A,hAe⟩:∃x,W4.heap.size=x:=⟨_,rfl⟩;obtain⟨W5,hW5⟩:∃x,W4.alloc (.cells #[.string ⟨#[]⟩,.int .i64 0,.int .i64 0,.int .i64 0,.int .i64 0,.int .i64 0,.int .i64 0,.string ⟨#[]⟩] 27)=x:=⟨_,rfl⟩;rw[hW5]at T5 S5 i;rw[hAe,hW5]at I;rw[hAe]at t l;rw[hAe,hW5];clear g hAe hW5 T4 S4;refine ai 3 (by kernel_rfl) rfl fun K f=>?_;go_simp;go_at_call 34;refine(ae V W5).mono ?_;rintro e W6 ⟨rfl,g⟩;have T6:=af ((ae T5).later g);have S6:=af ((ae S5).later g (ae S5).1);have s:=af ((ae I).later g (ae I).1);refine Shut.out f _ _ ⟨ae T6,ae S6⟩ (fun i=>?_);clear f K;clear g T5 S5 I;refine ag 6 (.agg #[.string nm,.int .i64 yy,.int .i64 mo,.int .i64 dd,.int .i64 hh',.int .i64 mi,.int .i64 ss,.string UT]) rfl (by kernel_rfl) (fun _ _ _ h=>h) rfl (fun W a=>by go_simp) i ?_;refine ai 8 (by kernel_rfl) rfl fun K f=>?_;have aA:=(ae s).cells (n:=8) rfl;have fA:=(ae s).frees (n:=8) rfl;go_simp;have TX:=af ((ae T6).set8 t (.string nm) (.int .i64 yy) (.int .i64 mo) (.int .i64 dd) (.int .i64 hh') (.int .i64 mi) (.int .i64 ss) (.string UT));have L:=af ((ae s).set8 (.string nm) (.int .i64 yy) (.int .i64 mo) (.int .i64 dd) (.int .i64 hh') (.int .i64 mi) (.int .i64 ss) (.string UT));have SX:=af (kK (ae S6) l (.string nm) (.int .i64 yy) (.int .i64 mo) (.int .i64 dd) (.int .i64 hh') (.int .i64 mi) (.int .i64 ss) (.string UT));clear aA fA;refine Shut.out f _ _ ⟨ae TX,ae SX⟩ (fun i=>?_);clear f K;refine wpAnyH_done (by kernel_rfl) ?_ _;go_wp2_with fail
   go_meet
   case rel=>exact⟨A,rfl,t,ae TX,ae L⟩
 case rest=>
  obtain⟨A,rfl,t,TB',z⟩:=hcut;have TB:=af TB';have c:=af z;clear TB' z T3 S3;go_wp2_with fail;refine IX OK GO EB UT.size lg cu j ?_ ?_ ?_ ?_ ?_ ?_;rotate_left 5
  .
   rintro F rfl rfl rfl G H R T;have J:Hid (Ending.returned (.tuple #[.agg #[.string nm,.int .i64 yy,.int .i64 mo,.int .i64 dd,.int .i64 hh',.int .i64 mi,.int .i64 ss,.string UT],.bool true])=RES):=by show _=_;rw[←ae k,a0d F]
   clear F;have U:=cell_regrown ((ae TB).2.1.cell 4 _ rfl);have Q:=cell_regrown ((ae TB).2.1.cell 2 _ rfl);have m0:=cell_regrown ((ae c).cell 0 _ rfl);have m1:=cell_regrown ((ae c).cell 1 _ rfl);have m2:=cell_regrown ((ae c).cell 2 _ rfl);have m3:=cell_regrown ((ae c).cell 3 _ rfl);have m4:=cell_regrown ((ae c).cell 4 _ rfl);have m5:=cell_regrown ((ae c).cell 5 _ rfl);have m6:=cell_regrown ((ae c).cell 6 _ rfl);have m7:=cell_regrown ((ae c).cell 7 _ rfl);have C:=fun d os=>Calls.regrown_of (w:=wc) (d:=d) (os:=os) (ae X _ (ap (ae TB).1 (below_regrown wc d os)));have B:=fun d os=>Calls.regrown_of (w:=wc) (d:=d) (os:=os) (ae y _);refine wp_region_quiet_below o (by kernel_rfl) ?_;repeat (quiet_step (first|exact C _ _|exact B _ _))
   refine a3f ?_;intro zw u;obtain⟨⟨M,osq⟩,q⟩:=u;have r:=below_regrown wc M osq;rw[←q]at r;have T9:=af ((ae TB).later r);have Y:=af ((ae c).later r (ae c).1);clear q r U Q C B TB c m0 m1 m2 m3 m4 m5 m6 m7;have rA:=(ae Y).cells (n:=8) rfl;have bA:=(ae T9).2.2.cells (n:=8) rfl;have gA:=(ae T9).2.2.frees (n:=8) rfl;have TZ:=af (rJ (ae T9).1 (a01 _) (.string nm) (.int .i64 yy) (.int .i64 mo) (.int .i64 dd) (.int .i64 hh') (.int .i64 mi) (.int .i64 ss) (.string UT));have ZZ:=af ((ae T9).2.2.set8 (.string nm) (.int .i64 yy) (.int .i64 mo) (.int .i64 dd) (.int .i64 hh') (.int .i64 mi) (.int .i64 ss) (.string UT));go_wp2;have zA:=(ae ZZ).cells (n:=8) rfl;refine a0y (v:=.tuple #[.agg #[.string nm,.int .i64 yy,.int .i64 mo,.int .i64 dd,.int .i64 hh',.int .i64 mi,.int .i64 ss,.string UT],.bool true]) (by simp[results,results14,go_sem,zA]) rfl ⟨ae J,ae TZ⟩
  all_goals intro F
  all_goals have J:Hid (Ending.returned (.tuple #[.agg #[.string ⟨#[]⟩,.int .i64 0,.int .i64 0,.int .i64 0,.int .i64 0,.int .i64 0,.int .i64 0,.string ⟨#[]⟩],.bool false])=RES):=by show _=_;rw[←ae k,a0e (by rw[F];decide)];rfl
  all_goals clear F
  rintro rfl;rotate_left;rintro rfl rfl;rotate_left;rintro rfl rfl rfl;rotate_left;rintro rfl rfl rfl G H;rotate_left;rintro rfl rfl rfl G H R T;rotate_left;all_goals(
   have U:=cell_regrown ((ae TB).2.1.cell 4 _ rfl);have Q:=cell_regrown ((ae TB).2.1.cell 2 _ rfl);have m0:=cell_regrown ((ae c).cell 0 _ rfl);have m1:=cell_regrown ((ae c).cell 1 _ rfl);have m2:=cell_regrown ((ae c).cell 2 _ rfl);have m3:=cell_regrown ((ae c).cell 3 _ rfl);have m4:=cell_regrown ((ae c).cell 4 _ rfl);have m5:=cell_regrown ((ae c).cell 5 _ rfl);have m6:=cell_regrown ((ae c).cell 6 _ rfl);have m7:=cell_regrown ((ae c).cell 7 _ rfl);have C:=fun d os=>Calls.regrown_of (w:=wc) (d:=d) (os:=os) (ae X _ (ap (ae TB).1 (below_regrown wc d os)));have B:=fun d os=>Calls.regrown_of (w:=wc) (d:=d) (os:=os) (ae y _);refine wp_region_quiet_below o (by kernel_rfl) ?_;repeat (quiet_step (first|exact C _ _|exact B _ _))
   refine a3f ?_;intro zw u;obtain⟨⟨M,osq⟩,q⟩:=u;have r:=below_regrown wc M osq;rw[←q]at r;have T9:=af ((ae TB).later r);have Y:=af ((ae c).later r (ae c).1);clear q r U Q C B TB c m0 m1 m2 m3 m4 m5 m6 m7;have bA:=(ae T9).2.2.cells (n:=8) rfl;have gA:=(ae T9).2.2.frees (n:=8) rfl;have TZ:=af (rJ (ae T9).1 (a01 _) (.string ⟨#[]⟩) (.int .i64 0) (.int .i64 0) (.int .i64 0) (.int .i64 0) (.int .i64 0) (.int .i64 0) (.string ⟨#[]⟩));have ZZ:=af ((ae T9).2.2.set8 (.string ⟨#[]⟩) (.int .i64 0) (.int .i64 0) (.int .i64 0) (.int .i64 0) (.int .i64 0) (.int .i64 0) (.string ⟨#[]⟩));go_wp2;have zA:=(ae ZZ).cells (n:=8) rfl;refine a0y (v:=.tuple #[.agg #[.string ⟨#[]⟩,.int .i64 0,.int .i64 0,.int .i64 0,.int .i64 0,.int .i64 0,.int .i64 0,.string ⟨#[]⟩],.bool false]) (by simp[results,results14,go_sem,zA]) rfl ⟨ae J,ae TZ⟩
  )
theorem L9(s:ByteArray):enB (wd s.data.toList 8 2) (wd s.data.toList 10 4) (wd s.data.toList 14 4) (wd s.data.toList 22 4) (nmB s) (bdB s)=((txO (wd s.data.toList 8 2) (bdB s)&&(decide (wd s.data.toList 14 4=aI 0 (txT (wd s.data.toList 8 2) (bdB s)).data.toList)&&decide (wd s.data.toList 22 4=(txT (wd s.data.toList 8 2) (bdB s)).size)))&&vQ s (txT (wd s.data.toList 8 2) (bdB s)))/\(enB (wd s.data.toList 8 2) (wd s.data.toList 10 4) (wd s.data.toList 14 4) (wd s.data.toList 22 4) (nmB s) (bdB s)=true->enE (wd s.data.toList 10 4) (nmB s) (uxT (wd s.data.toList 8 2) (bdB s))=BG s (txT (wd s.data.toList 8 2) (bdB s))):=by
 cases d:txO (wd s.data.toList 8 2) (bdB s)
 . simp[enB,d]
 .
  unfold enB enE BG vQ;rw[LW d,d];have e:=Gx (n:=(wd s.data.toList 10 4:Nat)) (by omega);cases f:gOk ((wd s.data.toList 10 4:Nat):Int)
  . rw[f]at e;refine⟨?_,by simp⟩;unfold fY;rw[←e];simp
  .
   simp only[zz,a0T];refine⟨?_,fun _=>trivial⟩;rw[a2t];simp only[a0l,a0u,a2U];constructor
   . rintro⟨a,b,c⟩;exact⟨⟨c.symm,b.symm⟩,a⟩
   . rintro⟨⟨a,b⟩,c⟩;exact⟨c,b.symm,a.symm⟩
theorem Gm{st i lg:Nat}{nm:ByteArray}(h:enB how st i lg nm b=true):b.size<=700:=by
 simp only[enB,a0l]at h;obtain⟨a,_,d,_⟩:=h;unfold txO mN at a;by_cases c:how=0
 .
  subst c;have e:uxT 0 b=b:=by simp[uxT,txT]
  rw[e]at d;have:=(iK d).2.1;omega
 .
  rw[a0e c]at a;by_cases f:how=8
  .
   rw[a0d f]at a;unfold cn at a;by_cases g:b.size<=700
   . exact g
   . rw[a0e g]at a;cases a
  . rw[a0e f]at a;cases a
theorem LD(h:hdB s=true):iH s=if enB (wd s.data.toList 8 2) (wd s.data.toList 10 4) (wd s.data.toList 14 4) (wd s.data.toList 22 4) (nmB s) (bdB s)=true then .tuple #[enE (wd s.data.toList 10 4) (nmB s) (uxT (wd s.data.toList 8 2) (bdB s)),.int .i64 ((30+wd s.data.toList 26 2+wd s.data.toList 18 4:Nat):Int),.bool true]else .tuple #[noE,.int .i64 0,.bool false]:=by
 obtain⟨e1,e2⟩:=L9 s;rw[G3 h,←e1];by_cases hb:enB (wd s.data.toList 8 2) (wd s.data.toList 10 4) (wd s.data.toList 14 4) (wd s.data.toList 22 4) (nmB s) (bdB s)=true
 . rw[a0d hb,a0d hb,e2 hb]
 . rw[a0e hb,a0e hb]
theorem jX(s:ByteArray)(m:Int)(w:World)(V:s.size<=1048576)(R:w.cell? ⟨1,0,none⟩=some (.int .i64 m))(hO:ec w) :
  CD 5 #[.string s] w (iH s):=by
 have q:prog.follows .mixedOrders=true:=by kernel_rfl
 have HM:=af R;have T:=af (World.block_lt_of_cell? _ _ R);have CM:=af (fun W (hb:Below w.heap.size w W)=>(hb.cell (p:=⟨1,0,none⟩) (ae T)).trans (ae HM));have HO:=af (fun W (hb:Below w.heap.size w W)=>hO.later hb);have X:=af (fun W=>pL s W V);have G:=af V;have T0:Hid (RdS w (w.alloc (.cells #[.string ⟨#[]⟩,.int .i64 0,.int .i64 0,.int .i64 0,.int .i64 0,.int .i64 0,.int .i64 0,.string ⟨#[]⟩] 27))):=⟨(a0c _ _).alloc (a0a _) _,aN w #[.string ⟨#[]⟩,.int .i64 0,.int .i64 0,.int .i64 0,.int .i64 0,.int .i64 0,.int .i64 0,.string ⟨#[]⟩] 27⟩;clear R hO V;go_enter func5,ntmps5;go_wp2_with fail;refine(ae X _).mono ?_;rintro e x1 ⟨hp,hb⟩;have T1:=af ((ae T0).later hb);clear hb T0 X;rcases hp with⟨hd,rfl⟩|⟨hd,a,b,c,d,f,n,t,_,rfl⟩
 .
  obtain⟨P,Q,y⟩:=rZ.1 hd;have r:=ti (s:=s) (by omega);have o:=xd (s:=s) y;have l1:=kW s.data.toList 8;have l2:=gU s.data.toList 10;have l3:=gU s.data.toList 14;have l4:=gU s.data.toList 18;have l5:=gU s.data.toList 22;have l6:=kW s.data.toList 26;have H:=ae G;have j:=af (fun W (hb:Below w.heap.size w W)=>yN (wd s.data.toList 8 2) (wd s.data.toList 10 4) (wd s.data.toList 14 4) (wd s.data.toList 18 4) (wd s.data.toList 22 4) (nmB s) (bdB s) m W (by omega) l1 l2 l3 l5 (by omega) (ae CM _ hb) (ae HO _ hb));have D:=af (fun(hen:enB (wd s.data.toList 8 2) (wd s.data.toList 10 4) (wd s.data.toList 14 4) (wd s.data.toList 22 4) (nmB s) (bdB s)=true) W=>qu (wd s.data.toList 8 2) (wd s.data.toList 10 4) (wd s.data.toList 14 4) (wd s.data.toList 18 4) (wd s.data.toList 22 4) (nmB s) (bdB s) W l1 l2 l3 l4 l5 (by omega) (by have:=Gm hen;omega));have U:(cG (wd s.data.toList 8 2) (wd s.data.toList 10 4) (wd s.data.toList 14 4) (wd s.data.toList 18 4) (wd s.data.toList 22 4) (nmB s)++bdB s).size=30+wd s.data.toList 26 2+wd s.data.toList 18 4:=by
   unfold cG;rw[a0U,a0U,a0U,jb,r,o];show 4+26+_+_=_;omega
  have E:=af (LD hd);unfold enE at j E;generalize cG (wd s.data.toList 8 2) (wd s.data.toList 10 4) (wd s.data.toList 14 4) (wd s.data.toList 18 4) (wd s.data.toList 22 4) (nmB s)++bdB s=PB at *
  generalize enB (wd s.data.toList 8 2) (wd s.data.toList 10 4) (wd s.data.toList 14 4) (wd s.data.toList 22 4) (nmB s) (bdB s)=EB at *
  generalize uxT (wd s.data.toList 8 2) (bdB s)=UT at *
  generalize zz (gOk (wd s.data.toList 10 4:Nat)) (gY (wd s.data.toList 10 4:Nat))=yy at *
  generalize zz (gOk (wd s.data.toList 10 4:Nat)) (gM (wd s.data.toList 10 4:Nat))=mo at *
  generalize zz (gOk (wd s.data.toList 10 4:Nat)) (gD (wd s.data.toList 10 4:Nat))=dd at *
  generalize zz (gOk (wd s.data.toList 10 4:Nat)) (gH (wd s.data.toList 10 4:Nat))=hh at *
  generalize zz (gOk (wd s.data.toList 10 4:Nat)) (gI (wd s.data.toList 10 4:Nat))=mi at *
  generalize zz (gOk (wd s.data.toList 10 4:Nat)) (gS (wd s.data.toList 10 4:Nat))=ss at *
  generalize bdB s=BD at *
  generalize nmB s=NM at *
  generalize wd s.data.toList 8 2=HW at *
  generalize wd s.data.toList 10 4=ST at *
  generalize wd s.data.toList 14 4=CR at *
  generalize wd s.data.toList 18 4=PK at *
  generalize wd s.data.toList 22 4=LN at *
  generalize wd s.data.toList 26 2=NL at *
  have u:(PB.size:Int)=((30+NL+PK:Nat):Int):=by omega
  have aa:(PB.size:Int)<=1048576:=by omega
  have F:=af u;clear hd P Q y r o l1 l2 l3 l4 l5 l6 H U u;have T2:=af ((ae T1).later ((a0c x1.heap.size x1).alloc (a0a _) (.cells #[.int .i64 (HW:Nat),.int .i64 (ST:Nat),.int .i64 (CR:Nat),.int .i64 (PK:Nat),.int .i64 (LN:Nat),.string NM,.string BD] 40)));have L:=af (aN x1 #[.int .i64 (HW:Nat),.int .i64 (ST:Nat),.int .i64 (CR:Nat),.int .i64 (PK:Nat),.int .i64 (LN:Nat),.string NM,.string BD] 40);have hR:w.heap.size<x1.heap.size:=(ae T1).2.1;clear T1;go_wp2_with fail;refine(ae j _ (ae T2).1).mono ?_;rintro e x2 ⟨rfl,hb⟩;have T3:=af ((ae T2).later hb);have B:=af ((ae L).later hb (ae L).1);obtain⟨HB,hHB⟩:∃x,x1.heap.size=x:=⟨_,rfl⟩;rw[hHB]at B hR;rw[hHB];clear hb T2 L hHB j;cases EB
  .
   have l:Hid (Ending.returned (.tuple #[.agg #[.string ⟨#[]⟩,.int .i64 0,.int .i64 0,.int .i64 0,.int .i64 0,.int .i64 0,.int .i64 0,.string ⟨#[]⟩],.int .i64 0,.bool false])=Ending.returned (iH s)):=by show _=_;rw[ae E];rfl
   rw[show(if false=true then Value.tuple #[.agg #[.string NM,.int .i64 yy,.int .i64 mo,.int .i64 dd,.int .i64 hh,.int .i64 mi,.int .i64 ss,.string UT],.bool true]else .tuple #[noE,.bool false]) = .tuple #[.agg #[.string ⟨#[]⟩,.int .i64 0,.int .i64 0,.int .i64 0,.int .i64 0,.int .i64 0,.int .i64 0,.string ⟨#[]⟩],.bool false]from rfl];have T4:=af ((ae T3).later ((a0c x2.heap.size x2).alloc (a0a _) (.cells #[.string ⟨#[]⟩,.int .i64 0,.int .i64 0,.int .i64 0,.int .i64 0,.int .i64 0,.int .i64 0,.string ⟨#[]⟩] 27)));clear T3;have O:=(ae T4).2.cells (n:=8) rfl;have gA:=(ae T4).2.frees (n:=8) rfl;have TZ:=af (rJ (ae T4).1 (a0a _) (.string ⟨#[]⟩) (.int .i64 0) (.int .i64 0) (.int .i64 0) (.int .i64 0) (.int .i64 0) (.int .i64 0) (.string ⟨#[]⟩));have ZZ:=af ((ae T4).2.set8 (.string ⟨#[]⟩) (.int .i64 0) (.int .i64 0) (.int .i64 0) (.int .i64 0) (.int .i64 0) (.int .i64 0) (.string ⟨#[]⟩));go_wp2;have zA:=(ae ZZ).cells (n:=8) rfl;refine a0y (v:=.tuple #[.agg #[.string ⟨#[]⟩,.int .i64 0,.int .i64 0,.int .i64 0,.int .i64 0,.int .i64 0,.int .i64 0,.string ⟨#[]⟩],.int .i64 0,.bool false]) (by simp[results,results5,go_sem,zA]) rfl ⟨ae l,ae TZ⟩
  .
   have l:Hid (Ending.returned (.tuple #[.agg #[.string NM,.int .i64 yy,.int .i64 mo,.int .i64 dd,.int .i64 hh,.int .i64 mi,.int .i64 ss,.string UT],.int .i64 (PB.size:Nat),.bool true])=Ending.returned (iH s)):=by show _=_;rw[ae E,ae F];rfl
   rw[show(if true=true then Value.tuple #[.agg #[.string NM,.int .i64 yy,.int .i64 mo,.int .i64 dd,.int .i64 hh,.int .i64 mi,.int .i64 ss,.string UT],.bool true]else .tuple #[noE,.bool false]) = .tuple #[.agg #[.string NM,.int .i64 yy,.int .i64 mo,.int .i64 dd,.int .i64 hh,.int .i64 mi,.int .i64 ss,.string UT],.bool true]from rfl];have T4:=af ((ae T3).later ((a0c x2.heap.size x2).alloc (a0a _) (.cells #[.string NM,.int .i64 yy,.int .i64 mo,.int .i64 dd,.int .i64 hh,.int .i64 mi,.int .i64 ss,.string UT] 27)));have C:=af ((ae B).later ((a0c x2.heap.size x2).alloc (a0a _) (.cells #[.string NM,.int .i64 yy,.int .i64 mo,.int .i64 dd,.int .i64 hh,.int .i64 mi,.int .i64 ss,.string UT] 27)) (ae B).1);have A:=af (aN x2 #[.string NM,.int .i64 yy,.int .i64 mo,.int .i64 dd,.int .i64 hh,.int .i64 mi,.int .i64 ss,.string UT] 27);have hQ:w.heap.size<x2.heap.size:=(ae T3).2.1;clear T3 B;go_wp2_with fail;obtain⟨QB,hQB⟩:∃x,x2.heap.size=x:=⟨_,rfl⟩;obtain⟨X4,hX4⟩:∃x,x2.alloc (.cells #[.string NM,.int .i64 yy,.int .i64 mo,.int .i64 dd,.int .i64 hh,.int .i64 mi,.int .i64 ss,.string UT] 27)=x:=⟨_,rfl⟩;rw[hX4]at T4 C;rw[hQB,hX4]at A;rw[hQB]at hQ;rw[hQB,hX4];clear hQB hX4;refine wp_region_held_drew (S:=fun W=>Blk W QB [.string NM,.int .i64 yy,.int .i64 mo,.int .i64 dd,.int .i64 hh,.int .i64 mi,.int .i64 ss,.string UT]/\Blk W HB [.int .i64 (HW:Nat),.int .i64 (ST:Nat),.int .i64 (CR:Nat),.int .i64 (PK:Nat),.int .i64 (LN:Nat),.string NM,.string BD]) q ⟨(ae A).drew,(ae C).drew⟩ (fun k=>?_);refine ag 0 (.agg #[.string NM,.int .i64 yy,.int .i64 mo,.int .i64 dd,.int .i64 hh,.int .i64 mi,.int .i64 ss,.string UT]) rfl (by kernel_rfl) (fun _ _ _ h=>h) rfl (fun W g=>by have s0:=g.1.cell 0 _ rfl;have s1:=g.1.cell 1 _ rfl;have s2:=g.1.cell 2 _ rfl;have s3:=g.1.cell 3 _ rfl;have s4:=g.1.cell 4 _ rfl;have s5:=g.1.cell 5 _ rfl;have s6:=g.1.cell 6 _ rfl;have s7:=g.1.cell 7 _ rfl;go_simp) k ?_;refine ag 1 (.agg #[.int .i64 (HW:Nat),.int .i64 (ST:Nat),.int .i64 (CR:Nat),.int .i64 (PK:Nat),.int .i64 (LN:Nat),.string NM,.string BD]) rfl (by kernel_rfl) (fun _ _ _ h=>h) rfl (fun W g=>by have s0:=g.2.cell 0 _ rfl;have s1:=g.2.cell 1 _ rfl;have s2:=g.2.cell 2 _ rfl;have s3:=g.2.cell 3 _ rfl;have s4:=g.2.cell 4 _ rfl;have s5:=g.2.cell 5 _ rfl;have s6:=g.2.cell 6 _ rfl;go_simp) k ?_;have T5:=af (ae T4).drew;have M:=af (ae C).drew;have I:=af (ae A).drew;clear T4 C A;generalize X4.drew=W5 at *
   refine ai 2 (by kernel_rfl) rfl fun K i=>?_;go_simp;go_at_call 15;refine(ae D trivial W5).mono ?_;rintro e W6 ⟨rfl,z⟩;have T6:=af ((ae T5).later z);have Z:=af ((ae M).later z (ae M).1);have Y:=af ((ae I).later z (ae I).1);refine Shut.out i _ _ ⟨ae Y,ae Z⟩ (fun k=>?_);clear i K;clear z T5 M I;refine ag 3 (.int .i64 (PB.size:Nat)) rfl (by kernel_rfl) (fun _ _ _ h=>h) rfl (fun W g=>by go_simp) k ?_;refine ai 4 (by kernel_rfl) rfl fun K i=>?_;have O:=(ae T6).2.cells (n:=8) rfl;have gA:=(ae T6).2.frees (n:=8) rfl;go_simp;have TZ:=af (rJ (ae T6).1 (a0a _) (.string NM) (.int .i64 yy) (.int .i64 mo) (.int .i64 dd) (.int .i64 hh) (.int .i64 mi) (.int .i64 ss) (.string UT));have ZZ:=af ((ae T6).2.set8 (.string NM) (.int .i64 yy) (.int .i64 mo) (.int .i64 dd) (.int .i64 hh) (.int .i64 mi) (.int .i64 ss) (.string UT));have N:=af (kK (ae Z) (a1w hR) (.string NM) (.int .i64 yy) (.int .i64 mo) (.int .i64 dd) (.int .i64 hh) (.int .i64 mi) (.int .i64 ss) (.string UT));have J:=af (kK (ae Y) (a1w hQ) (.string NM) (.int .i64 yy) (.int .i64 mo) (.int .i64 dd) (.int .i64 hh) (.int .i64 mi) (.int .i64 ss) (.string UT));clear O gA;refine Shut.out i _ _ ⟨ae J,ae N⟩ (fun k=>?_);clear i K;refine ai 5 (by kernel_rfl) rfl fun K i=>?_;go_simp;refine Shut.out i _ _ ⟨ae J,ae N⟩ (fun k=>?_);clear i K;refine ai 6 (by kernel_rfl) rfl fun K i=>?_;go_simp;refine Shut.out i _ _ ⟨ae J,ae N⟩ (fun k=>?_);clear i K;refine wpAnyH_done (by kernel_rfl) ?_ _;go_wp2;have zA:=(ae ZZ).cells (n:=8) rfl;refine a0y (v:=.tuple #[.agg #[.string NM,.int .i64 yy,.int .i64 mo,.int .i64 dd,.int .i64 hh,.int .i64 mi,.int .i64 ss,.string UT],.int .i64 (PB.size:Nat),.bool true]) (by simp[results,results5,go_sem,zA]) rfl ⟨ae l,ae TZ⟩
 .
  have l:Hid (Ending.returned (.tuple #[.agg #[.string ⟨#[]⟩,.int .i64 0,.int .i64 0,.int .i64 0,.int .i64 0,.int .i64 0,.int .i64 0,.string ⟨#[]⟩],.int .i64 0,.bool false])=Ending.returned (iH s)):=by show _=_;rw[GB hd];rfl
  have T2:=af ((ae T1).later ((a0c x1.heap.size x1).alloc (a0a _) (.cells #[.int .i64 a,.int .i64 b,.int .i64 c,.int .i64 d,.int .i64 f,.string n,.string t] 40)));clear T1 hd;have O:=(ae T2).2.cells (n:=8) rfl;have gA:=(ae T2).2.frees (n:=8) rfl;have TZ:=af (rJ (ae T2).1 (a0a _) (.string ⟨#[]⟩) (.int .i64 0) (.int .i64 0) (.int .i64 0) (.int .i64 0) (.int .i64 0) (.int .i64 0) (.string ⟨#[]⟩));have ZZ:=af ((ae T2).2.set8 (.string ⟨#[]⟩) (.int .i64 0) (.int .i64 0) (.int .i64 0) (.int .i64 0) (.int .i64 0) (.int .i64 0) (.string ⟨#[]⟩));go_wp2;have zA:=(ae ZZ).cells (n:=8) rfl;refine a0y (v:=.tuple #[.agg #[.string ⟨#[]⟩,.int .i64 0,.int .i64 0,.int .i64 0,.int .i64 0,.int .i64 0,.int .i64 0,.string ⟨#[]⟩],.int .i64 0,.bool false]) (by simp[results,results5,go_sem,zA]) rfl ⟨ae l,ae TZ⟩
theorem EM{s:Int}(k:fY n y mo d h mi s t=false):dh n y mo d h mi s t=⟨#[]⟩:=by simp[dh,k]
theorem yP{s:Int}(k:fY n y mo d h mi s t=true):30<=(dh n y mo d h mi s t).size/\(dh n y mo d h mi s t).size<=400:=by
 obtain⟨f1,f2,f3⟩:=iK k;obtain⟨g1,g2,g3,g4⟩:=oO f3;have e:dh n y mo d h mi s t=bV n t (stN y mo d h mi s).toNat:=by simp[dh,k]
 have a:=(lM (n:=n) (t:=t) g3 (by omega) (by omega)).1;have hb:=m8 t;rw[e];omega
theorem Lh(S:ByteArray):S++(⟨#[]⟩:ByteArray)=S:=ko (by simp)
theorem ow(n:ByteArray)(y mo d h mi s:Int)(t:ByteArray):(dh n y mo d h mi s t).size<=400:=by
 cases k:fY n y mo d h mi s t
 . rw[EM k];decide
 . exact(yP k).2
theorem pn(a:Option Addr)(len cap:Nat)(z:Nat->Int)(w:World)(h:Src w a len z)(q:len<=cap)(r:len<=maxLen) :
  Calls prog 4 #[.slice a len cap] w fun e w'=>(∃s:ByteArray,e = .returned (.string s)/\s.size<=9100)/\Below w.heap.size w w':=by
 go_enter func4,ntmps4;go_wp2_with fail;refine(Bi a len cap z _ h q r).mono ?_;rintro e w1 ⟨rfl,m,j,u⟩;go_wp2_with fail;refine(wj _ _ 0 _ m (by omega)).mono ?_;rintro e w2 ⟨n,y,mo,d,h,mi,s,t,rfl,⟨x,A⟩,b,k⟩;have c:=k.1;clear k;go_wp2_with fail;refine(pY n y mo d h mi s t _ (by omega) (by omega)).mono ?_;rintro e w3 ⟨rfl,i⟩;have v:=ow n y mo d h mi s t;generalize dh n y mo d h mi s t=S at *
 have l:=b.kept (i.mono b.lt);have f:=(j.trans c).trans (i.mono (a0s b.lt));go_wp2_with fail;refine(yw _ _ _ S _ l (by omega) (by omega)).mono ?_;rintro e w4 ⟨⟨t',rfl,o⟩,p,g⟩;go_wp2;go_ret;exact⟨⟨t',rfl,o⟩,f.trans g⟩
theorem pX(s:ByteArray)(w:World)(i:s.size<=1048576) :
  CD 6 #[.string s] w (iH s):=by
 have g:=af (fun W=>Bq s W i);have T0:Hid (RdS w (w.alloc (.cells #[.string ⟨#[]⟩,.int .i64 0,.int .i64 0,.int .i64 0,.int .i64 0,.int .i64 0,.int .i64 0,.string ⟨#[]⟩] 27))):=⟨(a0c _ _).alloc (a0a _) _,aN w #[.string ⟨#[]⟩,.int .i64 0,.int .i64 0,.int .i64 0,.int .i64 0,.int .i64 0,.int .i64 0,.string ⟨#[]⟩] 27⟩;clear i;go_enter func6,ntmps6;go_wp2_with fail;refine(ae g _).mono ?_;rintro e x1 ⟨⟨n,y,mo,d,h,mi,c,t,k,ok,rfl,b⟩,hb⟩;have T1:=af ((ae T0).later hb);clear hb T0 g;have T2:=af ((ae T1).later ((a0c x1.heap.size x1).alloc (a0a _) (.cells #[.string n,.int .i64 y,.int .i64 mo,.int .i64 d,.int .i64 h,.int .i64 mi,.int .i64 c,.string t] 27)));have a:=af (aN x1 #[.string n,.int .i64 y,.int .i64 mo,.int .i64 d,.int .i64 h,.int .i64 mi,.int .i64 c,.string t] 27);have j:=(ae T2).2.cell 0 _ rfl;have g0:=(ae T2).2.free 0 (by decide);have l:=(ae T2).2.cell 1 _ rfl;have g1:=(ae T2).2.free 1 (by decide);have m:=(ae T2).2.cell 2 _ rfl;have g2:=(ae T2).2.free 2 (by decide);have p:=(ae T2).2.cell 3 _ rfl;have g3:=(ae T2).2.free 3 (by decide);have q:=(ae T2).2.cell 4 _ rfl;have g4:=(ae T2).2.free 4 (by decide);have r:=(ae T2).2.cell 5 _ rfl;have g5:=(ae T2).2.free 5 (by decide);have u:=(ae T2).2.cell 6 _ rfl;have g6:=(ae T2).2.free 6 (by decide);have x:=(ae T2).2.cell 7 _ rfl;have g7:=(ae T2).2.free 7 (by decide);cases ok
 . have f:=af (show iH s = .tuple #[noE,.int .i64 0,.bool false]from b);clear b;have TZ:=af (ah (o:=7) (ah (o:=6) (ah (o:=5) (ah (o:=4) (ah (o:=3) (ah (o:=2) (ah (o:=1) (ah (o:=0) (ae T2).1 (a0a _) (.string ⟨#[]⟩)) (a0a _) (.int .i64 0)) (a0a _) (.int .i64 0)) (a0a _) (.int .i64 0)) (a0a _) (.int .i64 0)) (a0a _) (.int .i64 0)) (a0a _) (.int .i64 0)) (a0a _) (.string ⟨#[]⟩));have ZZ:=af ((((((((((ae T2).2.set 0 (.string ⟨#[]⟩)).set 1 (.int .i64 0)).set 2 (.int .i64 0)).set 3 (.int .i64 0)).set 4 (.int .i64 0)).set 5 (.int .i64 0)).set 6 (.int .i64 0)).set 7 (.string ⟨#[]⟩)));go_wp2;have z0:=(ae ZZ).cell 0 _ rfl;have z1:=(ae ZZ).cell 1 _ rfl;have z2:=(ae ZZ).cell 2 _ rfl;have z3:=(ae ZZ).cell 3 _ rfl;have z4:=(ae ZZ).cell 4 _ rfl;have z5:=(ae ZZ).cell 5 _ rfl;have z6:=(ae ZZ).cell 6 _ rfl;have z7:=(ae ZZ).cell 7 _ rfl;exact a0y (v:=.tuple #[noE,.int .i64 0,.bool false]) (by simp[noE,results,results6,go_sem,z0,z1,z2,z3,z4,z5,z6,z7]) rfl ⟨by rw[ae f],ae TZ⟩
 . have f:=af (show iH s = .tuple #[.agg #[.string n,.int .i64 y,.int .i64 mo,.int .i64 d,.int .i64 h,.int .i64 mi,.int .i64 c,.string t],.int .i64 k,.bool true]from b);clear b;have TZ:=af (ah (o:=7) (ah (o:=6) (ah (o:=5) (ah (o:=4) (ah (o:=3) (ah (o:=2) (ah (o:=1) (ah (o:=0) (ae T2).1 (a0a _) (.string n)) (a0a _) (.int .i64 y)) (a0a _) (.int .i64 mo)) (a0a _) (.int .i64 d)) (a0a _) (.int .i64 h)) (a0a _) (.int .i64 mi)) (a0a _) (.int .i64 c)) (a0a _) (.string t));have ZZ:=af ((((((((((ae T2).2.set 0 (.string n)).set 1 (.int .i64 y)).set 2 (.int .i64 mo)).set 3 (.int .i64 d)).set 4 (.int .i64 h)).set 5 (.int .i64 mi)).set 6 (.int .i64 c)).set 7 (.string t)));have z:=(ae a).cell 0 _ rfl;have A:=(ae a).cell 1 _ rfl;have B:=(ae a).cell 2 _ rfl;have C:=(ae a).cell 3 _ rfl;have D:=(ae a).cell 4 _ rfl;have E:=(ae a).cell 5 _ rfl;have F:=(ae a).cell 6 _ rfl;have G:=(ae a).cell 7 _ rfl;go_wp2;have z0:=(ae ZZ).cell 0 _ rfl;have z1:=(ae ZZ).cell 1 _ rfl;have z2:=(ae ZZ).cell 2 _ rfl;have z3:=(ae ZZ).cell 3 _ rfl;have z4:=(ae ZZ).cell 4 _ rfl;have z5:=(ae ZZ).cell 5 _ rfl;have z6:=(ae ZZ).cell 6 _ rfl;have z7:=(ae ZZ).cell 7 _ rfl;exact a0y (v:=.tuple #[.agg #[.string n,.int .i64 y,.int .i64 mo,.int .i64 d,.int .i64 h,.int .i64 mi,.int .i64 c,.string t],.int .i64 k,.bool true]) (by simp[results,results6,go_sem,z0,z1,z2,z3,z4,z5,z6,z7]) rfl ⟨by rw[ae f],ae TZ⟩
theorem G4(h:wy s=none):iH s = .tuple #[.agg #[.string ⟨#[]⟩,.int .i64 0,.int .i64 0,.int .i64 0,.int .i64 0,.int .i64 0,.int .i64 0,.string ⟨#[]⟩],.int .i64 0,.bool false]:=by
 unfold iH;rw[h];rfl
theorem Kf(a:wy s=some t):∃n y mo d h mi c,∃k:Nat,iH s = .tuple #[.agg #[.string n,.int .i64 y,.int .i64 mo,.int .i64 d,.int .i64 h,.int .i64 mi,.int .i64 c,.string t],.int .i64 (k:Nat),.bool true]/\fY n y mo d h mi c t=true/\k<=s.size/\n.size<=43/\t.size<=300:=by
 have g:iH s = .tuple #[BG s t,.int .i64 ((30+wd s.data.toList 26 2+wd s.data.toList 18 4:Nat):Int),.bool true]:=by unfold iH;rw[a]
 unfold wy at a;by_cases hd:hdB s=true
 .
  rw[a0d hd]at a;rcases f:mN (wd s.data.toList 8 2) (bdB s)with _|T
  . rw[f]at a;cases a
  .
   rw[f]at a;simp only at a;by_cases b:Gn s T=true
   . rw[a0d b]at a;obtain rfl:T=t:=a1N a;simp only[Gn,a0l]at b;have e:vQ s T=true:=b.2.2;unfold vQ at e;obtain⟨f1,f2,_⟩:=iK e;exact⟨_,_,_,_,_,_,_,_,g,e,(rZ.1 hd).2.2,f1,f2⟩
   . rw[a0e b]at a;cases a
 . rw[a0e hd]at a;cases a
theorem qY(a:Option Addr)(len cap:Nat)(zs:List Int)(m:Int)(w:World)(w0:FR .u8 w a len cap zs)(V:w.cell? ⟨1,0,none⟩=some (.int .i64 m))(Z:ec w) :
  CD 3 #[.slice a len cap] w (.bool true):=by
 obtain⟨⟨z,i⟩,hc,C⟩:=LP w0;have A:=af (pn a len cap z w i hc C);unfold maxLen at C;have HM:=af V;have X:=af (World.block_lt_of_cell? _ _ V);have E:=af (fun W (hb:Below w.heap.size w W)=>(hb.cell (p:=⟨1,0,none⟩) (ae X)).trans (ae HM));have P:=af (fun W (hb:Below w.heap.size w W)=>Z.later hb);clear w0 i hc Z V;by_cases hl:(len:Int)<=1048576
 .
  go_enter func3,ntmps3;go_wp2_with fail;refine(ae A).mono ?_;rintro e x1 ⟨⟨s,rfl,hs⟩,B⟩;have r:=af B;clear B A;have D:=af (fun W (hb:Below w.heap.size w W)=>jX s m W (by omega) (ae E _ hb) (ae P _ hb));have F:=af (fun W=>pX s W (by omega));have ab:(s.size:Int)<=9100:=by omega
  rcases G:wy s with _|t
  . rw[G4 G]at D F;clear G hs;go_wp2_with fail;refine(ae D _ (ae r)).mono ?_;rintro e x2 ⟨rfl,hb⟩;have j:=af (ap (ae r) hb);clear hb r;have u:=af ((ae j).alloc (ae j).size (.cells #[.string ⟨#[]⟩,.int .i64 0,.int .i64 0,.int .i64 0,.int .i64 0,.int .i64 0,.int .i64 0,.string ⟨#[]⟩] 27));have o:=af (aN x2 #[.string ⟨#[]⟩,.int .i64 0,.int .i64 0,.int .i64 0,.int .i64 0,.int .i64 0,.int .i64 0,.string ⟨#[]⟩] 27);clear j;go_wp2_with fail;refine(ae F _).mono ?_;rintro e x4 ⟨rfl,hb⟩;have l:=af (ap (ae u) hb);have q:=af ((ae o).later hb (ae o).1);clear hb u o;have v:=af ((ae l).alloc (ae l).size (.cells #[.string ⟨#[]⟩,.int .i64 0,.int .i64 0,.int .i64 0,.int .i64 0,.int .i64 0,.int .i64 0,.string ⟨#[]⟩] 27));have b:=af ((ae q).later ((a0c x4.heap.size x4).alloc (a0a _) (.cells #[.string ⟨#[]⟩,.int .i64 0,.int .i64 0,.int .i64 0,.int .i64 0,.int .i64 0,.int .i64 0,.string ⟨#[]⟩] 27)) (ae q).1);have f:=af (aN x4 #[.string ⟨#[]⟩,.int .i64 0,.int .i64 0,.int .i64 0,.int .i64 0,.int .i64 0,.int .i64 0,.string ⟨#[]⟩] 27);clear l q;have H:=(ae b).cell 0 _ rfl;have I:=(ae b).cell 1 _ rfl;have p2:=(ae b).cell 2 _ rfl;have p3:=(ae b).cell 3 _ rfl;have p4:=(ae b).cell 4 _ rfl;have J:=(ae b).cell 5 _ rfl;have K:=(ae b).cell 6 _ rfl;have L:=(ae b).cell 7 _ rfl;have q0:=(ae f).cell 0 _ rfl;have q1:=(ae f).cell 1 _ rfl;have q2:=(ae f).cell 2 _ rfl;have q3:=(ae f).cell 3 _ rfl;have q4:=(ae f).cell 4 _ rfl;have q5:=(ae f).cell 5 _ rfl;have q6:=(ae f).cell 6 _ rfl;have q7:=(ae f).cell 7 _ rfl;go_wp2;go_ret;exact⟨rfl,ae v⟩
  .
   obtain⟨n,y,mo,d,h,mi,c,k,hv,T,hk,hn,ht⟩:=Kf G;rw[hv]at D F;have CP:=af (fun W (hb:Below w.heap.size w W)=>pB n y mo d h mi c t m W (by omega) (by omega) (ae E _ hb) (ae P _ hb));have Y:=af (fun W (hb:Below w.heap.size w W)=>io n y mo d h mi c t m W (by omega) (by omega) (ae E _ hb));rw[T]at Y;have hb:=BH T ⟨#[]⟩;rw[Lh]at hb;have hz:=ow n y mo d h mi c t;generalize dh n y mo d h mi c t=S at *
   have x:=af (fun W (hb:Below w.heap.size w W)=>jX S m W (by omega) (ae E _ hb) (ae P _ hb));rw[hb]at x;have U:(k:Int)<=(s.size:Int):=by omega
   have aa:decide ((k:Int)<=(s.size:Int))=true:=by simpa using U
   clear G hv T hk hn ht hb hz hs;go_wp2_with fail;refine(ae D _ (ae r)).mono ?_;rintro e x2 ⟨rfl,hb⟩;have j:=af (ap (ae r) hb);clear hb r;have u:=af ((ae j).alloc (ae j).size (.cells #[.string n,.int .i64 y,.int .i64 mo,.int .i64 d,.int .i64 h,.int .i64 mi,.int .i64 c,.string t] 27));have o:=af (aN x2 #[.string n,.int .i64 y,.int .i64 mo,.int .i64 d,.int .i64 h,.int .i64 mi,.int .i64 c,.string t] 27);clear j;go_wp2_with fail;refine(ae F _).mono ?_;rintro e x4 ⟨rfl,hb⟩;have l:=af (ap (ae u) hb);have q:=af ((ae o).later hb (ae o).1);clear hb u o;have v:=af ((ae l).alloc (ae l).size (.cells #[.string n,.int .i64 y,.int .i64 mo,.int .i64 d,.int .i64 h,.int .i64 mi,.int .i64 c,.string t] 27));have b:=af ((ae q).later ((a0c x4.heap.size x4).alloc (a0a _) (.cells #[.string n,.int .i64 y,.int .i64 mo,.int .i64 d,.int .i64 h,.int .i64 mi,.int .i64 c,.string t] 27)) (ae q).1);have f:=af (aN x4 #[.string n,.int .i64 y,.int .i64 mo,.int .i64 d,.int .i64 h,.int .i64 mi,.int .i64 c,.string t] 27);clear l q;have H:=(ae b).cell 0 _ rfl;have I:=(ae b).cell 1 _ rfl;have p2:=(ae b).cell 2 _ rfl;have p3:=(ae b).cell 3 _ rfl;have p4:=(ae b).cell 4 _ rfl;have J:=(ae b).cell 5 _ rfl;have K:=(ae b).cell 6 _ rfl;have L:=(ae b).cell 7 _ rfl;have q0:=(ae f).cell 0 _ rfl;have q1:=(ae f).cell 1 _ rfl;have q2:=(ae f).cell 2 _ rfl;have q3:=(ae f).cell 3 _ rfl;have q4:=(ae f).cell 4 _ rfl;have q5:=(ae f).cell 5 _ rfl;have q6:=(ae f).cell 6 _ rfl;have q7:=(ae f).cell 7 _ rfl;go_wp2_with fail;refine(ae CP _ (ae v)).mono ?_;rintro e x6 ⟨rfl,hb⟩;have M:=af (ap (ae v) hb);have Q:=af ((ae b).later hb (ae b).1);clear hb v b f H I p2 p3 p4 J K L q0 q1 q2 q3 q4 q5 q6 q7;go_wp2_with fail;refine(ae x _ (ae M)).mono ?_;rintro e x7 ⟨rfl,hb⟩;have N:=af (ap (ae M) hb);have R:=af ((ae Q).later hb (ae Q).1);clear hb M Q;have O:=af ((ae N).alloc (ae N).size (.cells #[.string n,.int .i64 y,.int .i64 mo,.int .i64 d,.int .i64 h,.int .i64 mi,.int .i64 c,.string t] 27));have g:=af ((ae R).later ((a0c x7.heap.size x7).alloc (a0a _) (.cells #[.string n,.int .i64 y,.int .i64 mo,.int .i64 d,.int .i64 h,.int .i64 mi,.int .i64 c,.string t] 27)) (ae R).1);have X8:=af (aN x7 #[.string n,.int .i64 y,.int .i64 mo,.int .i64 d,.int .i64 h,.int .i64 mi,.int .i64 c,.string t] 27);clear N R;have H:=(ae g).cell 0 _ rfl;have I:=(ae g).cell 1 _ rfl;have p2:=(ae g).cell 2 _ rfl;have p3:=(ae g).cell 3 _ rfl;have p4:=(ae g).cell 4 _ rfl;have J:=(ae g).cell 5 _ rfl;have K:=(ae g).cell 6 _ rfl;have L:=(ae g).cell 7 _ rfl;have u0:=(ae X8).cell 0 _ rfl;have u1:=(ae X8).cell 1 _ rfl;have u2:=(ae X8).cell 2 _ rfl;have u3:=(ae X8).cell 3 _ rfl;have u4:=(ae X8).cell 4 _ rfl;have u5:=(ae X8).cell 5 _ rfl;have u6:=(ae X8).cell 6 _ rfl;have u7:=(ae X8).cell 7 _ rfl;go_wp2_with fail;refine(ae Y _ (ae O)).mono ?_;rintro e x9 ⟨rfl,hb⟩;have B9:=af (ap (ae O) hb);clear hb O g X8 H I p2 p3 p4 J K L u0 u1 u2 u3 u4 u5 u6 u7;go_wp2;go_ret;exact⟨rfl,ae B9⟩
 . go_enter func3,ntmps3;go_wp2;go_ret;exact⟨rfl,a0c _ _⟩
end Go.Proofs.YtggknepmhjfohaaGreatDoor
