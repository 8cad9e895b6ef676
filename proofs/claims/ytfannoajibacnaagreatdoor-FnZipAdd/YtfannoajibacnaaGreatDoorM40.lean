/- Texts. -/
import Derived.Test.YtfannoajibacnaaGreatDoorM39
import Derived.Test.YtfannoajibacnaaGreatDoorM37
set_option linter.all false
set_option maxRecDepth 100000
set_option maxHeartbeats 12800000
namespace Go.Proofs.YtfannoajibacnaaGreatDoor
open Go.Proofs.Tryz
open Go.RowKit Corb
variable {A B c g how:Nat}{E:World->Prop}{N:Nat->Prop}{W W' w:World}{b s:ByteArray}{vs z:List Value}
def RdS(w W:World):Prop:=Below w.heap.size w W/\Blk W w.heap.size [.string ⟨#[]⟩,.int .i64 0,.int .i64 0,.int .i64 0,.int .i64 0,.int .i64 0,.int .i64 0,.string ⟨#[]⟩]
def RdS.later(k:RdS w W)(hb:Below W.heap.size W W'):RdS w W':=⟨aj k.1 hb,k.2.later hb k.2.1⟩
def RdS.drew(k:RdS w W):RdS w W.drew:=⟨k.1.drew,k.2.drew⟩
def RdS.set(k:RdS w W)(a:w.heap.size<A)(o:Nat)(v:Value):RdS w (W.setCell ⟨A,o,none⟩ v):=⟨ai k.1 (a0s a) _,k.2.set_other v (by omega)⟩
def Tn(h:hdB s=false):rC s = .tuple #[noE,.int .i64 0,.bool false]:=by simp[rC,iJ,h]
def vg(h:¬ (ew s 0 4=67324752/\ew s 4 2=20/\ew s 6 2=0/\ew s 28 2=0)):rC s = .tuple #[noE,.int .i64 0,.bool false]:=by
 refine Tn ?_;cases hb:hdB s
 . rfl
 . obtain⟨a,h2,b⟩:=lM.1 hb;simp only[nN,a0k,a0v]at h2;obtain⟨e1,e2,e3,e4⟩:=h2;refine absurd ?_ h;rw[iL (by omega),iL (by omega),iL (by omega),iL (by omega),e1,e2,e3,e4];exact⟨rfl,rfl,rfl,rfl⟩
def Oo(c:ew s 0 4=67324752)(d:ew s 4 2=20)(e:ew s 6 2=0)(b:ew s 28 2=0):30<=s.size/\nN s.data.toList=true:=by
 have a:28+2<=s.size:=by
  by_cases h:28+2<=s.size
  . exact h
  . rw[BE h]at b;omega
 rw[iL (by omega)]at c d e b;refine⟨a,?_⟩;simp only[nN,a0k,a0v];omega
def Uv(h:¬ 30+wd s.data.toList 26 2+wd s.data.toList 18 4<=s.size):rC s = .tuple #[noE,.int .i64 0,.bool false]:=Tn (by simp[hdB,h])
def OR(h:hdB s=true):rC s=if ((txO (wd s.data.toList 8 2) (bdB s)&&(decide (wd s.data.toList 14 4=aE 0 (txT (wd s.data.toList 8 2) (bdB s)).data.toList)&&decide (wd s.data.toList 22 4=(txT (wd s.data.toList 8 2) (bdB s)).size)))&&GB s (txT (wd s.data.toList 8 2) (bdB s)))=true then .tuple #[Lr s (txT (wd s.data.toList 8 2) (bdB s)),.int .i64 ((30+wd s.data.toList 26 2+wd s.data.toList 18 4:Nat):Int),.bool true]else .tuple #[noE,.int .i64 0,.bool false]:=by
 unfold rC iJ;rw[a0d h,Uw];cases a:txO (wd s.data.toList 8 2) (bdB s)
 . simp
 .
  simp only[a0Y,Ry];by_cases c1:wd s.data.toList 14 4=aE 0 (txT (wd s.data.toList 8 2) (bdB s)).data.toList
  .
   by_cases c2:wd s.data.toList 22 4=(txT (wd s.data.toList 8 2) (bdB s)).size
   . by_cases c3:GB s (txT (wd s.data.toList 8 2) (bdB s))=true<;>simp[c1,c2,c3]
   . simp[c2]
  . simp[c1]
def RdP(s:ByteArray)(e:Ending):Prop:=∃n y mo d h mi c t k ok,e = .returned (.tuple #[.agg #[.string n,.int .i64 y,.int .i64 mo,.int .i64 d,.int .i64 h,.int .i64 mi,.int .i64 c,.string t],.int .i64 k,.bool ok])/\rC s=if ok=true then .tuple #[.agg #[.string n,.int .i64 y,.int .i64 mo,.int .i64 d,.int .i64 h,.int .i64 mi,.int .i64 c,.string t],.int .i64 k,.bool true]else .tuple #[noE,.int .i64 0,.bool false]
def wK(s:ByteArray)(w:World)(hs:s.size<=1048576) :
  Calls prog 58 #[s] w fun e w'=>RdP s e/\Below w.heap.size w w':=by
 have o:=cE
 have l:Hid (∀W,Ds 53 #[s,.int .i64 26,.int .i64 2] W (.int .i64 (ew s 26 2))):=fun W=>d9 s 26 2 W (by decide) (by decide) (by omega);have k:Hid (∀W,Ds 53 #[s,.int .i64 18,.int .i64 4] W (.int .i64 (ew s 18 4))):=fun W=>d9 s 18 4 W (by decide) (by decide) (by omega);have u:Hid (∀W,Ds 53 #[s,.int .i64 0,.int .i64 4] W (.int .i64 (ew s 0 4))):=fun W=>d9 s 0 4 W (by decide) (by decide) (by omega);have C:Hid (∀W,Ds 53 #[s,.int .i64 4,.int .i64 2] W (.int .i64 (ew s 4 2))):=fun W=>d9 s 4 2 W (by decide) (by decide) (by omega);have M:Hid (∀W,Ds 53 #[s,.int .i64 6,.int .i64 2] W (.int .i64 (ew s 6 2))):=fun W=>d9 s 6 2 W (by decide) (by decide) (by omega);have z:Hid (∀W,Ds 53 #[s,.int .i64 28,.int .i64 2] W (.int .i64 (ew s 28 2))):=fun W=>d9 s 28 2 W (by decide) (by decide) (by omega);have F:Hid (∀W,Ds 53 #[s,.int .i64 10,.int .i64 4] W (.int .i64 (ew s 10 4))):=fun W=>d9 s 10 4 W (by decide) (by decide) (by omega);have C8:Hid (∀W,Ds 53 #[s,.int .i64 8,.int .i64 2] W (.int .i64 (ew s 8 2))):=fun W=>d9 s 8 2 W (by decide) (by decide) (by omega);have O:Hid (∀W,Ds 53 #[s,.int .i64 14,.int .i64 4] W (.int .i64 (ew s 14 4))):=fun W=>d9 s 14 4 W (by decide) (by decide) (by omega);have P:Hid (∀W,Ds 53 #[s,.int .i64 22,.int .i64 4] W (.int .i64 (ew s 22 4))):=fun W=>d9 s 22 4 W (by decide) (by decide) (by omega);have T0:Hid (RdS w (w.alloc (.cells () 26))):=⟨cC,ay w () 26⟩;by_cases q:ew s 0 4=67324752
 .
  by_cases t:ew s 4 2=20
  .
   by_cases B:ew s 6 2=0
   .
    by_cases L:ew s 28 2=0
    .
     obtain⟨H,J⟩:=Oo q t B L;rw[q]at u;rw[t]at C;rw[B]at M;rw[L]at z;rw[iL (by omega)]at l k F C8 O P;have X:=jT s.data.toList 26;have U:=fF s.data.toList 18;have Z:=fF s.data.toList 10;have I:=jT s.data.toList 8;by_cases r:30+wd s.data.toList 26 2+wd s.data.toList 18 4<=s.size
     .
      have a6:=ml (s:=s) (by omega);have a0:=Cr (s:=s) r;have HL:=af (OR (lM.2 ⟨H,J,r⟩));have b5:s.extract 30 (30+wd s.data.toList 26 2)=nmB s:=rfl;have b6:s.extract (30+wd s.data.toList 26 2) (30+wd s.data.toList 26 2+wd s.data.toList 18 4)=bdB s:=rfl;have CT:Hid (∀W,Ds 94 #[.int .i64 (wd s.data.toList 8 2:Nat),.string (bdB s)] W (.tuple #[.string (txT (wd s.data.toList 8 2) (bdB s)),.bool (txO (wd s.data.toList 8 2) (bdB s))])):=fun W=>G4 _ _ W (by omega) I;have a9:=FI (how:=wd s.data.toList 8 2) (b:=bdB s) (by omega);have CC:=af (fun W=>uu (txT (wd s.data.toList 8 2) (bdB s)) W (by unfold maxLen;omega));have CE:=af (fun W=>ie (nmB s) (gY (wd s.data.toList 10 4:Nat)) (gM (wd s.data.toList 10 4:Nat)) (gD (wd s.data.toList 10 4:Nat)) (gH (wd s.data.toList 10 4:Nat)) (gI (wd s.data.toList 10 4:Nat)) (gS (wd s.data.toList 10 4:Nat)) (txT (wd s.data.toList 8 2) (bdB s)) W (by omega) (by omega));have CG:Hid (∀W,Ds 93 #[.int .i64 (wd s.data.toList 10 4:Nat)] W (.agg #[.int .i64 (gY (wd s.data.toList 10 4:Nat)),.int .i64 (gM (wd s.data.toList 10 4:Nat)),.int .i64 (gD (wd s.data.toList 10 4:Nat)),.int .i64 (gH (wd s.data.toList 10 4:Nat)),.int .i64 (gI (wd s.data.toList 10 4:Nat)),.int .i64 (gS (wd s.data.toList 10 4:Nat))])):=fun W=>La _ W (by omega) (by omega);unfold Lr GB at HL;have a1:aE 0 (txT (wd s.data.toList 8 2) (bdB s)).data.toList<4294967296:=ig _ _ (by omega);generalize al:txO (wd s.data.toList 8 2) (bdB s)=OK at *
      generalize ao:txT (wd s.data.toList 8 2) (bdB s)=TX at *
      generalize ac:bdB s=BD at *
      generalize ad:nmB s=NM at *
      generalize bb:gY (wd s.data.toList 10 4:Nat)=yy at *
      generalize a5:gM (wd s.data.toList 10 4:Nat)=mo at *
      generalize a2:gD (wd s.data.toList 10 4:Nat)=dd at *
      generalize a3:gH (wd s.data.toList 10 4:Nat)=hh at *
      generalize a4:gI (wd s.data.toList 10 4:Nat)=mi at *
      generalize a8:gS (wd s.data.toList 10 4:Nat)=ss at *
      generalize gQ NM yy mo dd hh mi ss TX=EB at *
      generalize aE 0 TX.data.toList=cr at *
      generalize wd s.data.toList 26 2=NL at *
      generalize wd s.data.toList 18 4=LG at *
      generalize wd s.data.toList 10 4=ST at *
      generalize wd s.data.toList 8 2=HW at *
      generalize wd s.data.toList 14 4=CR at *
      generalize wd s.data.toList 22 4=LN at *
      have bd:0<=30+(NL:Int):=by omega
      have Y:decide ((NL:Int)<0)=false:=by simp
      have V:decide ((LG:Int)<0)=false:=by simp
      have E:30+(NL:Int)+(LG:Int)<=(s.size:Int):=by omega
      have b3:IntKind.i64.wrap (30+(NL:Int))=30+(NL:Int):=by rw[a0V];omega
      have b4:IntKind.i64.wrap (30+(NL:Int)+(LG:Int))=30+(NL:Int)+(LG:Int):=by rw[a0V];omega
      have bl:(30+(NL:Int)).toNat=30+NL:=by omega
      have bn:(30+(NL:Int)+(LG:Int)).toNat=30+NL+LG:=by omega
      have bs:30<=30+(NL:Int):=by omega
      have b0:30+(NL:Int)<=30+(NL:Int)+(LG:Int):=by omega
      have b1:30+(NL:Int)<=(s.size:Int):=by omega
      have b2:decide ((s.size:Int)<30+(NL:Int)+(LG:Int))=false:=by simpa using E
      have bk:(cr:Int)<4294967296:=by omega
      clear q t B L H J al ao ac ad bb a5 a2 a3 a4 a8 X U Z I a1 a6 a0 a9 r;go_enter a23,a24;go_wp2_with fail;refine(l _).mono ?_;rintro e x1⟨rfl,hb⟩;have T1:=af (T0.later hb);clear hb T0;go_wp2_with fail;refine(k _).mono ?_;rintro e x2⟨rfl,hb⟩;have T2:=af (T1.later hb);clear hb T1;go_wp2_with fail;refine(u _).mono ?_;rintro e x3⟨rfl,hb⟩;have T3:=af (T2.later hb);clear hb T2;go_wp2_with fail;refine(C _).mono ?_;rintro e x4⟨rfl,hb⟩;have T4:=af (T3.later hb);clear hb T3;go_wp2_with fail;refine(M _).mono ?_;rintro e x5⟨rfl,hb⟩;have T5:=af (T4.later hb);clear hb T4;go_wp2_with fail;refine(z _).mono ?_;rintro e x6⟨rfl,hb⟩;have T6:=af (T5.later hb);clear hb T5;go_wp2_with fail;go_cut[8] (fun v wx=>∃A,v = .pointer (some ⟨A,0,none⟩)/\w.heap.size<A/\RdS w wx/\Blk wx A [.string NM,.int .i64 yy,.int .i64 mo,.int .i64 dd,.int .i64 hh,.int .i64 mi,.int .i64 ss,.string ⟨#[]⟩])
      case first=>
       refine wp_region_held_drew (S:=fun _=>True) o trivial (fun _=>?_);refine ag 0 (.string s) rfl (fun W c=>by go_simp) trivial ?_;refine ag 1 (.int .i64 (NL:Nat)) rfl (fun W c=>by go_simp) trivial ?_;refine ag 2 (.int .i64 (30+(NL:Int))) rfl (fun W c=>by go_simp) trivial ?_;refine ag 3 (.string NM) rfl (fun W c=>by go_simp) trivial ?_;refine ag 4 (.string s) rfl (fun W c=>by go_simp) trivial ?_;have T7:=af (ae T6).drew;clear T6;generalize x6.drew=W7 at *
       refine wpAnyH_ready (rs:=[5,8]) (by kernel_rfl) (by simp) ?_;refine AllReadyH.cons rfl (fun K a=>?_) (AllReadyH.cons rfl (fun K a=>?_) (AllReadyH.nil))
       .
        go_simp;go_at_call 53;refine(F W7).mono ?_;rintro e W8⟨rfl,g⟩;have T8:=af (T7.later g);refine Shut.out a _ _ trivial (fun _=>?_);clear a K g T7;refine wpAnyH_ready (rs:=[6,8]) (by kernel_rfl) (by simp) ?_;refine AllReadyH.cons rfl (fun K a=>?_) (AllReadyH.cons rfl (fun K a=>?_) (AllReadyH.nil))
        .
         go_simp;go_at_call 93;refine(CG W8).mono ?_;rintro e W9⟨rfl,g⟩;have T9:=af (T8.later g);refine Shut.out a _ _ trivial (fun _=>?_);clear a K g T8;refine ag 7 (.agg #[NM,yy,mo,dd,hh,mi,ss,.string ⟨#[]⟩]) rfl (fun W c=>by go_simp) trivial ?_;refine ah 8 fun K a=>?_;go_simp;have g:Below W9.heap.size W9 (W9.alloc (.cells () 26)):=cC;have T10:=af (T9.later g);have i:Hid (Blk (W9.alloc (.cells () 26)) W9.heap.size [.string ⟨#[]⟩,.int .i64 0,.int .i64 0,.int .i64 0,.int .i64 0,.int .i64 0,.int .i64 0,.string ⟨#[]⟩]):=ay _ _ _;have j:w.heap.size<W9.heap.size:=T9.2.1;refine Shut.out a _ _ trivial (fun _=>?_);clear a K;obtain⟨A,hAe⟩:∃x,W9.heap.size=x:=⟨_,rfl⟩;obtain⟨W10,hW10⟩:∃x,W9.alloc (.cells () 26)=x:=⟨_,rfl⟩;rw[hW10]at T10;rw[hAe,hW10]at i;rw[hAe]at j;rw[hAe,hW10];clear g hAe hW10 T9;refine ah 9 fun K a=>?_;have aA:=i.cells (n:=8) rfl;have fA:=i.frees (n:=8) rfl;go_simp;have ZX:=af (yJ T10.1 (a0s j) i (.string NM) (.int .i64 yy) (.int .i64 mo) (.int .i64 dd) (.int .i64 hh) (.int .i64 mi) (.int .i64 ss) (.string ⟨#[]⟩));have OX:=af (qk T10.2 (a1P j) (.string NM) (.int .i64 yy) (.int .i64 mo) (.int .i64 dd) (.int .i64 hh) (.int .i64 mi) (.int .i64 ss) (.string ⟨#[]⟩));clear aA fA;refine Shut.out a _ _ trivial (fun _=>?_);clear a K;refine wpAnyH_done (by kernel_rfl) ?_ _;go_wp2_with fail
         go_meet
         case rel=>exact⟨A,rfl,j,⟨ZX.1,OX⟩,ZX.2⟩
        .
         go_simp;have g:Below W8.heap.size W8 (W8.alloc (.cells () 26)):=cC;have T9:=af (T8.later g);have p:Hid (Blk (W8.alloc (.cells () 26)) W8.heap.size [.string ⟨#[]⟩,.int .i64 0,.int .i64 0,.int .i64 0,.int .i64 0,.int .i64 0,.int .i64 0,.string ⟨#[]⟩]):=ay _ _ _;have j:w.heap.size<W8.heap.size:=T8.2.1;refine Shut.out a _ _ trivial (fun _=>?_);clear a K;obtain⟨A,hAe⟩:∃x,W8.heap.size=x:=⟨_,rfl⟩;obtain⟨W9,hW9⟩:∃x,W8.alloc (.cells () 26)=x:=⟨_,rfl⟩;rw[hW9]at T9;rw[hAe,hW9]at p;rw[hAe]at j;rw[hAe,hW9];clear g hAe hW9 T8;refine ah 6 fun K a=>?_;go_simp;go_at_call 93;refine(CG W9).mono ?_;rintro e W10⟨rfl,g⟩;have T10:=af (T9.later g);have i:=af (p.later g p.1);refine Shut.out a _ _ trivial (fun _=>?_);clear a K g T9 p;refine ag 7 (.agg #[NM,yy,mo,dd,hh,mi,ss,.string ⟨#[]⟩]) rfl (fun W c=>by go_simp) trivial ?_;refine ah 9 fun K a=>?_;have aA:=i.cells (n:=8) rfl;have fA:=i.frees (n:=8) rfl;go_simp;have ZX:=af (yJ T10.1 (a0s j) i (.string NM) (.int .i64 yy) (.int .i64 mo) (.int .i64 dd) (.int .i64 hh) (.int .i64 mi) (.int .i64 ss) (.string ⟨#[]⟩));have OX:=af (qk T10.2 (a1P j) (.string NM) (.int .i64 yy) (.int .i64 mo) (.int .i64 dd) (.int .i64 hh) (.int .i64 mi) (.int .i64 ss) (.string ⟨#[]⟩));clear aA fA;refine Shut.out a _ _ trivial (fun _=>?_);clear a K;refine wpAnyH_done (by kernel_rfl) ?_ _;go_wp2_with fail
         go_meet
         case rel=>exact⟨A,rfl,j,⟨ZX.1,OX⟩,ZX.2⟩
       .
        go_simp;have g:Below W7.heap.size W7 (W7.alloc (.cells () 26)):=cC;have T8:=af (T7.later g);have y:Hid (Blk (W7.alloc (.cells () 26)) W7.heap.size [.string ⟨#[]⟩,.int .i64 0,.int .i64 0,.int .i64 0,.int .i64 0,.int .i64 0,.int .i64 0,.string ⟨#[]⟩]):=ay _ _ _;have j:w.heap.size<W7.heap.size:=T7.2.1;refine Shut.out a _ _ trivial (fun _=>?_);clear a K;obtain⟨A,hAe⟩:∃x,W7.heap.size=x:=⟨_,rfl⟩;obtain⟨W8,hW8⟩:∃x,W7.alloc (.cells () 26)=x:=⟨_,rfl⟩;rw[hW8]at T8;rw[hAe,hW8]at y;rw[hAe]at j;rw[hAe,hW8];clear g hAe hW8 T7;refine ah 5 fun K a=>?_;go_simp;go_at_call 53;refine(F W8).mono ?_;rintro e W9⟨rfl,g⟩;have T9:=af (T8.later g);have p:=af (y.later g y.1);refine Shut.out a _ _ trivial (fun _=>?_);clear a K g T8 y;refine ah 6 fun K a=>?_;go_simp;go_at_call 93;refine(CG W9).mono ?_;rintro e W10⟨rfl,g⟩;have T10:=af (T9.later g);have i:=af (p.later g p.1);refine Shut.out a _ _ trivial (fun _=>?_);clear a K g T9 p;refine ag 7 (.agg #[NM,yy,mo,dd,hh,mi,ss,.string ⟨#[]⟩]) rfl (fun W c=>by go_simp) trivial ?_;refine ah 9 fun K a=>?_;have aA:=i.cells (n:=8) rfl;have fA:=i.frees (n:=8) rfl;go_simp;have ZX:=af (yJ T10.1 (a0s j) i (.string NM) (.int .i64 yy) (.int .i64 mo) (.int .i64 dd) (.int .i64 hh) (.int .i64 mi) (.int .i64 ss) (.string ⟨#[]⟩));have OX:=af (qk T10.2 (a1P j) (.string NM) (.int .i64 yy) (.int .i64 mo) (.int .i64 dd) (.int .i64 hh) (.int .i64 mi) (.int .i64 ss) (.string ⟨#[]⟩));clear aA fA;refine Shut.out a _ _ trivial (fun _=>?_);clear a K;refine wpAnyH_done (by kernel_rfl) ?_ _;go_wp2_with fail
        go_meet
        case rel=>exact⟨A,rfl,j,⟨ZX.1,OX⟩,ZX.2⟩
      case rest=>
       obtain⟨A,rfl,j,TA',R⟩:=hcut;have TA:=af TA';have RA:=af R;clear TA' R T6;go_wp2_with fail;have c8:=fun d os=>Calls.regrown_of (w:=wc) (d:=d) (os:=os) (C8 _);have cT:=fun d os=>Calls.regrown_of (w:=wc) (d:=d) (os:=os) (CT _);refine wp_region_quiet_below o (by kernel_rfl) ?_;repeat (quiet_step (first|exact c8 _ _|exact cT _ _))
       refine a1w ?_;intro zw ba;obtain⟨⟨dq,osq⟩,aa⟩:=ba;have HZ:=below_regrown wc dq osq;rw[←aa]at HZ;have T7:=af (TA.later HZ);have R7:=af (RA.later HZ RA.1);clear aa HZ c8 cT TA RA;have a7:=R7.cell 7 _ rfl;have f7:=R7.free 7 (by simp)
       go_upto_region 9 with fail
       have T8:=af (T7.set j 7 (.string TX));have y:=af (R7.set 7 (.string TX));clear a7 f7 T7 R7;generalize zw.setCell ⟨A,7,none⟩ (.string TX)=Z8 at *
       go_cut[10] (fun v wx=>v = .bool (OK&&(decide (CR=cr)&&decide (LN=TX.size)))/\RdS w wx/\Blk wx A [.string NM,.int .i64 yy,.int .i64 mo,.int .i64 dd,.int .i64 hh,.int .i64 mi,.int .i64 ss,.string TX])
       case first=>
        cases OK
        .
         go_wp2_with fail
         go_meet
         case rel=>exact⟨rfl,T8,y⟩
        .
         go_wp2_with fail;refine(O _).mono ?_;rintro e x9⟨rfl,hb⟩;have T9:=af (T8.later hb);have p:=af (y.later hb y.1);clear hb T8 y;go_wp2_with fail;refine(CC _).mono ?_;rintro e x10⟨rfl,rfl⟩;by_cases k1:CR=cr
         .
          subst k1;go_wp2_with fail;refine(P _).mono ?_;rintro e x11⟨rfl,hb⟩;have T11:=af (T9.later hb);have Q:=af (p.later hb p.1);clear hb T9 p;by_cases k2:LN=TX.size
          .
           have ab:(LN:Int)=(TX.size:Int):=by omega
           go_wp2_with fail
           go_meet
           case rel=>exact⟨by simp[k2],T11,Q⟩
          .
           have ab:¬ (LN:Int)=(TX.size:Int):=by omega
           go_wp2_with fail
           go_meet
           case rel=>exact⟨by simp[k2,ab],T11,Q⟩
         .
          have b7:¬ (CR:Int)=(cr:Int):=by omega
          go_wp2_with fail
          go_meet
          case rel=>exact⟨by simp[k1],T9,p⟩
       case rest=>
        obtain⟨rfl,TB',T⟩:=hcut;have TB:=af TB';have N:=af T;clear TB' T T8 y;have m:Hid (rC s=if ((OK&&(decide (CR=cr)&&decide (LN=TX.size)))&&EB)=true then .tuple #[.agg #[NM,yy,mo,dd,hh,mi,ss,TX],.int .i64 (30+(NL:Int)+(LG:Int)),.bool true]else .tuple #[noE,.int .i64 0,.bool false]):=by
         have:=ae HL;show _=_;rw[this,Int.natCast_add,Int.natCast_add]
         congr 1
        generalize (OK&&(decide (CR=cr)&&decide (LN=TX.size)))=OB at *
        go_wp2_with fail;cases OB
        .
         have m:=af (show rC s = .tuple #[noE,.int .i64 0,.bool false]from ae m);refine wp_region_held_drew (S:=fun W=>Blk W A [.string NM,.int .i64 yy,.int .i64 mo,.int .i64 dd,.int .i64 hh,.int .i64 mi,.int .i64 ss,.string TX]) o N.drew (fun f=>?_);refine ag 0 (.agg #[NM,yy,mo,dd,hh,mi,ss,TX]) rfl (fun W c=>by have sA:=Blk.cells c (n:=8) rfl;go_simp) f ?_;refine ag 1 (.int .i64 (NL:Nat)) rfl (fun W c=>by go_simp) f ?_;refine ag 2 (.int .i64 (30+(NL:Int))) rfl (fun W c=>by go_simp) f ?_;refine ag 3 (.int .i64 (LG:Nat)) rfl (fun W c=>by go_simp) f ?_;refine ag 4 (.int .i64 (30+(NL:Int)+(LG:Int))) rfl (fun W c=>by go_simp) f ?_;refine ag 5 (.bool false) rfl (fun W c=>by go_simp) f ?_;refine ag 6 (.bool false) rfl (fun W c=>by go_simp) f ?_;refine ah 7 fun K a=>?_;go_simp;refine Shut.out a _ _ f (fun f=>?_);clear a K;refine ah 8 fun K a=>?_;go_simp;refine Shut.out a _ _ f (fun f=>?_);clear a K;refine ag 9 (.bool false) rfl (fun W c=>by go_simp) f ?_;have TD:=af (ae TB).drew;have RD:=af (ae N).drew;clear TB N;generalize wc.drew=V1 at *
         refine ah 10 fun K a=>?_;have D:=TD.2.cells (n:=8) rfl;have gA:=TD.2.frees (n:=8) rfl;go_simp;have ZZ:=af (yJ TD.1 (a0a _) TD.2 (.string NM) (.int .i64 yy) (.int .i64 mo) (.int .i64 dd) (.int .i64 hh) (.int .i64 mi) (.int .i64 ss) (.string TX));have G:=af (qk RD (a13 j) (.string NM) (.int .i64 yy) (.int .i64 mo) (.int .i64 dd) (.int .i64 hh) (.int .i64 mi) (.int .i64 ss) (.string TX));clear D gA;refine Shut.out a _ _ G (fun f=>?_);clear a K;refine ah 11 fun K a=>?_;go_simp;refine Shut.out a _ _ G (fun f=>?_);clear a K;refine ah 12 fun K a=>?_;go_simp;refine Shut.out a _ _ G (fun f=>?_);clear a K;refine wpAnyH_done (by kernel_rfl) ?_ _;go_wp2;have zA:=ZZ.2.cells (n:=8) rfl;refine a0x (v:=.tuple #[.agg #[NM,yy,mo,dd,hh,mi,ss,TX],.int .i64 (30+(NL:Int)+(LG:Int)),.bool false]) (by simp[results,a2C,go_sem,zA]) rfl ⟨⟨_,_,_,_,_,_,_,_,_,_,rfl,?_⟩,ZZ.1⟩;exact m
        .
         refine wp_region_held_drew (S:=fun W=>Blk W A [.string NM,.int .i64 yy,.int .i64 mo,.int .i64 dd,.int .i64 hh,.int .i64 mi,.int .i64 ss,.string TX]) o N.drew (fun f=>?_);refine ag 0 (.agg #[NM,yy,mo,dd,hh,mi,ss,TX]) rfl (fun W c=>by have sA:=Blk.cells c (n:=8) rfl;go_simp) f ?_;refine ag 1 (.int .i64 (NL:Nat)) rfl (fun W c=>by go_simp) f ?_;refine ag 2 (.int .i64 (30+(NL:Int))) rfl (fun W c=>by go_simp) f ?_;refine ag 3 (.int .i64 (LG:Nat)) rfl (fun W c=>by go_simp) f ?_;refine ag 4 (.int .i64 (30+(NL:Int)+(LG:Int))) rfl (fun W c=>by go_simp) f ?_;refine ag 5 (.bool true) rfl (fun W c=>by go_simp) f ?_;refine ag 6 (.bool true) rfl (fun W c=>by go_simp) f ?_;have sA:=Blk.cells f (n:=8) rfl;refine ah 7 fun K a=>?_;go_simp;refine Shut.out a _ _ f (fun f=>?_);clear a K sA;have TC:=af (ae TB).drew;have RC:=af (ae N).drew;clear TB N;generalize wc.drew=V0 at *
         refine ah 8 fun K a=>?_;go_simp;go_at_call 25;refine(CE V0).mono ?_;rintro e V1⟨rfl,g⟩;have TD:=af (TC.later g);have RD:=af (RC.later g RC.1);refine Shut.out a _ _ RD (fun f=>?_);clear a K g TC RC;refine ag 9 (.bool EB) rfl (fun W c=>by go_simp) f ?_;refine ah 10 fun K a=>?_;have D:=TD.2.cells (n:=8) rfl;have gA:=TD.2.frees (n:=8) rfl;go_simp;have ZZ:=af (yJ TD.1 (a0a _) TD.2 (.string NM) (.int .i64 yy) (.int .i64 mo) (.int .i64 dd) (.int .i64 hh) (.int .i64 mi) (.int .i64 ss) (.string TX));have G:=af (qk RD (a13 j) (.string NM) (.int .i64 yy) (.int .i64 mo) (.int .i64 dd) (.int .i64 hh) (.int .i64 mi) (.int .i64 ss) (.string TX));clear D gA;refine Shut.out a _ _ G (fun f=>?_);clear a K;refine ah 11 fun K a=>?_;go_simp;refine Shut.out a _ _ G (fun f=>?_);clear a K;refine ah 12 fun K a=>?_;go_simp;refine Shut.out a _ _ G (fun f=>?_);clear a K;refine wpAnyH_done (by kernel_rfl) ?_ _;go_wp2;have zA:=ZZ.2.cells (n:=8) rfl;refine a0x (v:=.tuple #[.agg #[NM,yy,mo,dd,hh,mi,ss,TX],.int .i64 (30+(NL:Int)+(LG:Int)),.bool EB]) (by simp[results,a2C,go_sem,zA]) rfl ⟨⟨_,_,_,_,_,_,_,_,_,_,rfl,?_⟩,ZZ.1⟩;exact m
     .
      have m:=af (Uv (s:=s) r);generalize wd s.data.toList 26 2=NL at *
      generalize wd s.data.toList 18 4=LG at *
      have be:(NL:Int)<65536:=by omega
      have bc:(LG:Int)<4294967296:=by omega
      have Y:decide ((NL:Int)<0)=false:=by simp
      have V:decide ((LG:Int)<0)=false:=by simp
      have E:(s.size:Int)<30+(NL:Int)+(LG:Int):=by omega
      clear q t B L H J r X U Z I;go_enter a23,a24;go_wp2_with fail;refine(l _).mono ?_;rintro e x1⟨rfl,hb⟩;have T1:=af (T0.later hb);clear hb T0;go_wp2_with fail;refine(k _).mono ?_;rintro e x2⟨rfl,hb⟩;have T2:=af (T1.later hb);clear hb T1;go_wp2_with fail;refine(u _).mono ?_;rintro e x3⟨rfl,hb⟩;have T3:=af (T2.later hb);clear hb T2;go_wp2_with fail;refine(C _).mono ?_;rintro e x4⟨rfl,hb⟩;have T4:=af (T3.later hb);clear hb T3;go_wp2_with fail;refine(M _).mono ?_;rintro e x5⟨rfl,hb⟩;have T5:=af (T4.later hb);clear hb T4;go_wp2_with fail;refine(z _).mono ?_;rintro e x6⟨rfl,hb⟩;have T6:=af (T5.later hb);clear hb T5;have D:=T6.2.cells (n:=8) rfl;have gA:=T6.2.frees (n:=8) rfl;have ZZ:=af (yJ T6.1 (a0a _) T6.2 (.string ⟨#[]⟩) (.int .i64 0) (.int .i64 0) (.int .i64 0) (.int .i64 0) (.int .i64 0) (.int .i64 0) (.string ⟨#[]⟩));go_wp2;have zA:=ZZ.2.cells (n:=8) rfl;refine a0x (v:=.tuple #[.agg (),.int .i64 0,.bool false]) (by simp[results,a2C,go_sem,zA]) rfl ⟨⟨_,_,_,_,_,_,_,_,_,_,rfl,m⟩,ZZ.1⟩
    .
     have m:=af (vg (s:=s) (fun h=>L h.2.2.2));rw[q]at u;rw[t]at C;rw[B]at M;clear q t B;have qb:(ew s 28 2 == 0)=false:=by simpa using L
     clear L;generalize ew s 28 2=i3 at *
     generalize ew s 26 2=i26 at *
     generalize ew s 18 4=i18 at *
     go_enter a23,a24;go_wp2_with fail;refine(l _).mono ?_;rintro e x1⟨rfl,hb⟩;have T1:=af (T0.later hb);clear hb T0;go_wp2_with fail;refine(k _).mono ?_;rintro e x2⟨rfl,hb⟩;have T2:=af (T1.later hb);clear hb T1;go_wp2_with fail;refine(u _).mono ?_;rintro e x3⟨rfl,hb⟩;have T3:=af (T2.later hb);clear hb T2;go_wp2_with fail;refine(C _).mono ?_;rintro e x4⟨rfl,hb⟩;have T4:=af (T3.later hb);clear hb T3;go_wp2_with fail;refine(M _).mono ?_;rintro e x5⟨rfl,hb⟩;have T5:=af (T4.later hb);clear hb T4;go_wp2_with fail;refine(z _).mono ?_;rintro e x6⟨rfl,hb⟩;have T6:=af (T5.later hb);clear hb T5;have D:=T6.2.cells (n:=8) rfl;have gA:=T6.2.frees (n:=8) rfl;have ZZ:=af (yJ T6.1 (a0a _) T6.2 (.string ⟨#[]⟩) (.int .i64 0) (.int .i64 0) (.int .i64 0) (.int .i64 0) (.int .i64 0) (.int .i64 0) (.string ⟨#[]⟩));go_wp2;have zA:=ZZ.2.cells (n:=8) rfl;refine a0x (v:=.tuple #[.agg (),.int .i64 0,.bool false]) (by simp[results,a2C,go_sem,zA]) rfl ⟨⟨_,_,_,_,_,_,_,_,_,_,rfl,m⟩,ZZ.1⟩
   .
    have m:=af (vg (s:=s) (fun h=>B h.2.2.1));rw[q]at u;rw[t]at C;clear q t;have qb:(ew s 6 2 == 0)=false:=by simpa using B
    clear B;generalize ew s 6 2=i2 at *
    generalize ew s 26 2=i26 at *
    generalize ew s 18 4=i18 at *
    go_enter a23,a24;go_wp2_with fail;refine(l _).mono ?_;rintro e x1⟨rfl,hb⟩;have T1:=af (T0.later hb);clear hb T0;go_wp2_with fail;refine(k _).mono ?_;rintro e x2⟨rfl,hb⟩;have T2:=af (T1.later hb);clear hb T1;go_wp2_with fail;refine(u _).mono ?_;rintro e x3⟨rfl,hb⟩;have T3:=af (T2.later hb);clear hb T2;go_wp2_with fail;refine(C _).mono ?_;rintro e x4⟨rfl,hb⟩;have T4:=af (T3.later hb);clear hb T3;go_wp2_with fail;refine(M _).mono ?_;rintro e x5⟨rfl,hb⟩;have T5:=af (T4.later hb);clear hb T4;have D:=T5.2.cells (n:=8) rfl;have gA:=T5.2.frees (n:=8) rfl;have ZZ:=af (yJ T5.1 (a0a _) T5.2 (.string ⟨#[]⟩) (.int .i64 0) (.int .i64 0) (.int .i64 0) (.int .i64 0) (.int .i64 0) (.int .i64 0) (.string ⟨#[]⟩));go_wp2;have zA:=ZZ.2.cells (n:=8) rfl;refine a0x (v:=.tuple #[.agg (),.int .i64 0,.bool false]) (by simp[results,a2C,go_sem,zA]) rfl ⟨⟨_,_,_,_,_,_,_,_,_,_,rfl,m⟩,ZZ.1⟩
  .
   have m:=af (vg (s:=s) (fun h=>t h.2.1));rw[q]at u;clear q;have qb:(ew s 4 2 == 20)=false:=by simpa using t
   clear t;generalize ew s 4 2=i1 at *
   generalize ew s 26 2=i26 at *
   generalize ew s 18 4=i18 at *
   go_enter a23,a24;go_wp2_with fail;refine(l _).mono ?_;rintro e x1⟨rfl,hb⟩;have T1:=af (T0.later hb);clear hb T0;go_wp2_with fail;refine(k _).mono ?_;rintro e x2⟨rfl,hb⟩;have T2:=af (T1.later hb);clear hb T1;go_wp2_with fail;refine(u _).mono ?_;rintro e x3⟨rfl,hb⟩;have T3:=af (T2.later hb);clear hb T2;go_wp2_with fail;refine(C _).mono ?_;rintro e x4⟨rfl,hb⟩;have T4:=af (T3.later hb);clear hb T3;have D:=T4.2.cells (n:=8) rfl;have gA:=T4.2.frees (n:=8) rfl;have ZZ:=af (yJ T4.1 (a0a _) T4.2 (.string ⟨#[]⟩) (.int .i64 0) (.int .i64 0) (.int .i64 0) (.int .i64 0) (.int .i64 0) (.int .i64 0) (.string ⟨#[]⟩));go_wp2;have zA:=ZZ.2.cells (n:=8) rfl;refine a0x (v:=.tuple #[.agg (),.int .i64 0,.bool false]) (by simp[results,a2C,go_sem,zA]) rfl ⟨⟨_,_,_,_,_,_,_,_,_,_,rfl,m⟩,ZZ.1⟩
 .
  have m:=af (vg (s:=s) (fun h=>q h.1));have qb:(ew s 0 4 == 67324752)=false:=by simpa using q
  clear q;generalize ew s 0 4=i0 at *
  generalize ew s 26 2=i26 at *
  generalize ew s 18 4=i18 at *
  go_enter a23,a24;go_wp2_with fail;refine(l _).mono ?_;rintro e x1⟨rfl,hb⟩;have T1:=af (T0.later hb);clear hb T0;go_wp2_with fail;refine(k _).mono ?_;rintro e x2⟨rfl,hb⟩;have T2:=af (T1.later hb);clear hb T1;go_wp2_with fail;refine(u _).mono ?_;rintro e x3⟨rfl,hb⟩;have T3:=af (T2.later hb);clear hb T2;have D:=T3.2.cells (n:=8) rfl;have gA:=T3.2.frees (n:=8) rfl;have ZZ:=af (yJ T3.1 (a0a _) T3.2 (.string ⟨#[]⟩) (.int .i64 0) (.int .i64 0) (.int .i64 0) (.int .i64 0) (.int .i64 0) (.int .i64 0) (.string ⟨#[]⟩));go_wp2;have zA:=ZZ.2.cells (n:=8) rfl;refine a0x (v:=.tuple #[.agg (),.int .i64 0,.bool false]) (by simp[results,a2C,go_sem,zA]) rfl ⟨⟨_,_,_,_,_,_,_,_,_,_,rfl,m⟩,ZZ.1⟩
def QH(t:ByteArray)(a:t.size<=300):qE (dh t) (aO t)=some t:=by
 unfold dh aO qE
 split
 . rw[a0e (by decide),a0d rfl,(GG t a).1];simp
 . simp
def SS{y mo d h mi s:Int}(k:du y mo d h mi s=true):gY (stN y mo d h mi s)=y/\gM (stN y mo d h mi s)=mo/\gD (stN y mo d h mi s)=d/\gH (stN y mo d h mi s)=h/\gI (stN y mo d h mi s)=mi/\gS (stN y mo d h mi s)=s:=by
 obtain⟨⟨a0,a1⟩,⟨a,b⟩,⟨c0,_,c1⟩,⟨c,e⟩,⟨e0,e1⟩,⟨f0,f1⟩,f2⟩:=Qk k;simp only[gY,gM,gD,gH,gI,gS,stN];omega
def Em{n t:ByteArray}{N:Nat}(c:N<4294967296)(d:n.size<65536)(f:t.size<4294967296)(r:ByteArray) :
  hdB (da n t N++r)=true/\wd (da n t N++r).data.toList 8 2=dh t/\wd (da n t N++r).data.toList 10 4=N/\wd (da n t N++r).data.toList 14 4=aE 0 t.data.toList/\wd (da n t N++r).data.toList 18 4=(aO t).size/\wd (da n t N++r).data.toList 22 4=t.size/\wd (da n t N++r).data.toList 26 2=n.size/\nmB (da n t N++r)=n/\bdB (da n t N++r)=aO t:=by
 have hb:=vH t;have o:=zi t;have p:=(uk c d f).1;have e:(da n t N++r).data.toList=(df (dh t) N (aE 0 t.data.toList) (aO t).size t.size n).data.toList++((aO t).data.toList++r.data.toList):=by
  rw[show(da n t N++r).data.toList=(da n t N).data.toList++r.data.toList by simp,xd,a0I]
 obtain⟨g,h,i,j,b,k,a,l,m⟩:=we (how:=dh t) (st:=N) (crc:=aE 0 t.data.toList) (pk:=(aO t).size) (lg:=t.size) (nm:=n) ((aO t).data.toList++r.data.toList) (by omega) c (ig _ _ (by omega)) (by omega) f d;rw[←e]at g h i j b k a l m;refine⟨lM.2 ⟨?_,g,?_⟩,h,i,j,b,k,a,ck ?_,ck ?_⟩
 . rw[a0H];omega
 . rw[a,b,a0H];omega
 . rw[xr,a,l]
 . rw[Nc,a,b,m,a1n (by simp),a0t (by simp)]
def Wds(W:World)(B g c:Nat)(s:ByteArray):Prop:=Blk W B [.slice g 15 c]/\g<W.heap.size/\∀j,j<15->W.cell? ⟨g,j,none⟩=some (.int .i64 ((wd s.data.toList (2*j) 2:Nat):Int))
def Wds.later(h:Wds W B g c s)(hb:Below W.heap.size W W'):Wds W' B g c s:=
 ⟨h.1.later hb h.1.1,a0h h.2.1 hb.size,fun j a=>(hb.cell (p:=⟨g,j,none⟩) h.2.1).trans (h.2.2 j a)⟩
def Wds.drew(h:Wds W B g c s):Wds W.drew B g c s:=h
def Wds.set(h:Wds W B g c s)(a:B≠A)(h2:g≠A)(o:Nat)(v:Value):Wds (W.setCell ⟨A,o,none⟩ v) B g c s:=
 ⟨h.1.set_other v a,by simpa using h.2.1,fun j b=>(World.cell?_of_block (w:=W) (a0M W ⟨A,o,none⟩ v g h2)).trans (h.2.2 j b)⟩
def UQ{x y:Nat}(a:x<65536)(b:y<65536):bits .or .i64 (x:Int) ((y:Int)*65536)=((x+65536*y:Nat):Int):=by
 rw[mq 16 (x:Int) ((y:Int)*65536) (by omega) (by omega) (by omega) (by omega) (by omega) (by omega)];omega
def mU(k B g c:Nat)(s:ByteArray)(w:World)(h:Wds w B g c s)(j:k+1<15)(a:30<=s.size) :
  Ds 102 #[.int .i64 (k:Int),.pointer B] w (.int .i64 ((wd s.data.toList (2*k) 4:Nat):Int)):=by
 have c1:=h.1.cell 0 _ rfl;have c2:=h.2.2 k (by omega);have c3:=h.2.2 (k+1) j;have m:(k:Int)+1<15:=by omega
 have l:0<=(k:Int)+1:=by omega
 have b:=jT s.data.toList (2*k);have d:=jT s.data.toList (2*(k+1));have e:Hid (∀a:2*k+2<=s.data.toList.length,wd s.data.toList (2*k) 4=wd s.data.toList (2*k) 2+65536*wd s.data.toList (2*(k+1)) 2):=fun a=>UZ a;generalize wd s.data.toList (2*k) 2=X at *
 generalize wd s.data.toList (2*(k+1)) 2=Y at *
 have f:=af (UQ b d);have i:(Y:Int)<65536:=by omega
 clear h b d;go_enter func102,ntmps102;go_wp2_with fail
 go_quiet (fail)
 go_wp2;go_ret;exact⟨aJ (by rw[ae f,ae e (by simp;omega)]),below_drewN (a0c _ _) _⟩
def jj(s:ByteArray)(w:World)(b:s.size<=281474976710656) :
  Ds 49 #[s] w (.string s):=by
 go_enter func49,ntmps49;go_wp2_with fail;refine(Tryz.stringslite_Clone s _ b).mono ?_;rintro e x1⟨rfl,a⟩;go_wp2;go_ret;exact⟨rfl,a⟩
def uxT(how:Nat)(b:ByteArray):ByteArray:=if how=0∨how=8 then txT how b else⟨#[]⟩
def FO(hb:b.size<=1048576):(uxT how b).size<=1048576:=by
 unfold uxT
 split
 . exact FI hb
 . exact a0g _
def Ux(h:txO how b=true):uxT how b=txT how b:=by
 unfold uxT;rw[a0d];unfold txO qE at h;by_cases a:how=0
 . exact .inl a
 .
  rw[a0e a]at h;by_cases c:how=8
  . exact .inr c
  . rw[a0e c]at h;cases h
def Ll(how:Nat)(st crc pk lg:Int)(nm b:ByteArray)(w:World)(hb:b.size<=1048576)(r:how<65536)(j:dp w) :
  Ds 104 #[.agg #[.int .i64 (how:Int),st,crc,pk,lg,nm,b]] w (.tuple #[.string (uxT how b),.bool (txO how b)]):=by
 have h:=cE
 have m:=af ((a0c w.heap.size w).alloc (a0a _) (.cells #[.int .i64 (how:Int),st,crc,pk,lg,nm,b] 64));have o:=af (ay w #[.int .i64 (how:Int),st,crc,pk,lg,nm,b] 64);have B:(how:Int)<65536:=by omega
 by_cases g:how=0
 .
  subst g;have e1:uxT 0 b=b:=by simp[uxT,txT]
  have e2:txO 0 b=true:=by simp[txO,qE]
  rw[e1,e2];have y:=af (fun W=>jj b W (by omega));clear j hb r e1 e2;go_enter a36,a38;go_wp2_with fail;refine(y _).mono ?_;rintro e x1⟨rfl,a⟩;have c:=af (aj m a);clear a;go_wp2
  go_ret2
  exact⟨rfl,c⟩
 .
  by_cases p:how=8
  .
   subst p;have l:=af (fun W (j:dp W)=>sR b W (by omega) j);have v:=af (j.later m);rcases f:cY b with _|⟨T,q⟩
   .
    have e1:uxT 8 b=⟨#[]⟩:=by simp[uxT,txT,f]
    have e2:txO 8 b=false:=by simp[txO,qE,f]
    rw[f]at l;rw[e1,e2];simp only[sM]at l;clear hb r f e1 e2 g j;go_enter a36,a38;go_wp2_with fail;refine(l _ (ae v)).mono ?_;rintro e x1⟨rfl,a⟩;have c:=af (aj m a);have n:=(o.later a o.1).cell 6 _ rfl;clear a;go_wp2_with fail;have u:=cell_regrown n;refine wp_region_quiet_below h (by kernel_rfl) ?_;repeat (quiet_step (fail))
    refine a1w ?_;intro zw k;obtain⟨⟨t,osq⟩,d⟩:=k;have i:=below_regrown x1 t osq;rw[←d]at i;have s:=af (aj c i);clear d i u n;go_wp2
    go_ret2
    exact⟨rfl,s⟩
   .
    obtain⟨C,hq⟩:=sL f;have e1:uxT 8 b=⟨T.toArray⟩:=by simp[uxT,txT,f]
    have e2:txO 8 b=decide (((q/8:Nat):Int)=(b.size:Int)):=by
     unfold txO qE;rw[a0e g,a0d rfl,f];by_cases x:q/8=b.size
     . rw[a0B (by omega)];simp[x]
     . rw[a0m (by omega)];simp[x]
    rw[f]at l;rw[e1,e2];simp only[sM]at l;clear hb r f e1 e2 g hq j;generalize (⟨T.toArray⟩:ByteArray)=X at *
    generalize q/8=q8 at *
    go_enter a36,a38;go_wp2_with fail;refine(l _ (ae v)).mono ?_;rintro e x1⟨rfl,a⟩;have c:=af (aj m a);have n:=(o.later a o.1).cell 6 _ rfl;clear a;go_wp2_with fail;have u:=cell_regrown n;refine wp_region_quiet_below h (by kernel_rfl) ?_;repeat (quiet_step (fail))
    refine a1w ?_;intro zw k;obtain⟨⟨t,osq⟩,d⟩:=k;have i:=below_regrown x1 t osq;rw[←d]at i;have s:=af (aj c i);clear d i u n;go_wp2
    go_ret2
    exact⟨rfl,s⟩
  .
   have A:((how:Int) == 8)=false:=by simp;omega
   have z:((how:Int) == 0)=false:=by simp[g]
   have e1:uxT how b=⟨#[]⟩:=by simp[uxT,g,p]
   have e2:txO how b=false:=by simp[txO,qE,g,p]
   rw[e1,e2];clear hb r e1 e2 g p j;go_enter a36,a38;go_wp2
   go_ret2
   exact⟨rfl,m⟩
def HgS(w W:World):Prop:=Below w.heap.size w W/\Blk W w.heap.size [.int .i64 0,.int .i64 0,.int .i64 0,.int .i64 0,.int .i64 0,.string ⟨#[]⟩,.string ⟨#[]⟩]
def HgS.later(k:HgS w W)(hb:Below W.heap.size W W'):HgS w W':=⟨aj k.1 hb,k.2.later hb k.2.1⟩
def HgS.drew(k:HgS w W):HgS w W.drew:=⟨k.1.drew,k.2.drew⟩
def HgS.set(k:HgS w W)(a:w.heap.size<A)(o:Nat)(v:Value):HgS w (W.setCell ⟨A,o,none⟩ v):=⟨ai k.1 (a0s a) _,k.2.set_other v (by omega)⟩
def HgS.set6(k:HgS w W)(a:w.heap.size<A)(a0 a1 a2 a3 a4 a5:Value):HgS w ((((((W.setCell ⟨A,0,none⟩ a0).setCell ⟨A,1,none⟩ a1).setCell ⟨A,2,none⟩ a2).setCell ⟨A,3,none⟩ a3).setCell ⟨A,4,none⟩ a4).setCell ⟨A,5,none⟩ a5):=((((((k.set a 0 a0).set a 1 a1).set a 2 a2).set a 3 a3).set a 4 a4).set a 5 a5)
def HgS.set7(k:HgS w W)(a:w.heap.size<A)(a0 a1 a2 a3 a4 a5 a6:Value):HgS w (((((((W.setCell ⟨A,0,none⟩ a0).setCell ⟨A,1,none⟩ a1).setCell ⟨A,2,none⟩ a2).setCell ⟨A,3,none⟩ a3).setCell ⟨A,4,none⟩ a4).setCell ⟨A,5,none⟩ a5).setCell ⟨A,6,none⟩ a6):=(((((((k.set a 0 a0).set a 1 a1).set a 2 a2).set a 3 a3).set a 4 a4).set a 5 a5).set a 6 a6)
def Wds.set6(h:Wds W B g c s)(a:B≠A)(h2:g≠A)(a0 a1 a2 a3 a4 a5:Value):Wds ((((((W.setCell ⟨A,0,none⟩ a0).setCell ⟨A,1,none⟩ a1).setCell ⟨A,2,none⟩ a2).setCell ⟨A,3,none⟩ a3).setCell ⟨A,4,none⟩ a4).setCell ⟨A,5,none⟩ a5) B g c s:=((((((h.set a h2 0 a0).set a h2 1 a1).set a h2 2 a2).set a h2 3 a3).set a h2 4 a4).set a h2 5 a5)
def Flo(w W:World)(z:List Value)(o:Option Nat)(E:World->Prop)(N:Nat->Prop):Prop:=HgS w W/\E W/\(∀V V':World,Below V.heap.size V V'->E V->E V')/\∀A,o=some A->w.heap.size<A/\N A/\Blk W A z
def Flo.call{o:Option Nat}{E':World->Prop}{N':Nat->Prop}(h:Flo w W z o E N)(b:Below W.heap.size W W')(e:E' W')(m:∀V V':World,Below V.heap.size V V'->E' V->E' V')(n:∀A,N A->A<W.heap.size->N' A):Flo w W' z o E' N':=
 ⟨h.1.later b,e,m,fun A q=>have r:=h.2.2.2 A q; ⟨r.1,n A r.2.1 r.2.2.1,r.2.2.later b r.2.2.1⟩⟩
def Flo.later{o:Option Nat}(h:Flo w W z o E N)(b:Below W.heap.size W W'):Flo w W' z o E N:=h.call b (h.2.2.1 _ _ b h.2.1) h.2.2.1 (fun _ k _=>k)
def Flo.lay(h:Flo w W z none E N)(n:N W.heap.size)(u:TypeId):Flo w (W.alloc (.cells z.toArray u)) z (some W.heap.size) E N:=
 have b:Below W.heap.size W (W.alloc (.cells z.toArray u)):=cC
 ⟨h.1.later b,h.2.2.1 _ _ b h.2.1,h.2.2.1,fun A q=>by
  obtain rfl:=a1A q;exact⟨h.1.2.1,n,ay W z.toArray u⟩⟩
def Te(h:g<W.heap.size/\∀j,j<15->W.cell? ⟨g,j,none⟩=some (.int .i64 ((wd s.data.toList (2*j) 2:Nat):Int)))(a:g≠A)(o:Nat)(v:Value):g<(W.setCell ⟨A,o,none⟩ v).heap.size/\∀j,j<15->(W.setCell ⟨A,o,none⟩ v).cell? ⟨g,j,none⟩=some (.int .i64 ((wd s.data.toList (2*j) 2:Nat):Int)):=
 ⟨by simpa using h.1,fun j b=>(World.cell?_of_block (w:=W) (a0M W ⟨A,o,none⟩ v g a)).trans (h.2 j b)⟩
def Ba(s:ByteArray)(a:Option Addr)(w:World)(h:bE w a (List.replicate 15 16))(f:30<=s.size) :
  Calls prog 100 #[.string (s.extract 0 30),.slice a 15 15] w fun e w'=>∃g c,e = .returned (.tuple #[.slice (some ⟨g,0,none⟩) 15 c,.bool true])/\(w.heap.size<=g/\g<w'.heap.size)/\(∀j,j<15->w'.cell? ⟨g,j,none⟩=some (.int .i64 ((wd s.data.toList (2*j) 2:Nat):Int)))/\Below w.heap.size w w':=by
 have e0:(s.extract 0 30).data.toList=s.data.toList.take 30:=by rw[ext_list,a1L]
 have i:30<=s.data.toList.length:=by simpa using f
 have m:(s.extract 0 30).size<=2000000:=by rw[a2e];omega
 refine(uM (s.extract 0 30) a 15 (List.replicate 15 16) w h m (by simp)).mono ?_;rintro e w'⟨v,rfl,d,hb⟩;rw[e0]at d;rw[e0,Bb i];have k:=Om i;obtain⟨b,c,rfl⟩:=d.formN k;obtain⟨g,rfl⟩:=d.somes (by rw[k];decide);refine⟨g,c,rfl,d.below,fun j l=>?_,hb⟩;have:=(d.at k l).1;rw[GM i j l]at this;exact this
def HgO(s:ByteArray)(a b c d f:Nat)(n t:ByteArray):Prop:=a<65536/\b<4294967296/\c<4294967296/\d<4294967296/\f<4294967296/\n.size<=s.size/\t.size<=s.size
def HgP(s:ByteArray)(e:Ending):Prop:=
 (hdB s=true/\e = .returned (.tuple #[.agg #[.int .i64 (wd s.data.toList 8 2:Nat),.int .i64 (wd s.data.toList 10 4:Nat),.int .i64 (wd s.data.toList 14 4:Nat),.int .i64 (wd s.data.toList 18 4:Nat),.int .i64 (wd s.data.toList 22 4:Nat),.string (nmB s),.string (bdB s)],.bool true])) ∨
 (hdB s=false/\∃(a b c d f:Nat) (n t:ByteArray),HgO s a b c d f n t/\e = .returned (.tuple #[.agg #[a,b,c,d,f,n,t],.bool false]))
def Ot(h:hdB s=false)(a b c d f:Nat)(n t:ByteArray)(k:HgO s a b c d f n t):HgP s (.returned (.tuple #[.agg #[a,b,c,d,f,n,t],.bool false])):=.inr ⟨h,a,b,c,d,f,n,t,k,rfl⟩
def DU: HgO s 0 0 0 0 0 ⟨#[]⟩ ⟨#[]⟩:=⟨by decide,by decide,by decide,by decide,by decide,a0g _,a0g _⟩
def tg(s:ByteArray)(w:World)(hs:s.size<=1048576) :
  Calls prog 64 #[s] w fun e w'=>HgP s e/\Below w.heap.size w w':=by
 have q:=cE
 have b0:(s.size:Int)<=1048576:=by omega
 have T0:Hid (HgS w (w.alloc (.cells #[.int .i64 0,.int .i64 0,.int .i64 0,.int .i64 0,.int .i64 0,.string ⟨#[]⟩,.string ⟨#[]⟩] 64))):=⟨cC,ay w #[.int .i64 0,.int .i64 0,.int .i64 0,.int .i64 0,.int .i64 0,.string ⟨#[]⟩,.string ⟨#[]⟩] 64⟩;by_cases y:30<=s.size
 .
  have a4:s.extract 0 30=s.extract 0 30:=rfl;obtain⟨HD,hHD⟩:∃x,s.extract 0 30=x:=⟨_,rfl⟩;have N:Hid (∀J W,W.cell? ⟨J,0,none⟩=some (.int .i64 16)->Calls prog 101 #[.slice (some ⟨J,0,none⟩) 1 1,.int .i64 15] W fun e w'=>e = .returned (.slice W.heap.size 15 15)/\an w' W.heap.size (.slice W.heap.size 15 15) (List.replicate 15 16)/\Below W.heap.size W w'):=fun J W h=>qp 16 15 1 J 0 W h (by omega) (by omega);have CB:Hid (∀a W,bE W a (List.replicate 15 16)->Calls prog 100 #[HD,.slice a 15 15] W fun e w'=>∃g c,e = .returned (.tuple #[.slice (some ⟨g,0,none⟩) 15 c,.bool true])/\(W.heap.size<=g/\g<w'.heap.size)/\(∀j,j<15->w'.cell? ⟨g,j,none⟩=some (.int .i64 ((wd s.data.toList (2*j) 2:Nat):Int)))/\Below W.heap.size W w'):=by rw[←hHD];exact fun a W h=>Ba s a W h y
  obtain⟨HW,hHW⟩:∃x,wd s.data.toList 8 2=x:=⟨_,rfl⟩;obtain⟨ST,hST⟩:∃x,wd s.data.toList 10 4=x:=⟨_,rfl⟩;obtain⟨CR,hCR⟩:∃x,wd s.data.toList 14 4=x:=⟨_,rfl⟩;obtain⟨PK,hPK⟩:∃x,wd s.data.toList 18 4=x:=⟨_,rfl⟩;obtain⟨LN,hLN⟩:∃x,wd s.data.toList 22 4=x:=⟨_,rfl⟩;obtain⟨NL,hNL⟩:∃x,wd s.data.toList 26 2=x:=⟨_,rfl⟩;have i:=af (a0b hHW (a0b hST (a0b hCR (a0b hPK (a0b hLN hNL)))));have lHW:HW<65536:=by rw[←hHW];exact jT _ _
  have lST:ST<4294967296:=by rw[←hST];exact fF _ _
  have lCR:CR<4294967296:=by rw[←hCR];exact fF _ _
  have lPK:PK<4294967296:=by rw[←hPK];exact fF _ _
  have lLN:LN<4294967296:=by rw[←hLN];exact fF _ _
  have lNL:NL<65536:=by rw[←hNL];exact jT _ _
  have Y:30<=(s.size:Int):=by omega
  have a5:decide ((s.size:Int)<30)=false:=by simp;omega
  have r:=af (a0b lHW (a0b lST (a0b lCR (a0b lPK (a0b lLN lNL)))));have a6:(NL:Int)<65536:=by omega
  have a7:(PK:Int)<4294967296:=by omega
  have t:=af y;clear hHW hST hCR hPK hLN hNL lHW lST lCR lPK lLN lNL y a4;go_enter func64,ntmps64;go_wp2_with fail;go_cut[4,5] (fun v u wx=>(∃B g c,v = .pointer (some ⟨B,0,none⟩)/\w.heap.size<B/\w.heap.size<g/\HgS w wx/\Wds wx B g c s)/\u = .bool true)
  case first=>
   obtain⟨W0,hW0⟩:∃x,w.alloc (.cells #[.int .i64 0,.int .i64 0,.int .i64 0,.int .i64 0,.int .i64 0,.string ⟨#[]⟩,.string ⟨#[]⟩] 64)=x:=⟨_,rfl⟩;rw[hW0]at T0;rw[hW0];clear hW0;refine wp_region_held_drew (S:=fun _=>True) q trivial (fun _=>?_);refine ag 0 (.string s) rfl (fun W d=>by go_simp) trivial ?_;refine ag 1 (.string HD) rfl (fun W d=>by go_simp) trivial ?_;have T1:=af (ae T0).drew;clear T0;generalize W0.drew=W1 at *
   have X:Hid (Flo w W1 [.slice none 0 0] none (fun _=>True) (fun _=>True)):=⟨T1,trivial,fun _ _ _ h=>h,nofun⟩;clear T1;refine wpAnyH_ready (rs:=[2,8]) (by kernel_rfl) (by simp) ?_;refine AllReadyH.cons rfl (fun K f=>?c1) (AllReadyH.cons rfl (fun K f=>?a1) AllReadyH.nil)
   case' a1=>
    go_simp
    replace X:=af (X.lay trivial 129)
    refine Shut.out f _ _ trivial (fun _=>?_);clear f K;generalize W1.heap.size=A at *
    generalize W1.alloc (.cells #[.slice none 0 0] 129)=W1 at *
    refine ah 2 fun K f=>?_
   all_goals
    go_simp;have m:Below W1.heap.size W1 (W1.alloc (.cells #[.int .i64 16] 3)):=cC
    replace X:=af (X.call (E':=fun V=>Blk V W1.heap.size [.int .i64 16]) (N':=fun _=>True) m (ay W1 #[.int .i64 16] 3) (fun _ _ b h=>Blk.later h b h.1) (fun _ _ _=>trivial))
    refine Shut.out f _ _ trivial (fun _=>?_);clear f K m;generalize W1.heap.size=J at *
    generalize W1.alloc (.cells #[.int .i64 16] 3)=W2 at *
   case' c1=>
    refine wpAnyH_ready (rs:=[3,8]) (by kernel_rfl) (by simp) ?_;refine AllReadyH.cons rfl (fun K f=>?c2) (AllReadyH.cons rfl (fun K f=>?a2) AllReadyH.nil)
    case' a2=>
     go_simp
     replace X:=af (X.lay trivial 129)
     refine Shut.out f _ _ trivial (fun _=>?_);clear f K;generalize W2.heap.size=A at *
     generalize W2.alloc (.cells #[.slice none 0 0] 129)=W2 at *
     refine ah 3 fun K f=>?_
   case' a1=>
    refine ah 3 fun K f=>?_
   all_goals
    go_simp;go_at_call 101;refine(N J W2 (Blk.cell X.2.1 0 _ rfl)).mono ?_;rintro e W3⟨rfl,ho,m⟩
    replace X:=af (X.call (E':=fun V=>bE V (some ⟨W2.heap.size,0,none⟩) (List.replicate 15 16)) (N':=fun _=>True) m (an.rowN (n:=15) (by simp) ho) (fun _ _ b h=>bE.later h b) (fun _ _ _=>trivial))
    refine Shut.out f _ _ trivial (fun _=>?_);clear f K ho m;generalize W2.heap.size=rb at *
   case' c2=>
    refine wpAnyH_ready (rs:=[4,8]) (by kernel_rfl) (by simp) ?_;refine AllReadyH.cons rfl (fun K f=>?c3) (AllReadyH.cons rfl (fun K f=>?a3) AllReadyH.nil)
    case' a3=>
     go_simp
     replace X:=af (X.lay trivial 129)
     refine Shut.out f _ _ trivial (fun _=>?_);clear f K;generalize W3.heap.size=A at *
     generalize W3.alloc (.cells #[.slice none 0 0] 129)=W3 at *
     refine ah 4 fun K f=>?_
   case' a1|a2=>
    refine ah 4 fun K f=>?_
   all_goals
    go_simp;go_at_call 100;refine(CB (some ⟨rb,0,none⟩) W3 (ae X).2.1).mono ?_;rintro e W4⟨g,c,rfl,D,o,m⟩;have aa:w.heap.size<g:=a0h X.1.2.1 D.1
    replace X:=af (X.call (E':=fun V=>g<V.heap.size/\∀j,j<15->V.cell? ⟨g,j,none⟩=some (.int .i64 ((wd s.data.toList (2*j) 2:Nat):Int))) (N':=fun A=>g≠A) m ⟨D.2,o⟩ (fun _ _ b h=>⟨a0h h.1 b.size,fun j hj=>(b.cell (p:=⟨g,j,none⟩) h.1).trans (h.2 j hj)⟩) (fun A _ C=>a13 (a0h C D.1)))
    refine Shut.out f _ _ trivial (fun _=>?_);clear f K D o m;refine ag 5 (.tuple #[.slice g 15 c,.bool true]) rfl (fun W d=>by go_simp) trivial ?_;refine ag 6 (.slice g 15 c) rfl (fun W d=>by go_simp) trivial ?_;refine ag 7 (.bool true) rfl (fun W d=>by go_simp) trivial ?_
   case' c3=>
    refine ah 8 fun K f=>?_;go_simp
    replace X:=af (X.lay (a1P X.2.1.1) 129)
    refine Shut.out f _ _ trivial (fun _=>?_);clear f K;generalize W4.heap.size=A at *
    generalize W4.alloc (.cells #[.slice none 0 0] 129)=W4 at *
   all_goals
    refine ah 9 fun K f=>?_;obtain⟨T5,G5,_,R⟩:=ae X;obtain⟨C,ad,z⟩:=R _ rfl;have a0:=z.cell 0 _ rfl;have f0:=z.free 0 (by decide);have T5:=af T5;have G5:=af G5;have z:=af z;clear X R;go_simp;have TX':=af (T5.set C 0 (.slice g 15 c));have G:=af (z.set 0 (.slice g 15 c));have GX':=af (Te G5 ad 0 (.slice g 15 c));clear a0 f0;refine Shut.out f _ _ trivial (fun _=>?_);clear f K;refine ah 10 fun K f=>?_;go_simp;refine Shut.out f _ _ trivial (fun _=>?_);clear f K;refine wpAnyH_done (by kernel_rfl) ?_ _;go_wp2_with fail
    go_meet
    case rel=>exact⟨⟨A,g,c,rfl,C,aa,TX',G,GX'.1,GX'.2⟩,rfl⟩
  case rest=>
   obtain⟨⟨B,g,c,rfl,bs,aa,T1',G1'⟩,rfl⟩:=hcut;have T1:=af T1';have G1:=af G1';clear T1' G1' T0;have C5:Hid (∀W,Wds W B g c s->Ds 102 #[.int .i64 5,.pointer B] W (.int .i64 (ST:Nat))):=fun W h=>by rw[←i.2.1];exact mU 5 B g c s W h (by omega) t
   have C7:Hid (∀W,Wds W B g c s->Ds 102 #[.int .i64 7,.pointer B] W (.int .i64 (CR:Nat))):=fun W h=>by rw[←i.2.2.1];exact mU 7 B g c s W h (by omega) t
   have C9:Hid (∀W,Wds W B g c s->Ds 102 #[.int .i64 9,.pointer B] W (.int .i64 (PK:Nat))):=fun W h=>by rw[←i.2.2.2.1];exact mU 9 B g c s W h (by omega) t
   have M:Hid (∀W,Wds W B g c s->Ds 102 #[.int .i64 11,.pointer B] W (.int .i64 (LN:Nat))):=fun W h=>by rw[←i.2.2.2.2.1];exact mU 11 B g c s W h (by omega) t
   have W4:Hid (∀W,Wds W B g c s->W.cell? ⟨g,4,none⟩=some (.int .i64 (HW:Nat))):=fun W h=>by rw[←i.1];exact h.2.2 4 (by omega)
   have W13:Hid (∀W,Wds W B g c s->W.cell? ⟨g,13,none⟩=some (.int .i64 (NL:Nat))):=fun W h=>by rw[←i.2.2.2.2.2];exact h.2.2 13 (by omega)
   go_wp2_with fail;go_cut[7] (fun v wx=>∃A,v = .pointer (some ⟨A,0,none⟩)/\w.heap.size<A/\B<A/\g<A/\HgS w wx/\Wds wx B g c s/\Blk wx A [.int .i64 (HW:Nat),.int .i64 (ST:Nat),.int .i64 (CR:Nat),.int .i64 (PK:Nat),.int .i64 (LN:Nat),.string ⟨#[]⟩])
   case first=>
    refine wp_region_held_drew (S:=fun W=>Wds W B g c s) q G1.drew (fun k=>?_);refine ag 0 (.slice g 15 c) rfl (fun W d=>by have s0:=Blk.cell d.1 0 _ rfl;go_simp) k ?_;refine ag 1 (.pointer (some ⟨g,4,none⟩)) rfl (fun W d=>by go_simp) k ?_;refine ag 2 (.int .i64 (HW:Nat)) rfl (fun W d=>by have s1:=ae W4 W d;go_simp) k ?_;refine ag 3 (.func (.func 102) #[] #[.pointer B]) rfl (fun W d=>by go_simp) k ?_;refine ag 5 (.func (.func 102) #[] #[.pointer B]) rfl (fun W d=>by go_simp) k ?_;refine ag 7 (.func (.func 102) #[] #[.pointer B]) rfl (fun W d=>by go_simp) k ?_;refine ag 9 (.func (.func 102) #[] #[.pointer B]) rfl (fun W d=>by go_simp) k ?_;have T2:=af (ae T1).drew;have G2:=af (ae G1).drew;clear T1 G1;generalize wc.drew=W2 at *
    have X:Hid (Flo w W2 [.int .i64 0,.int .i64 0,.int .i64 0,.int .i64 0,.int .i64 0,.string ⟨#[]⟩] none (fun V=>Wds V B g c s) (fun A=>B<A/\g<A)):=⟨T2,G2,fun _ _ b h=>Wds.later h b,nofun⟩;clear T2 G2;refine wpAnyH_ready (rs:=[4,12]) (by kernel_rfl) (by simp) ?_;refine AllReadyH.cons rfl (fun K f=>?d1) (AllReadyH.cons rfl (fun K f=>?e1) AllReadyH.nil)
    case' e1=>
     go_simp
     replace X:=af (X.lay ⟨X.2.1.1.1,X.2.1.2.1⟩ 62)
     refine Shut.out f _ _ X.2.1 (fun k=>?_);clear f K;generalize W2.heap.size=A at *
     generalize W2.alloc (.cells #[.int .i64 0,.int .i64 0,.int .i64 0,.int .i64 0,.int .i64 0,.string ⟨#[]⟩] 62)=W2 at *
     refine ah 4 fun K f=>?_
    all_goals
     go_simp;go_at_call 102;refine(C5 W2 (ae X).2.1).mono ?_;rintro e W3⟨rfl,m⟩
     replace X:=af (X.later m)
     refine Shut.out f _ _ X.2.1 (fun k=>?_);clear f K m
    case' d1=>
     refine wpAnyH_ready (rs:=[6,12]) (by kernel_rfl) (by simp) ?_;refine AllReadyH.cons rfl (fun K f=>?d2) (AllReadyH.cons rfl (fun K f=>?e2) AllReadyH.nil)
     case' e2=>
      go_simp
      replace X:=af (X.lay ⟨X.2.1.1.1,X.2.1.2.1⟩ 62)
      refine Shut.out f _ _ X.2.1 (fun k=>?_);clear f K;generalize W3.heap.size=A at *
      generalize W3.alloc (.cells #[.int .i64 0,.int .i64 0,.int .i64 0,.int .i64 0,.int .i64 0,.string ⟨#[]⟩] 62)=W3 at *
      refine ah 6 fun K f=>?_
    case' e1=>
     refine ah 6 fun K f=>?_
    all_goals
     go_simp;go_at_call 102;refine(C7 W3 (ae X).2.1).mono ?_;rintro e W4⟨rfl,m⟩
     replace X:=af (X.later m)
     refine Shut.out f _ _ X.2.1 (fun k=>?_);clear f K m
    case' d2=>
     refine wpAnyH_ready (rs:=[8,12]) (by kernel_rfl) (by simp) ?_;refine AllReadyH.cons rfl (fun K f=>?d3) (AllReadyH.cons rfl (fun K f=>?e3) AllReadyH.nil)
     case' e3=>
      go_simp
      replace X:=af (X.lay ⟨X.2.1.1.1,X.2.1.2.1⟩ 62)
      refine Shut.out f _ _ X.2.1 (fun k=>?_);clear f K;generalize W4.heap.size=A at *
      generalize W4.alloc (.cells #[.int .i64 0,.int .i64 0,.int .i64 0,.int .i64 0,.int .i64 0,.string ⟨#[]⟩] 62)=W4 at *
      refine ah 8 fun K f=>?_
    case' e1|e2=>
     refine ah 8 fun K f=>?_
    all_goals
     go_simp;go_at_call 102;refine(C9 W4 (ae X).2.1).mono ?_;rintro e W5⟨rfl,m⟩
     replace X:=af (X.later m)
     refine Shut.out f _ _ X.2.1 (fun k=>?_);clear f K m
    case' d3=>
     refine wpAnyH_ready (rs:=[10,12]) (by kernel_rfl) (by simp) ?_;refine AllReadyH.cons rfl (fun K f=>?d4) (AllReadyH.cons rfl (fun K f=>?e4) AllReadyH.nil)
     case' e4=>
      go_simp
      replace X:=af (X.lay ⟨X.2.1.1.1,X.2.1.2.1⟩ 62)
      refine Shut.out f _ _ X.2.1 (fun k=>?_);clear f K;generalize W5.heap.size=A at *
      generalize W5.alloc (.cells #[.int .i64 0,.int .i64 0,.int .i64 0,.int .i64 0,.int .i64 0,.string ⟨#[]⟩] 62)=W5 at *
      refine ah 10 fun K f=>?_
    case' e1|e2|e3=>
     refine ah 10 fun K f=>?_
    all_goals
     go_simp;go_at_call 102;refine(M W5 (ae X).2.1).mono ?_;rintro e W6⟨rfl,m⟩
     replace X:=af (X.later m)
     refine Shut.out f _ _ X.2.1 (fun k=>?_);clear f K m;refine ag 11 (.agg #[HW,ST,CR,PK,LN,.string ⟨#[]⟩]) rfl (fun W d=>by go_simp) k ?_
    case' d4=>
     refine ah 12 fun K f=>?_;go_simp
     replace X:=af (X.lay ⟨X.2.1.1.1,X.2.1.2.1⟩ 62)
     refine Shut.out f _ _ X.2.1 (fun k=>?_);clear f K;generalize W6.heap.size=A at *
     generalize W6.alloc (.cells #[.int .i64 0,.int .i64 0,.int .i64 0,.int .i64 0,.int .i64 0,.string ⟨#[]⟩] 62)=W6 at *
    all_goals
     refine ah 13 fun K f=>?_;obtain⟨T7,G7,_,R⟩:=ae X;obtain⟨C,⟨H,I⟩,U⟩:=R _ rfl;have aA:=U.cells (n:=6) rfl;have fA:=U.frees (n:=6) rfl;have T7:=af T7;have G7:=af G7;have U:=af U;clear X R;go_simp;have TX':=af (T7.set6 C (.int .i64 (HW:Nat)) (.int .i64 (ST:Nat)) (.int .i64 (CR:Nat)) (.int .i64 (PK:Nat)) (.int .i64 (LN:Nat)) (.string ⟨#[]⟩));have G:=af (U.set6 (.int .i64 (HW:Nat)) (.int .i64 (ST:Nat)) (.int .i64 (CR:Nat)) (.int .i64 (PK:Nat)) (.int .i64 (LN:Nat)) (.string ⟨#[]⟩));have GX':=af (G7.set6 (a1P H) (a1P I) (.int .i64 (HW:Nat)) (.int .i64 (ST:Nat)) (.int .i64 (CR:Nat)) (.int .i64 (PK:Nat)) (.int .i64 (LN:Nat)) (.string ⟨#[]⟩));clear aA fA;refine Shut.out f _ _ GX' (fun k=>?_);clear f K;refine wpAnyH_done (by kernel_rfl) ?_ _;go_wp2_with fail
     go_meet
     case rel=>exact⟨A,rfl,C,H,I,TX',GX',G⟩
   case rest=>
    obtain⟨A,rfl,C,H,I,T2',G2',T⟩:=hcut;have T2:=af T2';have G2:=af G2';have Q:=af T;clear T2' G2' T T1 G1 C5 C7 C9 M;have c0:=G2.1.cell 0 _ rfl;have ac:=ae W13 _ (ae G2);have r3:=Q.cell 3 _ rfl;have r5:=Q.cell 5 _ rfl;have q5:=Q.free 5 (by simp);have bl:IntKind.i64.wrap (30+(NL:Int))=30+(NL:Int):=by rw[a0V];omega
    have bn:IntKind.i64.wrap (30+(NL:Int)+(PK:Int))=30+(NL:Int)+(PK:Int):=by rw[a0V];omega
    by_cases E:30+NL+PK<=s.size
    .
     have F:30+(NL:Int)+(PK:Int)<=(s.size:Int):=by omega
     have bk:decide ((s.size:Int)<30+(NL:Int)+(PK:Int))=false:=by simpa using F
     have a8:(30+(NL:Int)).toNat=30+NL:=by omega
     have a9:(30+(NL:Int)+(PK:Int)).toNat=30+NL+PK:=by omega
     have ba:30<=30+(NL:Int):=by omega
     have bb:30+(NL:Int)<=30+(NL:Int)+(PK:Int):=by omega
     have bc:0<=30+(NL:Int)+(PK:Int):=by omega
     have bd:30+(NL:Int)<=(s.size:Int):=by omega
     have be:0<=30+(NL:Int):=by omega
     have b1:s.extract 30 (30+NL)=nmB s:=by unfold nmB;rw[i.2.2.2.2.2]
     have b2:s.extract (30+NL) (30+NL+PK)=bdB s:=by unfold bdB;rw[i.2.2.2.2.2,i.2.2.2.1]
     have P:Hid ((df HW ST CR PK LN (nmB s)).data.toList.isPrefixOf s.data.toList=nN s.data.toList):=by
      have hh:=On (l:=s.data.toList) (nm:=nmB s) (by rw[i.2.2.2.2.2];simp;omega) (xr s);rw[i.1,i.2.1,i.2.2.1,i.2.2.2.1,i.2.2.2.2.1]at hh;exact hh
     have ab:(nmB s).size<65536:=by rw[ml (by rw[i.2.2.2.2.2];omega)];exact jT _ _
     have O:Hid (∀b,nN s.data.toList=b->HgP s (.returned (.tuple #[.agg #[HW,ST,CR,PK,LN,.string (nmB s),.string (bdB s)],.bool b]))):=fun b hb=>by
      have hd:hdB s=b:=by
       unfold hdB;rw[hb,i.2.2.2.2.2,i.2.2.2.1,a0B (ae t),a0B E];simp
      cases b
      . exact Ot hd _ _ _ _ _ _ _ ⟨r.1,r.2.1,r.2.2.1,r.2.2.2.1,r.2.2.2.2.1,by unfold nmB;rw[a2e];omega,by unfold bdB;rw[a2e];omega⟩
      . refine .inl ⟨hd,?_⟩;rw[i.1,i.2.1,i.2.2.1,i.2.2.2.1,i.2.2.2.2.1]
     generalize ao:nmB s=NM at *
     generalize al:bdB s=BD at *
     obtain⟨l1,l2,l3,l4,l5,l6⟩:=ae r;have CH:=af (fun W=>DT HW ST CR PK LN NM BD W l1 l2 l3 l4 l5 ab);have CP:Hid (∀W,Calls prog 63 #[s,.string (df HW ST CR PK LN NM)] W fun e w'=>e = .returned (.bool (nN s.data.toList))/\w'=W):=fun W=>by
      have h:=Tryz.strings_HasPrefix s (df HW ST CR PK LN NM) W;have e:Lib.hasPrefix s.data.toList (df HW ST CR PK LN NM).data.toList=nN s.data.toList:=ae P;rw[e]at h;exact h
     generalize nN s.data.toList=fb at *
     generalize df HW ST CR PK LN NM=HB at *
     clear ao al l1 l2 l3 l4 l5 l6 E P ab;have T3:=af (T2.set C 5 (.string NM));have R3:=af (Q.set 5 (.string NM));clear T2 Q G2 W4 W13;go_wp2_with fail;clear c0 ac r3 r5 q5;generalize wc.setCell ⟨A,5,none⟩ (.string NM)=X3 at *
     refine wp_region_held_drew (S:=fun W=>Blk W A [.int .i64 (HW:Nat),.int .i64 (ST:Nat),.int .i64 (CR:Nat),.int .i64 (PK:Nat),.int .i64 (LN:Nat),.string NM]) q R3.drew (fun k=>?_);refine ag 0 (.agg #[HW,ST,CR,PK,LN,NM]) rfl (fun W d=>by have s0:=Blk.cell d 0 _ rfl;have s1:=Blk.cell d 1 _ rfl;have s2:=Blk.cell d 2 _ rfl;have s3:=Blk.cell d 3 _ rfl;have s4:=Blk.cell d 4 _ rfl;have s5:=Blk.cell d 5 _ rfl;go_simp) k ?_;refine ag 1 (.string s) rfl (fun W d=>by go_simp) k ?_;refine ag 2 (.int .i64 (30+(NL:Int))) rfl (fun W d=>by go_simp) k ?_;refine ag 3 (.int .i64 (30+(NL:Int))) rfl (fun W d=>by go_simp) k ?_;refine ag 4 (.pointer (some ⟨A,3,none⟩)) rfl (fun W d=>by go_simp) k ?_;refine ag 5 (.int .i64 (PK:Nat)) rfl (fun W d=>by have s3:=Blk.cell d 3 _ rfl;go_simp) k ?_;refine ag 6 (.int .i64 (30+(NL:Int)+(PK:Int))) rfl (fun W d=>by go_simp) k ?_;refine ag 7 (.string BD) rfl (fun W d=>by go_simp) k ?_;refine ag 8 (.agg #[HW,ST,CR,PK,LN,NM,BD]) rfl (fun W d=>by go_simp) k ?_;have T4:=af (ae T3).drew;have R4:=af (ae R3).drew;clear T3 R3;generalize X3.drew=W4 at *
     refine ah 9 fun K f=>?_;go_simp;have m:Below W4.heap.size W4 (W4.alloc (.cells #[.int .i64 0,.int .i64 0,.int .i64 0,.int .i64 0,.int .i64 0,.string ⟨#[]⟩,.string ⟨#[]⟩] 64)):=cC;have T5:=af (T4.later m);have z:=af (R4.later m R4.1);have L5:Hid (Blk (W4.alloc (.cells #[.int .i64 0,.int .i64 0,.int .i64 0,.int .i64 0,.int .i64 0,.string ⟨#[]⟩,.string ⟨#[]⟩] 64)) W4.heap.size [.int .i64 0,.int .i64 0,.int .i64 0,.int .i64 0,.int .i64 0,.string ⟨#[]⟩,.string ⟨#[]⟩]):=ay _ _ _;have hL:w.heap.size<W4.heap.size:=T4.2.1;have Z:A<W4.heap.size:=R4.1;refine Shut.out f _ _ z (fun k=>?_);clear f K;obtain⟨L,hLe⟩:∃x,W4.heap.size=x:=⟨_,rfl⟩;obtain⟨W5,hW5⟩:∃x,W4.alloc (.cells #[.int .i64 0,.int .i64 0,.int .i64 0,.int .i64 0,.int .i64 0,.string ⟨#[]⟩,.string ⟨#[]⟩] 64)=x:=⟨_,rfl⟩;rw[hW5]at T5 z k;rw[hLe,hW5]at L5;rw[hLe]at hL Z;rw[hLe,hW5];clear m hLe hW5 T4 R4;refine ah 10 fun K f=>?_;have aA:=L5.cells (n:=7) rfl;have fA:=L5.frees (n:=7) rfl;go_simp;have T6:=af (T5.set7 hL (.int .i64 (HW:Nat)) (.int .i64 (ST:Nat)) (.int .i64 (CR:Nat)) (.int .i64 (PK:Nat)) (.int .i64 (LN:Nat)) (.string NM) (.string BD));have L6:=af (L5.set7 (.int .i64 (HW:Nat)) (.int .i64 (ST:Nat)) (.int .i64 (CR:Nat)) (.int .i64 (PK:Nat)) (.int .i64 (LN:Nat)) (.string NM) (.string BD));have R6:=af (Ps z (a1P Z) (.int .i64 (HW:Nat)) (.int .i64 (ST:Nat)) (.int .i64 (CR:Nat)) (.int .i64 (PK:Nat)) (.int .i64 (LN:Nat)) (.string NM) (.string BD));clear aA fA T5 z L5;refine Shut.out f _ _ R6 (fun k=>?_);clear f K;refine wpAnyH_done (by kernel_rfl) ?_ _;clear k;obtain⟨X6,hX6⟩:∃x,(((((((W5.setCell ⟨L,0,none⟩ (.int .i64 (HW:Nat))).setCell ⟨L,1,none⟩ (.int .i64 (ST:Nat))).setCell ⟨L,2,none⟩ (.int .i64 (CR:Nat))).setCell ⟨L,3,none⟩ (.int .i64 (PK:Nat))).setCell ⟨L,4,none⟩ (.int .i64 (LN:Nat))).setCell ⟨L,5,none⟩ (.string NM)).setCell ⟨L,6,none⟩ (.string BD))=x:=⟨_,rfl⟩;rw[hX6]at T6 L6;rw[hX6];clear hX6 R6;go_wp2_with fail;refine wp_region_held_drew (S:=fun W=>Blk W L [.int .i64 (HW:Nat),.int .i64 (ST:Nat),.int .i64 (CR:Nat),.int .i64 (PK:Nat),.int .i64 (LN:Nat),.string NM,.string BD]) q L6.drew (fun k=>?_);refine ag 0 (.agg #[HW,ST,CR,PK,LN,NM,BD]) rfl (fun W d=>by have s0:=Blk.cell d 0 _ rfl;have s1:=Blk.cell d 1 _ rfl;have s2:=Blk.cell d 2 _ rfl;have s3:=Blk.cell d 3 _ rfl;have s4:=Blk.cell d 4 _ rfl;have s5:=Blk.cell d 5 _ rfl;have s6:=Blk.cell d 6 _ rfl;go_simp) k ?_;refine ag 1 (.string s) rfl (fun W d=>by go_simp) k ?_;refine ag 2 (.agg #[HW,ST,CR,PK,LN,NM,BD]) rfl (fun W d=>by have s0:=Blk.cell d 0 _ rfl;have s1:=Blk.cell d 1 _ rfl;have s2:=Blk.cell d 2 _ rfl;have s3:=Blk.cell d 3 _ rfl;have s4:=Blk.cell d 4 _ rfl;have s5:=Blk.cell d 5 _ rfl;have s6:=Blk.cell d 6 _ rfl;go_simp) k ?_;have T7:=af (ae T6).drew;have L7:=af (ae L6).drew;clear T6 L6;generalize X6.drew=W7 at *
     refine ah 3 fun K f=>?_;go_simp;go_at_call 103;refine(CH W7).mono ?_;rintro e W8⟨rfl,m⟩;have T8:=af (T7.later m);have L8:=af (L7.later m L7.1);refine Shut.out f _ _ L8 (fun k=>?_);clear f K m T7 L7;refine ah 4 fun K f=>?_;go_simp;go_at_call 63;refine(CP W8).mono ?_;rintro e W9⟨rfl,rfl⟩;refine Shut.out f _ _ L8 (fun k=>?_);clear f K;refine ah 5 fun K f=>?_;have bA:=T8.2.cells (n:=7) rfl;have gA:=T8.2.frees (n:=7) rfl;go_simp;have TZ:=af (Nf T8.1 (a0a _) (.int .i64 (HW:Nat)) (.int .i64 (ST:Nat)) (.int .i64 (CR:Nat)) (.int .i64 (PK:Nat)) (.int .i64 (LN:Nat)) (.string NM) (.string BD));have ZZ:=af (T8.2.set7 (.int .i64 (HW:Nat)) (.int .i64 (ST:Nat)) (.int .i64 (CR:Nat)) (.int .i64 (PK:Nat)) (.int .i64 (LN:Nat)) (.string NM) (.string BD));have LZ:=af (Ps L8 (a13 hL) (.int .i64 (HW:Nat)) (.int .i64 (ST:Nat)) (.int .i64 (CR:Nat)) (.int .i64 (PK:Nat)) (.int .i64 (LN:Nat)) (.string NM) (.string BD));clear bA gA;refine Shut.out f _ _ LZ (fun k=>?_);clear f K;refine ah 6 fun K f=>?_;go_simp;refine Shut.out f _ _ LZ (fun k=>?_);clear f K;refine wpAnyH_done (by kernel_rfl) ?_ _;go_wp2;have zA:=ZZ.cells (n:=7) rfl;refine a0x (v:=.tuple #[.agg #[HW,ST,CR,PK,LN,NM,BD],.bool fb]) (by simp[results,results64,go_sem,zA]) rfl ⟨O _ rfl,TZ⟩
    .
     have F:(s.size:Int)<30+(NL:Int)+(PK:Int):=by omega
     have O:Hid (hdB s=false):=by
      show _=_;unfold hdB;rw[i.2.2.2.2.2,i.2.2.2.1,a0m E];simp
     clear E;have bA:=T2.2.cells (n:=7) rfl;have gA:=T2.2.frees (n:=7) rfl;have TZ:=af (Nf T2.1 (a0a _) (.int .i64 0) (.int .i64 0) (.int .i64 0) (.int .i64 0) (.int .i64 0) (.string ⟨#[]⟩) (.string ⟨#[]⟩));have ZZ:=af (T2.2.set7 (.int .i64 0) (.int .i64 0) (.int .i64 0) (.int .i64 0) (.int .i64 0) (.string ⟨#[]⟩) (.string ⟨#[]⟩));go_wp2;have zA:=ZZ.cells (n:=7) rfl;refine a0x (v:=.tuple #[.agg #[.int .i64 0,.int .i64 0,.int .i64 0,.int .i64 0,.int .i64 0,.string ⟨#[]⟩,.string ⟨#[]⟩],.bool false]) (by simp[results,results64,go_sem,zA]) rfl ⟨Ot O 0 0 0 0 0 ⟨#[]⟩ ⟨#[]⟩ DU,TZ⟩
 .
  have Y:(s.size:Int)<30:=by omega
  have O:Hid (hdB s=false):=by
   show _=_;unfold hdB;rw[a0m y];simp
  clear y;go_enter func64,ntmps64;go_wp2;refine a0x (v:=.tuple #[.agg #[.int .i64 0,.int .i64 0,.int .i64 0,.int .i64 0,.int .i64 0,.string ⟨#[]⟩,.string ⟨#[]⟩],.bool false]) (by simp[results,results64,go_sem]) rfl ⟨Ot O 0 0 0 0 0 ⟨#[]⟩ ⟨#[]⟩ DU,T0.1⟩
def EnS(w:World)(vs:List Value)(W:World):Prop:=Below w.heap.size w W/\Blk W w.heap.size vs/\Blk W (w.heap.size+1) [.string ⟨#[]⟩,.int .i64 0,.int .i64 0,.int .i64 0,.int .i64 0,.int .i64 0,.int .i64 0,.string ⟨#[]⟩]
def EnS.later(k:EnS w vs W)(hb:Below W.heap.size W W'):EnS w vs W':=⟨aj k.1 hb,k.2.1.later hb k.2.1.1,k.2.2.later hb k.2.2.1⟩
def EnS.drew(k:EnS w vs W):EnS w vs W.drew:=⟨k.1.drew,k.2.1.drew,k.2.2.drew⟩
def EnS.set(k:EnS w vs W)(a:w.heap.size+1<A)(o:Nat)(v:Value):EnS w vs (W.setCell ⟨A,o,none⟩ v):=⟨ai k.1 (by omega) _,k.2.1.set_other v (by omega),k.2.2.set_other v (by omega)⟩
def EnS.set8(k:EnS w vs W)(a:w.heap.size+1<A)(a0 a1 a2 a3 a4 a5 a6 a7:Value):EnS w vs ((((((((W.setCell ⟨A,0,none⟩ a0).setCell ⟨A,1,none⟩ a1).setCell ⟨A,2,none⟩ a2).setCell ⟨A,3,none⟩ a3).setCell ⟨A,4,none⟩ a4).setCell ⟨A,5,none⟩ a5).setCell ⟨A,6,none⟩ a6).setCell ⟨A,7,none⟩ a7):=((((((((k.set a 0 a0).set a 1 a1).set a 2 a2).set a 3 a3).set a 4 a4).set a 5 a5).set a 6 a6).set a 7 a7)
def enB(how st cr lg:Nat)(nm b:ByteArray):Bool:=txO how b&&(gOk (st:Nat)&&(gQ nm (zz (gOk (st:Nat)) (gY (st:Nat))) (zz (gOk (st:Nat)) (gM (st:Nat))) (zz (gOk (st:Nat)) (gD (st:Nat))) (zz (gOk (st:Nat)) (gH (st:Nat))) (zz (gOk (st:Nat)) (gI (st:Nat))) (zz (gOk (st:Nat)) (gS (st:Nat))) (uxT how b)&&(decide ((uxT how b).size=lg)&&decide (aE 0 (uxT how b).data.toList=cr))))
def enE(st:Nat)(nm T:ByteArray):Value:=.agg #[nm,.int .i64 (zz (gOk (st:Nat)) (gY (st:Nat))),.int .i64 (zz (gOk (st:Nat)) (gM (st:Nat))),.int .i64 (zz (gOk (st:Nat)) (gD (st:Nat))),.int .i64 (zz (gOk (st:Nat)) (gH (st:Nat))),.int .i64 (zz (gOk (st:Nat)) (gI (st:Nat))),.int .i64 (zz (gOk (st:Nat)) (gS (st:Nat))),T]
def Qi{P:Prop}(a b c:Bool)(x y u v:Nat)
  (g:(a&&(b&&(c&&(decide (x=y)&&decide (u=v)))))=false->a=false->P)
  (h2:(a&&(b&&(c&&(decide (x=y)&&decide (u=v)))))=false->a=true->b=false->P)
  (h:(a&&(b&&(c&&(decide (x=y)&&decide (u=v)))))=false->a=true->b=true->c=false->P)
  (i:(a&&(b&&(c&&(decide (x=y)&&decide (u=v)))))=false->a=true->b=true->c=true->((x:Int) == (y:Int))=false->((x:Int) != (y:Int))=true->P)
  (j:(a&&(b&&(c&&(decide (x=y)&&decide (u=v)))))=false->a=true->b=true->c=true->((x:Int) == (y:Int))=true->((x:Int) != (y:Int))=false->((u:Int) == (v:Int))=false->((u:Int) != (v:Int))=true->P)
  (k:(a&&(b&&(c&&(decide (x=y)&&decide (u=v)))))=true->a=true->b=true->c=true->((x:Int) == (y:Int))=true->((x:Int) != (y:Int))=false->((u:Int) == (v:Int))=true->((u:Int) != (v:Int))=false->P):P:=by
 have e:∀m n:Nat,((m:Int)=(n:Int))<->m=n:=fun m n=>by omega
 cases a
 . exact g (by simp) rfl
 cases b
 . exact h2 (by simp) rfl rfl
 cases c
 . exact h (by simp) rfl rfl rfl
 by_cases d:x=y
 .
  by_cases f:u=v
  . exact k (by simp[d,f]) rfl rfl rfl (by simp[d]) (by simp[d]) (by simp[f]) (by simp[f])
  . exact j (by simp[f]) rfl rfl rfl (by simp[d]) (by simp[d]) (by simp[e,f]) (by simp[e,f])
 . exact i (by simp[d]) rfl rfl rfl (by simp[e,d]) (by simp[e,d])
def uh(how st j pk lg:Nat)(nm b:ByteArray)(m:Int)(w:World)(hb:b.size<=1048576)(hh:how<65536)(h1:st<4294967296)(h2:j<4294967296)(h3:lg<4294967296)(hn:nm.size<=1048576)(N:w.cell? ⟨2,0,none⟩=some (.int .i64 m))(Z:dp w) :
  Calls prog 65 #[.agg #[how,st,j,pk,lg,nm,b]] w fun e w'=>e=Ending.returned (if enB how st j lg nm b=true then .tuple #[enE st nm (uxT how b),.bool true]else .tuple #[noE,.bool false])/\Below w.heap.size w w':=by
 have o:=cE
 have P:=FO (how:=how) (b:=b) hb;have HM:=af N;have O:=af (World.block_lt_of_cell? _ _ N);have CM:=af (fun W (hb:Below w.heap.size w W)=>(hb.cell (p:=⟨2,0,none⟩) O).trans HM);have HO:=af (fun W (hb:Below w.heap.size w W)=>Z.later hb);have CU:=af (fun W (h:dp W)=>Ll how (st:Int) (j:Int) (pk:Int) (lg:Int) nm b W hb hh h);have V:=af (fun W=>jj nm W (by omega));have y:=af (fun W=>tZ (uxT how b) W (by unfold maxLen;omega));have CS:Hid (∀W,Ds 105 #[st] W (.tuple #[.agg #[.int .i64 (zz (gOk (st:Nat)) (gY (st:Nat))),.int .i64 (zz (gOk (st:Nat)) (gM (st:Nat))),.int .i64 (zz (gOk (st:Nat)) (gD (st:Nat))),.int .i64 (zz (gOk (st:Nat)) (gH (st:Nat))),.int .i64 (zz (gOk (st:Nat)) (gI (st:Nat))),.int .i64 (zz (gOk (st:Nat)) (gS (st:Nat)))],.bool (gOk (st:Nat))])):=fun W=>sT _ W (WalkArith.wf_i64 (by omega));have X:=af (fun W (hb:Below w.heap.size w W)=>jO nm (zz (gOk (st:Nat)) (gY (st:Nat))) (zz (gOk (st:Nat)) (gM (st:Nat))) (zz (gOk (st:Nat)) (gD (st:Nat))) (zz (gOk (st:Nat)) (gH (st:Nat))) (zz (gOk (st:Nat)) (gI (st:Nat))) (zz (gOk (st:Nat)) (gS (st:Nat))) (uxT how b) m W (by omega) (by omega) (CM _ hb));obtain⟨RES,hRES⟩:∃x,Ending.returned (if enB how st j lg nm b=true then .tuple #[enE st nm (uxT how b),.bool true]else .tuple #[noE,.bool false])=x:=⟨_,rfl⟩;rw[hRES];have k:=af hRES;clear hRES N Z;unfold enB enE at k;generalize txO how b=OK at *
 generalize uxT how b=UT at *
 generalize zz (gOk (st:Nat)) (gY (st:Nat))=yy at *
 generalize zz (gOk (st:Nat)) (gM (st:Nat))=mo at *
 generalize zz (gOk (st:Nat)) (gD (st:Nat))=dd at *
 generalize zz (gOk (st:Nat)) (gH (st:Nat))=hh' at *
 generalize zz (gOk (st:Nat)) (gI (st:Nat))=mi at *
 generalize zz (gOk (st:Nat)) (gS (st:Nat))=ss at *
 generalize gOk (st:Nat)=GO at *
 generalize gQ nm yy mo dd hh' mi ss UT=EB at *
 generalize aE 0 UT.data.toList=cu at *
 have T0:Hid (EnS w [.int .i64 (how:Nat),.int .i64 (st:Nat),.int .i64 (j:Nat),.int .i64 (pk:Nat),.int .i64 (lg:Nat),.string nm,.string b] ((w.alloc (.cells #[how,st,j,pk,lg,nm,b] 64)).alloc (.cells () 26))):=by
  have e1:=ay w #[how,st,j,pk,lg,nm,b] 64;have e2:=ay (w.alloc (.cells #[how,st,j,pk,lg,nm,b] 64)) () 26;have e3:(w.alloc (.cells #[how,st,j,pk,lg,nm,b] 64)).heap.size=w.heap.size+1:=by simp
  rw[e3]at e2;exact⟨cC.alloc (by rw[e3];exact a06 _) _,e1.later cC (by simp),e2⟩
 clear hb hh P h1 h2 h3 hn;go_enter func65,ntmps65;go_wp2_with fail;refine(CU _ (ae HO _ (ae T0).1)).mono ?_;rintro e x1⟨rfl,D⟩;have T1:=af (T0.later D);clear D T0;have c1:=T1.2.1.cell 1 _ rfl;go_wp2_with fail;refine(CS _).mono ?_;rintro e x2⟨rfl,E⟩;have T2:=af (T1.later E);clear E T1 c1;have T3:=af (T2.later ((a0c x2.heap.size x2).alloc (a0a _) (.cells #[yy,mo,dd,hh',mi,ss] 24)));have S3:=af (ay x2 #[yy,mo,dd,hh',mi,ss] 24);clear T2;go_wp2_with fail;obtain⟨SB,hSB⟩:∃x,x2.heap.size=x:=⟨_,rfl⟩;obtain⟨X3,hX3⟩:∃x,x2.alloc (.cells #[yy,mo,dd,hh',mi,ss] 24)=x:=⟨_,rfl⟩;rw[hX3]at T3;rw[hSB,hX3]at S3;rw[hSB,hX3];clear hSB hX3;go_cut[8] (fun v wx=>∃A,v = .pointer (some ⟨A,0,none⟩)/\w.heap.size+1<A/\EnS w [.int .i64 (how:Nat),.int .i64 (st:Nat),.int .i64 (j:Nat),.int .i64 (pk:Nat),.int .i64 (lg:Nat),.string nm,.string b] wx/\Blk wx A [.string nm,.int .i64 yy,.int .i64 mo,.int .i64 dd,.int .i64 hh',.int .i64 mi,.int .i64 ss,.string UT])
 case first=>
  refine wp_region_held_drew (S:=fun W=>EnS w [.int .i64 (how:Nat),.int .i64 (st:Nat),.int .i64 (j:Nat),.int .i64 (pk:Nat),.int .i64 (lg:Nat),.string nm,.string b] W/\Blk W SB [.int .i64 yy,.int .i64 mo,.int .i64 dd,.int .i64 hh',.int .i64 mi,.int .i64 ss]) o ⟨T3.drew,S3.drew⟩ (fun i=>?_);refine ag 0 (.pointer w.heap.size) rfl (fun W a=>by go_simp) i ?_;refine ag 1 (.pointer (some ⟨w.heap.size,5,none⟩)) rfl (fun W a=>by go_simp) i ?_;refine ag 2 (.string nm) rfl (fun W a=>by have s5:=a.1.2.1.cell 5 _ rfl;go_simp) i ?_;refine ag 4 (.agg #[yy,mo,dd,hh',mi,ss]) rfl (fun W a=>by have s0:=a.2.cell 0 _ rfl;have s1:=a.2.cell 1 _ rfl;have s2:=a.2.cell 2 _ rfl;have s3:=a.2.cell 3 _ rfl;have s4:=a.2.cell 4 _ rfl;have s5:=a.2.cell 5 _ rfl;go_simp) i ?_;refine ag 5 (.string UT) rfl (fun W a=>by go_simp) i ?_;have T4:=af (ae T3).drew;have S4:=af (ae S3).drew;clear T3 S3;generalize X3.drew=W4 at *
  refine wpAnyH_ready (rs:=[3,7]) (by kernel_rfl) (by simp) ?_;refine AllReadyH.cons rfl (fun K f=>?_) (AllReadyH.cons rfl (fun K f=>?_) (AllReadyH.nil))
  .
   go_simp;go_at_call 49;refine(V W4).mono ?_;rintro e W5⟨rfl,g⟩;have T5:=af (T4.later g);have S5:=af (S4.later g S4.1);refine Shut.out f _ _ ⟨T5,S5⟩ (fun i=>?_);clear f K g T4 S4;refine ag 6 (.agg #[nm,yy,mo,dd,hh',mi,ss,UT]) rfl (fun W a=>by go_simp) i ?_;refine ah 7 fun K f=>?_;go_simp;have g:Below W5.heap.size W5 (W5.alloc (.cells () 26)):=cC;have T6:=af (T5.later g);have S6:=af (S5.later g S5.1);have s:Hid (Blk (W5.alloc (.cells () 26)) W5.heap.size [.string ⟨#[]⟩,.int .i64 0,.int .i64 0,.int .i64 0,.int .i64 0,.int .i64 0,.int .i64 0,.string ⟨#[]⟩]):=ay _ _ _;have t:w.heap.size+1<W5.heap.size:=T5.2.2.1;have l:SB≠W5.heap.size:=a1P S5.1;refine Shut.out f _ _ ⟨T6,S6⟩ (fun i=>?_);clear f K;obtain⟨A,hAe⟩:∃x,W5.heap.size=x:=⟨_,rfl⟩;obtain⟨W6,hW6⟩:∃x,W5.alloc (.cells () 26)=x:=⟨_,rfl⟩;rw[hW6]at T6 S6 i;rw[hAe,hW6]at s;rw[hAe]at t l;rw[hAe,hW6];clear g hAe hW6 T5 S5;refine ah 8 fun K f=>?_;have aA:=s.cells (n:=8) rfl;have fA:=s.frees (n:=8) rfl;go_simp;have TX:=af (T6.set8 t (.string nm) (.int .i64 yy) (.int .i64 mo) (.int .i64 dd) (.int .i64 hh') (.int .i64 mi) (.int .i64 ss) (.string UT));have L:=af (s.set8 (.string nm) (.int .i64 yy) (.int .i64 mo) (.int .i64 dd) (.int .i64 hh') (.int .i64 mi) (.int .i64 ss) (.string UT));have SX:=af (qk S6 l (.string nm) (.int .i64 yy) (.int .i64 mo) (.int .i64 dd) (.int .i64 hh') (.int .i64 mi) (.int .i64 ss) (.string UT));clear aA fA;refine Shut.out f _ _ ⟨TX,SX⟩ (fun i=>?_);clear f K;refine wpAnyH_done (by kernel_rfl) ?_ _;go_wp2_with fail
   go_meet
   case rel=>exact⟨A,rfl,t,TX,L⟩
  .
   go_simp;have g:Below W4.heap.size W4 (W4.alloc (.cells () 26)):=cC;have T5:=af (T4.later g);have S5:=af (S4.later g S4.1);have I:Hid (Blk (W4.alloc (.cells () 26)) W4.heap.size [.string ⟨#[]⟩,.int .i64 0,.int .i64 0,.int .i64 0,.int .i64 0,.int .i64 0,.int .i64 0,.string ⟨#[]⟩]):=ay _ _ _;have t:w.heap.size+1<W4.heap.size:=T4.2.2.1;have l:SB≠W4.heap.size:=a1P S4.1;refine Shut.out f _ _ ⟨T5,S5⟩ (fun i=>?_);clear f K;obtain⟨A,hAe⟩:∃x,W4.heap.size=x:=⟨_,rfl⟩;obtain⟨W5,hW5⟩:∃x,W4.alloc (.cells () 26)=x:=⟨_,rfl⟩;rw[hW5]at T5 S5 i;rw[hAe,hW5]at I;rw[hAe]at t l;rw[hAe,hW5];clear g hAe hW5 T4 S4;refine ah 3 fun K f=>?_;go_simp;go_at_call 49;refine(V W5).mono ?_;rintro e W6⟨rfl,g⟩;have T6:=af (T5.later g);have S6:=af (S5.later g S5.1);have s:=af (I.later g I.1);refine Shut.out f _ _ ⟨T6,S6⟩ (fun i=>?_);clear f K g T5 S5 I;refine ag 6 (.agg #[nm,yy,mo,dd,hh',mi,ss,UT]) rfl (fun W a=>by go_simp) i ?_;refine ah 8 fun K f=>?_;have aA:=s.cells (n:=8) rfl;have fA:=s.frees (n:=8) rfl;go_simp;have TX:=af (T6.set8 t (.string nm) (.int .i64 yy) (.int .i64 mo) (.int .i64 dd) (.int .i64 hh') (.int .i64 mi) (.int .i64 ss) (.string UT));have L:=af (s.set8 (.string nm) (.int .i64 yy) (.int .i64 mo) (.int .i64 dd) (.int .i64 hh') (.int .i64 mi) (.int .i64 ss) (.string UT));have SX:=af (qk S6 l (.string nm) (.int .i64 yy) (.int .i64 mo) (.int .i64 dd) (.int .i64 hh') (.int .i64 mi) (.int .i64 ss) (.string UT));clear aA fA;refine Shut.out f _ _ ⟨TX,SX⟩ (fun i=>?_);clear f K;refine wpAnyH_done (by kernel_rfl) ?_ _;go_wp2_with fail
   go_meet
   case rel=>exact⟨A,rfl,t,TX,L⟩
 case rest=>
  obtain⟨A,rfl,t,TB',z⟩:=hcut;have TB:=af TB';have c:=af z;clear TB' z T3 S3;go_wp2_with fail;refine Qi OK GO EB UT.size lg cu j ?_ ?_ ?_ ?_ ?_ ?_;rotate_left 5
  .
   rintro F rfl rfl rfl G H R T;have J:Hid (Ending.returned (.tuple #[.agg #[nm,yy,mo,dd,hh',mi,ss,UT],.bool true])=RES):=by show _=_;rw[←ae k,a0d F]
   clear F;have U:=cell_regrown (TB.2.1.cell 4 _ rfl);have Q:=cell_regrown (TB.2.1.cell 2 _ rfl);have m0:=cell_regrown (c.cell 0 _ rfl);have m1:=cell_regrown (c.cell 1 _ rfl);have m2:=cell_regrown (c.cell 2 _ rfl);have m3:=cell_regrown (c.cell 3 _ rfl);have m4:=cell_regrown (c.cell 4 _ rfl);have m5:=cell_regrown (c.cell 5 _ rfl);have m6:=cell_regrown (c.cell 6 _ rfl);have m7:=cell_regrown (c.cell 7 _ rfl);have C:=fun d os=>Calls.regrown_of (w:=wc) (d:=d) (os:=os) (X _ (aj TB.1 (below_regrown wc d os)));have B:=fun d os=>Calls.regrown_of (w:=wc) (d:=d) (os:=os) (y _);refine wp_region_quiet_below o (by kernel_rfl) ?_;repeat (quiet_step (first|exact C _ _|exact B _ _))
   refine a1w ?_;intro zw u;obtain⟨⟨M,osq⟩,q⟩:=u;have r:=below_regrown wc M osq;rw[←q]at r;have T9:=af (TB.later r);have Y:=af (c.later r c.1);clear q r U Q C B TB c m0 m1 m2 m3 m4 m5 m6 m7;have rA:=Y.cells (n:=8) rfl;have bA:=T9.2.2.cells (n:=8) rfl;have gA:=T9.2.2.frees (n:=8) rfl;have TZ:=af (Ng T9.1 (a06 _) (.string nm) (.int .i64 yy) (.int .i64 mo) (.int .i64 dd) (.int .i64 hh') (.int .i64 mi) (.int .i64 ss) (.string UT));have ZZ:=af (T9.2.2.set8 (.string nm) (.int .i64 yy) (.int .i64 mo) (.int .i64 dd) (.int .i64 hh') (.int .i64 mi) (.int .i64 ss) (.string UT));go_wp2;have zA:=ZZ.cells (n:=8) rfl;refine a0x (v:=.tuple #[.agg #[nm,yy,mo,dd,hh',mi,ss,UT],.bool true]) (by simp[results,results65,go_sem,zA]) rfl ⟨J,TZ⟩
  all_goals intro F
  all_goals have J:Hid (Ending.returned (.tuple #[.agg (),.bool false])=RES):=by show _=_;rw[←ae k,a0e (by rw[F];decide)];rfl
  all_goals clear F
  rintro rfl;rotate_left;rintro rfl rfl;rotate_left;rintro rfl rfl rfl;rotate_left;rintro rfl rfl rfl G H;rotate_left;rintro rfl rfl rfl G H R T;rotate_left;all_goals(
   have U:=cell_regrown (TB.2.1.cell 4 _ rfl);have Q:=cell_regrown (TB.2.1.cell 2 _ rfl);have m0:=cell_regrown (c.cell 0 _ rfl);have m1:=cell_regrown (c.cell 1 _ rfl);have m2:=cell_regrown (c.cell 2 _ rfl);have m3:=cell_regrown (c.cell 3 _ rfl);have m4:=cell_regrown (c.cell 4 _ rfl);have m5:=cell_regrown (c.cell 5 _ rfl);have m6:=cell_regrown (c.cell 6 _ rfl);have m7:=cell_regrown (c.cell 7 _ rfl);have C:=fun d os=>Calls.regrown_of (w:=wc) (d:=d) (os:=os) (X _ (aj TB.1 (below_regrown wc d os)));have B:=fun d os=>Calls.regrown_of (w:=wc) (d:=d) (os:=os) (y _);refine wp_region_quiet_below o (by kernel_rfl) ?_;repeat (quiet_step (first|exact C _ _|exact B _ _))
   refine a1w ?_;intro zw u;obtain⟨⟨M,osq⟩,q⟩:=u;have r:=below_regrown wc M osq;rw[←q]at r;have T9:=af (TB.later r);have Y:=af (c.later r c.1);clear q r U Q C B TB c m0 m1 m2 m3 m4 m5 m6 m7;have bA:=T9.2.2.cells (n:=8) rfl;have gA:=T9.2.2.frees (n:=8) rfl;have TZ:=af (Ng T9.1 (a06 _) (.string ⟨#[]⟩) (.int .i64 0) (.int .i64 0) (.int .i64 0) (.int .i64 0) (.int .i64 0) (.int .i64 0) (.string ⟨#[]⟩));have ZZ:=af (T9.2.2.set8 (.string ⟨#[]⟩) (.int .i64 0) (.int .i64 0) (.int .i64 0) (.int .i64 0) (.int .i64 0) (.int .i64 0) (.string ⟨#[]⟩));go_wp2;have zA:=ZZ.cells (n:=8) rfl;refine a0x (v:=.tuple #[.agg (),.bool false]) (by simp[results,results65,go_sem,zA]) rfl ⟨J,TZ⟩
  )
def UK(s:ByteArray):enB (wd s.data.toList 8 2) (wd s.data.toList 10 4) (wd s.data.toList 14 4) (wd s.data.toList 22 4) (nmB s) (bdB s)=((txO (wd s.data.toList 8 2) (bdB s)&&(decide (wd s.data.toList 14 4=aE 0 (txT (wd s.data.toList 8 2) (bdB s)).data.toList)&&decide (wd s.data.toList 22 4=(txT (wd s.data.toList 8 2) (bdB s)).size)))&&GB s (txT (wd s.data.toList 8 2) (bdB s)))/\(enB (wd s.data.toList 8 2) (wd s.data.toList 10 4) (wd s.data.toList 14 4) (wd s.data.toList 22 4) (nmB s) (bdB s)=true->enE (wd s.data.toList 10 4) (nmB s) (uxT (wd s.data.toList 8 2) (bdB s))=Lr s (txT (wd s.data.toList 8 2) (bdB s))):=by
 cases d:txO (wd s.data.toList 8 2) (bdB s)
 . simp[enB,d]
 .
  unfold enB enE Lr GB;rw[Ux d,d];have e:=Og (n:=(wd s.data.toList 10 4:Nat)) (by omega);cases f:gOk ((wd s.data.toList 10 4:Nat):Int)
  . rw[f]at e;refine⟨?_,by simp⟩;unfold gQ;rw[←e];simp
  .
   simp only[zz,a0Y];refine⟨?_,fun _=>trivial⟩;rw[a2h];simp only[a0k,a0v,a29];constructor
   . rintro⟨a,b,c⟩;exact⟨⟨c.symm,b.symm⟩,a⟩
   . rintro⟨⟨a,b⟩,c⟩;exact⟨c,b.symm,a.symm⟩
def NO{st i lg:Nat}{nm:ByteArray}(h:enB how st i lg nm b=true):b.size<=700:=by
 simp only[enB,a0k]at h;obtain⟨a,_,d,_⟩:=h;unfold txO qE at a;by_cases c:how=0
 .
  subst c;have e:uxT 0 b=b:=by simp[uxT,txT]
  rw[e]at d;have:=(dk d).2.1;omega
 .
  rw[a0e c]at a;by_cases f:how=8
  .
   rw[a0d f]at a;unfold cY at a;by_cases g:b.size<=700
   . exact g
   . rw[a0e g]at a;cases a
  . rw[a0e f]at a;cases a
def OQ(h:hdB s=true):rC s=if enB (wd s.data.toList 8 2) (wd s.data.toList 10 4) (wd s.data.toList 14 4) (wd s.data.toList 22 4) (nmB s) (bdB s)=true then .tuple #[enE (wd s.data.toList 10 4) (nmB s) (uxT (wd s.data.toList 8 2) (bdB s)),.int .i64 ((30+wd s.data.toList 26 2+wd s.data.toList 18 4:Nat):Int),.bool true]else .tuple #[noE,.int .i64 0,.bool false]:=by
 obtain⟨e1,e2⟩:=UK s;rw[OR h,←e1];by_cases hb:enB (wd s.data.toList 8 2) (wd s.data.toList 10 4) (wd s.data.toList 14 4) (wd s.data.toList 22 4) (nmB s) (bdB s)=true
 . rw[a0d hb,a0d hb,e2 hb]
 . rw[a0e hb,a0e hb]
