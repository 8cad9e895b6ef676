/- Texts. -/
import Derived.Test.YtemopnjckikkaaaGreatDoorM39
import Derived.Test.YtemopnjckikkaaaGreatDoorM37
set_option linter.all false
set_option maxRecDepth 100000
set_option maxHeartbeats 12800000
namespace Go.Proofs.YtemopnjckikkaaaGreatDoor
open Go.Proofs.Tryz
open Go.RowKit Corb
variable {A B c g how:Nat}{E:World->Prop}{N:Nat->Prop}{W W' w:World}{b s:ByteArray}{vs z:List Value}
def RdS(w W:World):Prop:=Below w.heap.size w W/\Blk W w.heap.size [.string ⟨#[]⟩,.int .i64 0,.int .i64 0,.int .i64 0,.int .i64 0,.int .i64 0,.int .i64 0,.string ⟨#[]⟩]
def RdS.later(k:RdS w W)(hb:Below W.heap.size W W'):RdS w W':=⟨aj k.1 hb,k.2.later hb k.2.1⟩
def RdS.drew(k:RdS w W):RdS w W.drew:=⟨k.1.drew,k.2.drew⟩
def RdS.set(k:RdS w W)(a:w.heap.size<A)(o:Nat)(v:Value):RdS w (W.setCell ⟨A,o,none⟩ v):=⟨ai k.1 (a0r a) _,k.2.set_other v (by omega)⟩
def PZ(h:hdB s=false):pN s = .tuple #[noE,.int .i64 0,.bool false]:=by simp[pN,gT,h]
def tc(h:¬ (dQ s 0 4=67324752/\dQ s 4 2=20/\dQ s 6 2=0/\dQ s 28 2=0)):pN s = .tuple #[noE,.int .i64 0,.bool false]:=by
 refine PZ ?_;cases hb:hdB s
 . rfl
 . obtain⟨a,h2,b⟩:=kK.1 hb;simp only[mC,a0k,a0s]at h2;obtain⟨e1,e2,e3,e4⟩:=h2;refine absurd ?_ h;rw[gV (by omega),gV (by omega),gV (by omega),gV (by omega),e1,e2,e3,e4];exact⟨rfl,rfl,rfl,rfl⟩
def Lq(c:dQ s 0 4=67324752)(d:dQ s 4 2=20)(e:dQ s 6 2=0)(b:dQ s 28 2=0):30<=s.size/\mC s.data.toList=true:=by
 have a:28+2<=s.size:=by
  by_cases h:28+2<=s.size
  . exact h
  . rw[y7 h]at b;omega
 rw[gV (by omega)]at c d e b;refine⟨a,?_⟩;simp only[mC,a0k,a0s];omega
def QT(h:¬ 30+wd s.data.toList 26 2+wd s.data.toList 18 4<=s.size):pN s = .tuple #[noE,.int .i64 0,.bool false]:=PZ (by simp[hdB,h])
def LV(h:hdB s=true):pN s=if ((txO (wd s.data.toList 8 2) (bdB s)&&(decide (wd s.data.toList 14 4=aE 0 (txT (wd s.data.toList 8 2) (bdB s)).data.toList)&&decide (wd s.data.toList 22 4=(txT (wd s.data.toList 8 2) (bdB s)).size)))&&Eb s (txT (wd s.data.toList 8 2) (bdB s)))=true then .tuple #[IL s (txT (wd s.data.toList 8 2) (bdB s)),.int .i64 ((30+wd s.data.toList 26 2+wd s.data.toList 18 4:Nat):Int),.bool true]else .tuple #[noE,.int .i64 0,.bool false]:=by
 unfold pN gT;rw[a0c h,QU];cases a:txO (wd s.data.toList 8 2) (bdB s)
 . simp
 .
  simp only[a0S,Oo];by_cases c1:wd s.data.toList 14 4=aE 0 (txT (wd s.data.toList 8 2) (bdB s)).data.toList
  .
   by_cases c2:wd s.data.toList 22 4=(txT (wd s.data.toList 8 2) (bdB s)).size
   . by_cases c3:Eb s (txT (wd s.data.toList 8 2) (bdB s))=true<;>simp[c1,c2,c3]
   . simp[c2]
  . simp[c1]
def RdP(s:ByteArray)(e:Ending):Prop:=∃n y mo d h mi c t k ok,e = .returned (.tuple #[.agg #[.string n,.int .i64 y,.int .i64 mo,.int .i64 d,.int .i64 h,.int .i64 mi,.int .i64 c,.string t],.int .i64 k,.bool ok])/\pN s=if ok=true then .tuple #[.agg #[.string n,.int .i64 y,.int .i64 mo,.int .i64 d,.int .i64 h,.int .i64 mi,.int .i64 c,.string t],.int .i64 k,.bool true]else .tuple #[noE,.int .i64 0,.bool false]
def uF(s:ByteArray)(w:World)(hs:s.size<=1048576) :
  Calls prog 20 #[s] w fun e w'=>RdP s e/\Below w.heap.size w w':=by
 have o:=cC
 have l:Hid (∀W,CD 15 #[s,.int .i64 26,.int .i64 2] W (.int .i64 (dQ s 26 2))):=fun W=>dG s 26 2 W (by decide) (by decide) (by omega);have k:Hid (∀W,CD 15 #[s,.int .i64 18,.int .i64 4] W (.int .i64 (dQ s 18 4))):=fun W=>dG s 18 4 W (by decide) (by decide) (by omega);have u:Hid (∀W,CD 15 #[s,.int .i64 0,.int .i64 4] W (.int .i64 (dQ s 0 4))):=fun W=>dG s 0 4 W (by decide) (by decide) (by omega);have C:Hid (∀W,CD 15 #[s,.int .i64 4,.int .i64 2] W (.int .i64 (dQ s 4 2))):=fun W=>dG s 4 2 W (by decide) (by decide) (by omega);have M:Hid (∀W,CD 15 #[s,.int .i64 6,.int .i64 2] W (.int .i64 (dQ s 6 2))):=fun W=>dG s 6 2 W (by decide) (by decide) (by omega);have z:Hid (∀W,CD 15 #[s,.int .i64 28,.int .i64 2] W (.int .i64 (dQ s 28 2))):=fun W=>dG s 28 2 W (by decide) (by decide) (by omega);have F:Hid (∀W,CD 15 #[s,.int .i64 10,.int .i64 4] W (.int .i64 (dQ s 10 4))):=fun W=>dG s 10 4 W (by decide) (by decide) (by omega);have C8:Hid (∀W,CD 15 #[s,.int .i64 8,.int .i64 2] W (.int .i64 (dQ s 8 2))):=fun W=>dG s 8 2 W (by decide) (by decide) (by omega);have O:Hid (∀W,CD 15 #[s,.int .i64 14,.int .i64 4] W (.int .i64 (dQ s 14 4))):=fun W=>dG s 14 4 W (by decide) (by decide) (by omega);have P:Hid (∀W,CD 15 #[s,.int .i64 22,.int .i64 4] W (.int .i64 (dQ s 22 4))):=fun W=>dG s 22 4 W (by decide) (by decide) (by omega);have T0:Hid (RdS w (w.alloc (.cells () 49))):=⟨bx,aP w () 49⟩;by_cases q:dQ s 0 4=67324752
 .
  by_cases t:dQ s 4 2=20
  .
   by_cases B:dQ s 6 2=0
   .
    by_cases L:dQ s 28 2=0
    .
     obtain⟨H,J⟩:=Lq q t B L;rw[q]at u;rw[t]at C;rw[B]at M;rw[L]at z;rw[gV (by omega)]at l k F C8 O P;have X:=jg s.data.toList 26;have U:=eU s.data.toList 18;have Z:=eU s.data.toList 10;have I:=jg s.data.toList 8;by_cases r:30+wd s.data.toList 26 2+wd s.data.toList 18 4<=s.size
     .
      have a5:=ll (s:=s) (by omega);have ao:=zH (s:=s) r;have HL:=af (LV (kK.2 ⟨H,J,r⟩));have b5:s.extract 30 (30+wd s.data.toList 26 2)=nmB s:=rfl;have b6:s.extract (30+wd s.data.toList 26 2) (30+wd s.data.toList 26 2+wd s.data.toList 18 4)=bdB s:=rfl;have CT:Hid (∀W,CD 42 #[.int .i64 (wd s.data.toList 8 2:Nat),.string (bdB s)] W (.tuple #[.string (txT (wd s.data.toList 8 2) (bdB s)),.bool (txO (wd s.data.toList 8 2) (bdB s))])):=fun W=>ED _ _ W (by omega) I;have a8:=Dg (how:=wd s.data.toList 8 2) (b:=bdB s) (by omega);have CC:=af (fun W=>sx (txT (wd s.data.toList 8 2) (bdB s)) W (by unfold maxLen;omega));have CE:=af (fun W=>jf (nmB s) (gY (wd s.data.toList 10 4:Nat)) (gM (wd s.data.toList 10 4:Nat)) (gD (wd s.data.toList 10 4:Nat)) (gH (wd s.data.toList 10 4:Nat)) (gI (wd s.data.toList 10 4:Nat)) (gS (wd s.data.toList 10 4:Nat)) (txT (wd s.data.toList 8 2) (bdB s)) W (by omega) (by omega));have CG:Hid (∀W,CD 41 #[.int .i64 (wd s.data.toList 10 4:Nat)] W (.agg #[.int .i64 (gY (wd s.data.toList 10 4:Nat)),.int .i64 (gM (wd s.data.toList 10 4:Nat)),.int .i64 (gD (wd s.data.toList 10 4:Nat)),.int .i64 (gH (wd s.data.toList 10 4:Nat)),.int .i64 (gI (wd s.data.toList 10 4:Nat)),.int .i64 (gS (wd s.data.toList 10 4:Nat))])):=fun W=>Is _ W (by omega) (by omega);unfold IL Eb at HL;have a0:aE 0 (txT (wd s.data.toList 8 2) (bdB s)).data.toList<4294967296:=gp _ _ (by omega);generalize al:txO (wd s.data.toList 8 2) (bdB s)=OK at *
      generalize an:txT (wd s.data.toList 8 2) (bdB s)=TX at *
      generalize ac:bdB s=BD at *
      generalize ad:nmB s=NM at *
      generalize ba:gY (wd s.data.toList 10 4:Nat)=yy at *
      generalize a4:gM (wd s.data.toList 10 4:Nat)=mo at *
      generalize a1:gD (wd s.data.toList 10 4:Nat)=dd at *
      generalize a2:gH (wd s.data.toList 10 4:Nat)=hh at *
      generalize a3:gI (wd s.data.toList 10 4:Nat)=mi at *
      generalize a6:gS (wd s.data.toList 10 4:Nat)=ss at *
      generalize g9 NM yy mo dd hh mi ss TX=EB at *
      generalize aE 0 TX.data.toList=cr at *
      generalize wd s.data.toList 26 2=NL at *
      generalize wd s.data.toList 18 4=LG at *
      generalize wd s.data.toList 10 4=ST at *
      generalize wd s.data.toList 8 2=HW at *
      generalize wd s.data.toList 14 4=CR at *
      generalize wd s.data.toList 22 4=LN at *
      have bc:0<=30+(NL:Int):=by omega
      have Y:decide ((NL:Int)<0)=false:=by simp
      have V:decide ((LG:Int)<0)=false:=by simp
      have E:30+(NL:Int)+(LG:Int)<=(s.size:Int):=by omega
      have b3:IntKind.i64.wrap (30+(NL:Int))=30+(NL:Int):=by rw[a0T];omega
      have b4:IntKind.i64.wrap (30+(NL:Int)+(LG:Int))=30+(NL:Int)+(LG:Int):=by rw[a0T];omega
      have bk:(30+(NL:Int)).toNat=30+NL:=by omega
      have bl:(30+(NL:Int)+(LG:Int)).toNat=30+NL+LG:=by omega
      have bs:30<=30+(NL:Int):=by omega
      have b0:30+(NL:Int)<=30+(NL:Int)+(LG:Int):=by omega
      have b1:30+(NL:Int)<=(s.size:Int):=by omega
      have b2:decide ((s.size:Int)<30+(NL:Int)+(LG:Int))=false:=by simpa using E
      have be:(cr:Int)<4294967296:=by omega
      clear q t B L H J al an ac ad ba a4 a1 a2 a3 a6 X U Z I a0 a5 ao a8 r;go_enter func20,ntmps20;go_wp2_with fail;refine(l _).mono ?_;rintro e x1⟨rfl,hb⟩;have T1:=af (T0.later hb);clear hb T0;go_wp2_with fail;refine(k _).mono ?_;rintro e x2⟨rfl,hb⟩;have T2:=af (T1.later hb);clear hb T1;go_wp2_with fail;refine(u _).mono ?_;rintro e x3⟨rfl,hb⟩;have T3:=af (T2.later hb);clear hb T2;go_wp2_with fail;refine(C _).mono ?_;rintro e x4⟨rfl,hb⟩;have T4:=af (T3.later hb);clear hb T3;go_wp2_with fail;refine(M _).mono ?_;rintro e x5⟨rfl,hb⟩;have T5:=af (T4.later hb);clear hb T4;go_wp2_with fail;refine(z _).mono ?_;rintro e x6⟨rfl,hb⟩;have T6:=af (T5.later hb);clear hb T5;go_wp2_with fail;go_cut[8] (fun v wx=>∃A,v = .pointer (some ⟨A,0,none⟩)/\w.heap.size<A/\RdS w wx/\Blk wx A [.string NM,.int .i64 yy,.int .i64 mo,.int .i64 dd,.int .i64 hh,.int .i64 mi,.int .i64 ss,.string ⟨#[]⟩])
      case first=>
       refine wp_region_held_drew (S:=fun _=>True) o trivial (fun _=>?_);refine ag 0 (.string s) rfl (fun W c=>by go_simp) trivial ?_;refine ag 1 (.int .i64 (NL:Nat)) rfl (fun W c=>by go_simp) trivial ?_;refine ag 2 (.int .i64 (30+(NL:Int))) rfl (fun W c=>by go_simp) trivial ?_;refine ag 3 (.string NM) rfl (fun W c=>by go_simp) trivial ?_;refine ag 4 (.string s) rfl (fun W c=>by go_simp) trivial ?_;have T7:=af (ae T6).drew;clear T6;generalize x6.drew=W7 at *
       refine wpAnyH_ready (rs:=[5,8]) (by kernel_rfl) (by simp) ?_;refine AllReadyH.cons rfl (fun K a=>?_) (AllReadyH.cons rfl (fun K a=>?_) (AllReadyH.nil))
       .
        go_simp;go_at_call 15;refine(F W7).mono ?_;rintro e W8⟨rfl,g⟩;have T8:=af (T7.later g);refine Shut.out a _ _ trivial (fun _=>?_);clear a K g T7;refine wpAnyH_ready (rs:=[6,8]) (by kernel_rfl) (by simp) ?_;refine AllReadyH.cons rfl (fun K a=>?_) (AllReadyH.cons rfl (fun K a=>?_) (AllReadyH.nil))
        .
         go_simp;go_at_call 41;refine(CG W8).mono ?_;rintro e W9⟨rfl,g⟩;have T9:=af (T8.later g);refine Shut.out a _ _ trivial (fun _=>?_);clear a K g T8;refine ag 7 (.agg #[NM,yy,mo,dd,hh,mi,ss,.string ⟨#[]⟩]) rfl (fun W c=>by go_simp) trivial ?_;refine ah 8 fun K a=>?_;go_simp;have g:Below W9.heap.size W9 (W9.alloc (.cells () 49)):=bx;have T10:=af (T9.later g);have i:Hid (Blk (W9.alloc (.cells () 49)) W9.heap.size [.string ⟨#[]⟩,.int .i64 0,.int .i64 0,.int .i64 0,.int .i64 0,.int .i64 0,.int .i64 0,.string ⟨#[]⟩]):=aP _ _ _;have j:w.heap.size<W9.heap.size:=T9.2.1;refine Shut.out a _ _ trivial (fun _=>?_);clear a K;obtain⟨A,hAe⟩:∃x,W9.heap.size=x:=⟨_,rfl⟩;obtain⟨W10,hW10⟩:∃x,W9.alloc (.cells () 49)=x:=⟨_,rfl⟩;rw[hW10]at T10;rw[hAe,hW10]at i;rw[hAe]at j;rw[hAe,hW10];clear g hAe hW10 T9;refine ah 9 fun K a=>?_;have aA:=i.cells (n:=8) rfl;have fA:=i.frees (n:=8) rfl;go_simp;have ZX:=af (wn T10.1 (a0r j) i (.string NM) (.int .i64 yy) (.int .i64 mo) (.int .i64 dd) (.int .i64 hh) (.int .i64 mi) (.int .i64 ss) (.string ⟨#[]⟩));have OX:=af (oM T10.2 (a1v j) (.string NM) (.int .i64 yy) (.int .i64 mo) (.int .i64 dd) (.int .i64 hh) (.int .i64 mi) (.int .i64 ss) (.string ⟨#[]⟩));clear aA fA;refine Shut.out a _ _ trivial (fun _=>?_);clear a K;refine wpAnyH_done (by kernel_rfl) ?_ _;go_wp2_with fail
         go_meet
         case rel=>exact⟨A,rfl,j,⟨ZX.1,OX⟩,ZX.2⟩
        .
         go_simp;have g:Below W8.heap.size W8 (W8.alloc (.cells () 49)):=bx;have T9:=af (T8.later g);have p:Hid (Blk (W8.alloc (.cells () 49)) W8.heap.size [.string ⟨#[]⟩,.int .i64 0,.int .i64 0,.int .i64 0,.int .i64 0,.int .i64 0,.int .i64 0,.string ⟨#[]⟩]):=aP _ _ _;have j:w.heap.size<W8.heap.size:=T8.2.1;refine Shut.out a _ _ trivial (fun _=>?_);clear a K;obtain⟨A,hAe⟩:∃x,W8.heap.size=x:=⟨_,rfl⟩;obtain⟨W9,hW9⟩:∃x,W8.alloc (.cells () 49)=x:=⟨_,rfl⟩;rw[hW9]at T9;rw[hAe,hW9]at p;rw[hAe]at j;rw[hAe,hW9];clear g hAe hW9 T8;refine ah 6 fun K a=>?_;go_simp;go_at_call 41;refine(CG W9).mono ?_;rintro e W10⟨rfl,g⟩;have T10:=af (T9.later g);have i:=af (p.later g p.1);refine Shut.out a _ _ trivial (fun _=>?_);clear a K g T9 p;refine ag 7 (.agg #[NM,yy,mo,dd,hh,mi,ss,.string ⟨#[]⟩]) rfl (fun W c=>by go_simp) trivial ?_;refine ah 9 fun K a=>?_;have aA:=i.cells (n:=8) rfl;have fA:=i.frees (n:=8) rfl;go_simp;have ZX:=af (wn T10.1 (a0r j) i (.string NM) (.int .i64 yy) (.int .i64 mo) (.int .i64 dd) (.int .i64 hh) (.int .i64 mi) (.int .i64 ss) (.string ⟨#[]⟩));have OX:=af (oM T10.2 (a1v j) (.string NM) (.int .i64 yy) (.int .i64 mo) (.int .i64 dd) (.int .i64 hh) (.int .i64 mi) (.int .i64 ss) (.string ⟨#[]⟩));clear aA fA;refine Shut.out a _ _ trivial (fun _=>?_);clear a K;refine wpAnyH_done (by kernel_rfl) ?_ _;go_wp2_with fail
         go_meet
         case rel=>exact⟨A,rfl,j,⟨ZX.1,OX⟩,ZX.2⟩
       .
        go_simp;have g:Below W7.heap.size W7 (W7.alloc (.cells () 49)):=bx;have T8:=af (T7.later g);have y:Hid (Blk (W7.alloc (.cells () 49)) W7.heap.size [.string ⟨#[]⟩,.int .i64 0,.int .i64 0,.int .i64 0,.int .i64 0,.int .i64 0,.int .i64 0,.string ⟨#[]⟩]):=aP _ _ _;have j:w.heap.size<W7.heap.size:=T7.2.1;refine Shut.out a _ _ trivial (fun _=>?_);clear a K;obtain⟨A,hAe⟩:∃x,W7.heap.size=x:=⟨_,rfl⟩;obtain⟨W8,hW8⟩:∃x,W7.alloc (.cells () 49)=x:=⟨_,rfl⟩;rw[hW8]at T8;rw[hAe,hW8]at y;rw[hAe]at j;rw[hAe,hW8];clear g hAe hW8 T7;refine ah 5 fun K a=>?_;go_simp;go_at_call 15;refine(F W8).mono ?_;rintro e W9⟨rfl,g⟩;have T9:=af (T8.later g);have p:=af (y.later g y.1);refine Shut.out a _ _ trivial (fun _=>?_);clear a K g T8 y;refine ah 6 fun K a=>?_;go_simp;go_at_call 41;refine(CG W9).mono ?_;rintro e W10⟨rfl,g⟩;have T10:=af (T9.later g);have i:=af (p.later g p.1);refine Shut.out a _ _ trivial (fun _=>?_);clear a K g T9 p;refine ag 7 (.agg #[NM,yy,mo,dd,hh,mi,ss,.string ⟨#[]⟩]) rfl (fun W c=>by go_simp) trivial ?_;refine ah 9 fun K a=>?_;have aA:=i.cells (n:=8) rfl;have fA:=i.frees (n:=8) rfl;go_simp;have ZX:=af (wn T10.1 (a0r j) i (.string NM) (.int .i64 yy) (.int .i64 mo) (.int .i64 dd) (.int .i64 hh) (.int .i64 mi) (.int .i64 ss) (.string ⟨#[]⟩));have OX:=af (oM T10.2 (a1v j) (.string NM) (.int .i64 yy) (.int .i64 mo) (.int .i64 dd) (.int .i64 hh) (.int .i64 mi) (.int .i64 ss) (.string ⟨#[]⟩));clear aA fA;refine Shut.out a _ _ trivial (fun _=>?_);clear a K;refine wpAnyH_done (by kernel_rfl) ?_ _;go_wp2_with fail
        go_meet
        case rel=>exact⟨A,rfl,j,⟨ZX.1,OX⟩,ZX.2⟩
      case rest=>
       obtain⟨A,rfl,j,TA',R⟩:=hcut;have TA:=af TA';have RA:=af R;clear TA' R T6;go_wp2_with fail;have c8:=fun d os=>Calls.regrown_of (w:=wc) (d:=d) (os:=os) (C8 _);have cT:=fun d os=>Calls.regrown_of (w:=wc) (d:=d) (os:=os) (CT _);refine wp_region_quiet_below o (by kernel_rfl) ?_;repeat (quiet_step (first|exact c8 _ _|exact cT _ _))
       refine wpQuiet_nil ?_;intro zw a9;obtain⟨⟨dq,osq⟩,aa⟩:=a9;have HZ:=below_regrown wc dq osq;rw[←aa]at HZ;have T7:=af (TA.later HZ);have R7:=af (RA.later HZ RA.1);clear aa HZ c8 cT TA RA;have a7:=R7.cell 7 _ rfl;have f7:=R7.free 7 (by simp)
       go_upto_region 9 with fail
       have T8:=af (T7.set j 7 (.string TX));have y:=af (R7.set 7 (.string TX));clear a7 f7 T7 R7;generalize zw.setCell ⟨A,7,none⟩ (.string TX)=Z8 at *
       go_cut[10] (fun v wx=>v = .bool (OK&&(decide (CR=cr)&&decide (LN=TX.size)))/\RdS w wx/\Blk wx A [.string NM,.int .i64 yy,.int .i64 mo,.int .i64 dd,.int .i64 hh,.int .i64 mi,.int .i64 ss,.string TX])
       case first=>
        cases OK
        .
         go_wp2_with fail
         go_meet
         case rel=>exact⟨rfl,T8,y⟩
        .
         go_wp2_with fail;refine(O _).mono ?_;rintro e x9⟨rfl,hb⟩;have T9:=af (T8.later hb);have p:=af (y.later hb y.1);clear hb T8 y;go_wp2_with fail;refine(CC _).mono ?_;rintro e x10⟨rfl,rfl⟩;by_cases k1:CR=cr
         .
          subst k1;go_wp2_with fail;refine(P _).mono ?_;rintro e x11⟨rfl,hb⟩;have T11:=af (T9.later hb);have Q:=af (p.later hb p.1);clear hb T9 p;by_cases k2:LN=TX.size
          .
           have ab:(LN:Int)=(TX.size:Int):=by omega
           go_wp2_with fail
           go_meet
           case rel=>exact⟨by simp[k2],T11,Q⟩
          .
           have ab:¬ (LN:Int)=(TX.size:Int):=by omega
           go_wp2_with fail
           go_meet
           case rel=>exact⟨by simp[k2,ab],T11,Q⟩
         .
          have b7:¬ (CR:Int)=(cr:Int):=by omega
          go_wp2_with fail
          go_meet
          case rel=>exact⟨by simp[k1],T9,p⟩
       case rest=>
        obtain⟨rfl,TB',T⟩:=hcut;have TB:=af TB';have N:=af T;clear TB' T T8 y;have m:Hid (pN s=if ((OK&&(decide (CR=cr)&&decide (LN=TX.size)))&&EB)=true then .tuple #[.agg #[NM,yy,mo,dd,hh,mi,ss,TX],.int .i64 (30+(NL:Int)+(LG:Int)),.bool true]else .tuple #[noE,.int .i64 0,.bool false]):=by
         have:=ae HL;show _=_;rw[this,Int.natCast_add,Int.natCast_add]
         congr 1
        generalize (OK&&(decide (CR=cr)&&decide (LN=TX.size)))=OB at *
        go_wp2_with fail;cases OB
        .
         have m:=af (show pN s = .tuple #[noE,.int .i64 0,.bool false]from ae m);refine wp_region_held_drew (S:=fun W=>Blk W A [.string NM,.int .i64 yy,.int .i64 mo,.int .i64 dd,.int .i64 hh,.int .i64 mi,.int .i64 ss,.string TX]) o N.drew (fun f=>?_);refine ag 0 (.agg #[NM,yy,mo,dd,hh,mi,ss,TX]) rfl (fun W c=>by have sA:=Blk.cells c (n:=8) rfl;go_simp) f ?_;refine ag 1 (.int .i64 (NL:Nat)) rfl (fun W c=>by go_simp) f ?_;refine ag 2 (.int .i64 (30+(NL:Int))) rfl (fun W c=>by go_simp) f ?_;refine ag 3 (.int .i64 (LG:Nat)) rfl (fun W c=>by go_simp) f ?_;refine ag 4 (.int .i64 (30+(NL:Int)+(LG:Int))) rfl (fun W c=>by go_simp) f ?_;refine ag 5 (.bool false) rfl (fun W c=>by go_simp) f ?_;refine ag 6 (.bool false) rfl (fun W c=>by go_simp) f ?_;refine ah 7 fun K a=>?_;go_simp;refine Shut.out a _ _ f (fun f=>?_);clear a K;refine ah 8 fun K a=>?_;go_simp;refine Shut.out a _ _ f (fun f=>?_);clear a K;refine ag 9 (.bool false) rfl (fun W c=>by go_simp) f ?_;have TD:=af (ae TB).drew;have RD:=af (ae N).drew;clear TB N;generalize wc.drew=V1 at *
         refine ah 10 fun K a=>?_;have D:=TD.2.cells (n:=8) rfl;have gA:=TD.2.frees (n:=8) rfl;go_simp;have ZZ:=af (wn TD.1 (a0a _) TD.2 (.string NM) (.int .i64 yy) (.int .i64 mo) (.int .i64 dd) (.int .i64 hh) (.int .i64 mi) (.int .i64 ss) (.string TX));have G:=af (oM RD (a1O j) (.string NM) (.int .i64 yy) (.int .i64 mo) (.int .i64 dd) (.int .i64 hh) (.int .i64 mi) (.int .i64 ss) (.string TX));clear D gA;refine Shut.out a _ _ G (fun f=>?_);clear a K;refine ah 11 fun K a=>?_;go_simp;refine Shut.out a _ _ G (fun f=>?_);clear a K;refine ah 12 fun K a=>?_;go_simp;refine Shut.out a _ _ G (fun f=>?_);clear a K;refine wpAnyH_done (by kernel_rfl) ?_ _;go_wp2;have zA:=ZZ.2.cells (n:=8) rfl;refine a0C (v:=.tuple #[.agg #[NM,yy,mo,dd,hh,mi,ss,TX],.int .i64 (30+(NL:Int)+(LG:Int)),.bool false]) (by simp[results,results20,go_sem,zA]) rfl ⟨⟨_,_,_,_,_,_,_,_,_,_,rfl,?_⟩,ZZ.1⟩;exact m
        .
         refine wp_region_held_drew (S:=fun W=>Blk W A [.string NM,.int .i64 yy,.int .i64 mo,.int .i64 dd,.int .i64 hh,.int .i64 mi,.int .i64 ss,.string TX]) o N.drew (fun f=>?_);refine ag 0 (.agg #[NM,yy,mo,dd,hh,mi,ss,TX]) rfl (fun W c=>by have sA:=Blk.cells c (n:=8) rfl;go_simp) f ?_;refine ag 1 (.int .i64 (NL:Nat)) rfl (fun W c=>by go_simp) f ?_;refine ag 2 (.int .i64 (30+(NL:Int))) rfl (fun W c=>by go_simp) f ?_;refine ag 3 (.int .i64 (LG:Nat)) rfl (fun W c=>by go_simp) f ?_;refine ag 4 (.int .i64 (30+(NL:Int)+(LG:Int))) rfl (fun W c=>by go_simp) f ?_;refine ag 5 (.bool true) rfl (fun W c=>by go_simp) f ?_;refine ag 6 (.bool true) rfl (fun W c=>by go_simp) f ?_;have sA:=Blk.cells f (n:=8) rfl;refine ah 7 fun K a=>?_;go_simp;refine Shut.out a _ _ f (fun f=>?_);clear a K sA;have TC:=af (ae TB).drew;have RC:=af (ae N).drew;clear TB N;generalize wc.drew=V0 at *
         refine ah 8 fun K a=>?_;go_simp;go_at_call 37;refine(CE V0).mono ?_;rintro e V1⟨rfl,g⟩;have TD:=af (TC.later g);have RD:=af (RC.later g RC.1);refine Shut.out a _ _ RD (fun f=>?_);clear a K g TC RC;refine ag 9 (.bool EB) rfl (fun W c=>by go_simp) f ?_;refine ah 10 fun K a=>?_;have D:=TD.2.cells (n:=8) rfl;have gA:=TD.2.frees (n:=8) rfl;go_simp;have ZZ:=af (wn TD.1 (a0a _) TD.2 (.string NM) (.int .i64 yy) (.int .i64 mo) (.int .i64 dd) (.int .i64 hh) (.int .i64 mi) (.int .i64 ss) (.string TX));have G:=af (oM RD (a1O j) (.string NM) (.int .i64 yy) (.int .i64 mo) (.int .i64 dd) (.int .i64 hh) (.int .i64 mi) (.int .i64 ss) (.string TX));clear D gA;refine Shut.out a _ _ G (fun f=>?_);clear a K;refine ah 11 fun K a=>?_;go_simp;refine Shut.out a _ _ G (fun f=>?_);clear a K;refine ah 12 fun K a=>?_;go_simp;refine Shut.out a _ _ G (fun f=>?_);clear a K;refine wpAnyH_done (by kernel_rfl) ?_ _;go_wp2;have zA:=ZZ.2.cells (n:=8) rfl;refine a0C (v:=.tuple #[.agg #[NM,yy,mo,dd,hh,mi,ss,TX],.int .i64 (30+(NL:Int)+(LG:Int)),.bool EB]) (by simp[results,results20,go_sem,zA]) rfl ⟨⟨_,_,_,_,_,_,_,_,_,_,rfl,?_⟩,ZZ.1⟩;exact m
     .
      have m:=af (QT (s:=s) r);generalize wd s.data.toList 26 2=NL at *
      generalize wd s.data.toList 18 4=LG at *
      have bd:(NL:Int)<65536:=by omega
      have bb:(LG:Int)<4294967296:=by omega
      have Y:decide ((NL:Int)<0)=false:=by simp
      have V:decide ((LG:Int)<0)=false:=by simp
      have E:(s.size:Int)<30+(NL:Int)+(LG:Int):=by omega
      clear q t B L H J r X U Z I;go_enter func20,ntmps20;go_wp2_with fail;refine(l _).mono ?_;rintro e x1⟨rfl,hb⟩;have T1:=af (T0.later hb);clear hb T0;go_wp2_with fail;refine(k _).mono ?_;rintro e x2⟨rfl,hb⟩;have T2:=af (T1.later hb);clear hb T1;go_wp2_with fail;refine(u _).mono ?_;rintro e x3⟨rfl,hb⟩;have T3:=af (T2.later hb);clear hb T2;go_wp2_with fail;refine(C _).mono ?_;rintro e x4⟨rfl,hb⟩;have T4:=af (T3.later hb);clear hb T3;go_wp2_with fail;refine(M _).mono ?_;rintro e x5⟨rfl,hb⟩;have T5:=af (T4.later hb);clear hb T4;go_wp2_with fail;refine(z _).mono ?_;rintro e x6⟨rfl,hb⟩;have T6:=af (T5.later hb);clear hb T5;have D:=T6.2.cells (n:=8) rfl;have gA:=T6.2.frees (n:=8) rfl;have ZZ:=af (wn T6.1 (a0a _) T6.2 (.string ⟨#[]⟩) (.int .i64 0) (.int .i64 0) (.int .i64 0) (.int .i64 0) (.int .i64 0) (.int .i64 0) (.string ⟨#[]⟩));go_wp2;have zA:=ZZ.2.cells (n:=8) rfl;refine a0C (v:=.tuple #[.agg (),.int .i64 0,.bool false]) (by simp[results,results20,go_sem,zA]) rfl ⟨⟨_,_,_,_,_,_,_,_,_,_,rfl,m⟩,ZZ.1⟩
    .
     have m:=af (tc (s:=s) (fun h=>L h.2.2.2));rw[q]at u;rw[t]at C;rw[B]at M;clear q t B;have qb:(dQ s 28 2 == 0)=false:=by simpa using L
     clear L;generalize dQ s 28 2=i3 at *
     generalize dQ s 26 2=i26 at *
     generalize dQ s 18 4=i18 at *
     go_enter func20,ntmps20;go_wp2_with fail;refine(l _).mono ?_;rintro e x1⟨rfl,hb⟩;have T1:=af (T0.later hb);clear hb T0;go_wp2_with fail;refine(k _).mono ?_;rintro e x2⟨rfl,hb⟩;have T2:=af (T1.later hb);clear hb T1;go_wp2_with fail;refine(u _).mono ?_;rintro e x3⟨rfl,hb⟩;have T3:=af (T2.later hb);clear hb T2;go_wp2_with fail;refine(C _).mono ?_;rintro e x4⟨rfl,hb⟩;have T4:=af (T3.later hb);clear hb T3;go_wp2_with fail;refine(M _).mono ?_;rintro e x5⟨rfl,hb⟩;have T5:=af (T4.later hb);clear hb T4;go_wp2_with fail;refine(z _).mono ?_;rintro e x6⟨rfl,hb⟩;have T6:=af (T5.later hb);clear hb T5;have D:=T6.2.cells (n:=8) rfl;have gA:=T6.2.frees (n:=8) rfl;have ZZ:=af (wn T6.1 (a0a _) T6.2 (.string ⟨#[]⟩) (.int .i64 0) (.int .i64 0) (.int .i64 0) (.int .i64 0) (.int .i64 0) (.int .i64 0) (.string ⟨#[]⟩));go_wp2;have zA:=ZZ.2.cells (n:=8) rfl;refine a0C (v:=.tuple #[.agg (),.int .i64 0,.bool false]) (by simp[results,results20,go_sem,zA]) rfl ⟨⟨_,_,_,_,_,_,_,_,_,_,rfl,m⟩,ZZ.1⟩
   .
    have m:=af (tc (s:=s) (fun h=>B h.2.2.1));rw[q]at u;rw[t]at C;clear q t;have qb:(dQ s 6 2 == 0)=false:=by simpa using B
    clear B;generalize dQ s 6 2=i2 at *
    generalize dQ s 26 2=i26 at *
    generalize dQ s 18 4=i18 at *
    go_enter func20,ntmps20;go_wp2_with fail;refine(l _).mono ?_;rintro e x1⟨rfl,hb⟩;have T1:=af (T0.later hb);clear hb T0;go_wp2_with fail;refine(k _).mono ?_;rintro e x2⟨rfl,hb⟩;have T2:=af (T1.later hb);clear hb T1;go_wp2_with fail;refine(u _).mono ?_;rintro e x3⟨rfl,hb⟩;have T3:=af (T2.later hb);clear hb T2;go_wp2_with fail;refine(C _).mono ?_;rintro e x4⟨rfl,hb⟩;have T4:=af (T3.later hb);clear hb T3;go_wp2_with fail;refine(M _).mono ?_;rintro e x5⟨rfl,hb⟩;have T5:=af (T4.later hb);clear hb T4;have D:=T5.2.cells (n:=8) rfl;have gA:=T5.2.frees (n:=8) rfl;have ZZ:=af (wn T5.1 (a0a _) T5.2 (.string ⟨#[]⟩) (.int .i64 0) (.int .i64 0) (.int .i64 0) (.int .i64 0) (.int .i64 0) (.int .i64 0) (.string ⟨#[]⟩));go_wp2;have zA:=ZZ.2.cells (n:=8) rfl;refine a0C (v:=.tuple #[.agg (),.int .i64 0,.bool false]) (by simp[results,results20,go_sem,zA]) rfl ⟨⟨_,_,_,_,_,_,_,_,_,_,rfl,m⟩,ZZ.1⟩
  .
   have m:=af (tc (s:=s) (fun h=>t h.2.1));rw[q]at u;clear q;have qb:(dQ s 4 2 == 20)=false:=by simpa using t
   clear t;generalize dQ s 4 2=i1 at *
   generalize dQ s 26 2=i26 at *
   generalize dQ s 18 4=i18 at *
   go_enter func20,ntmps20;go_wp2_with fail;refine(l _).mono ?_;rintro e x1⟨rfl,hb⟩;have T1:=af (T0.later hb);clear hb T0;go_wp2_with fail;refine(k _).mono ?_;rintro e x2⟨rfl,hb⟩;have T2:=af (T1.later hb);clear hb T1;go_wp2_with fail;refine(u _).mono ?_;rintro e x3⟨rfl,hb⟩;have T3:=af (T2.later hb);clear hb T2;go_wp2_with fail;refine(C _).mono ?_;rintro e x4⟨rfl,hb⟩;have T4:=af (T3.later hb);clear hb T3;have D:=T4.2.cells (n:=8) rfl;have gA:=T4.2.frees (n:=8) rfl;have ZZ:=af (wn T4.1 (a0a _) T4.2 (.string ⟨#[]⟩) (.int .i64 0) (.int .i64 0) (.int .i64 0) (.int .i64 0) (.int .i64 0) (.int .i64 0) (.string ⟨#[]⟩));go_wp2;have zA:=ZZ.2.cells (n:=8) rfl;refine a0C (v:=.tuple #[.agg (),.int .i64 0,.bool false]) (by simp[results,results20,go_sem,zA]) rfl ⟨⟨_,_,_,_,_,_,_,_,_,_,rfl,m⟩,ZZ.1⟩
 .
  have m:=af (tc (s:=s) (fun h=>q h.1));have qb:(dQ s 0 4 == 67324752)=false:=by simpa using q
  clear q;generalize dQ s 0 4=i0 at *
  generalize dQ s 26 2=i26 at *
  generalize dQ s 18 4=i18 at *
  go_enter func20,ntmps20;go_wp2_with fail;refine(l _).mono ?_;rintro e x1⟨rfl,hb⟩;have T1:=af (T0.later hb);clear hb T0;go_wp2_with fail;refine(k _).mono ?_;rintro e x2⟨rfl,hb⟩;have T2:=af (T1.later hb);clear hb T1;go_wp2_with fail;refine(u _).mono ?_;rintro e x3⟨rfl,hb⟩;have T3:=af (T2.later hb);clear hb T2;have D:=T3.2.cells (n:=8) rfl;have gA:=T3.2.frees (n:=8) rfl;have ZZ:=af (wn T3.1 (a0a _) T3.2 (.string ⟨#[]⟩) (.int .i64 0) (.int .i64 0) (.int .i64 0) (.int .i64 0) (.int .i64 0) (.int .i64 0) (.string ⟨#[]⟩));go_wp2;have zA:=ZZ.2.cells (n:=8) rfl;refine a0C (v:=.tuple #[.agg (),.int .i64 0,.bool false]) (by simp[results,results20,go_sem,zA]) rfl ⟨⟨_,_,_,_,_,_,_,_,_,_,rfl,m⟩,ZZ.1⟩
