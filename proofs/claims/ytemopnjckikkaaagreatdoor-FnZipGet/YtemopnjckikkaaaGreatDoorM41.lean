/- Texts. -/
import Derived.Test.YtemopnjckikkaaaGreatDoorM46
import Derived.Test.YtemopnjckikkaaaGreatDoorM47
set_option linter.all false
set_option maxRecDepth 100000
set_option maxHeartbeats 12800000
namespace Go.Proofs.YtemopnjckikkaaaGreatDoor
open Go.Proofs.Tryz
open Go.RowKit Corb
variable {A B c g how:Nat}{E:World->Prop}{N:Nat->Prop}{W W' w:World}{b s:ByteArray}{vs z:List Value}
def EnS(w:World)(vs:List Value)(W:World):Prop:=Below w.heap.size w W/\Blk W w.heap.size vs/\Blk W (w.heap.size+1) [.string ⟨#[]⟩,.int .i64 0,.int .i64 0,.int .i64 0,.int .i64 0,.int .i64 0,.int .i64 0,.string ⟨#[]⟩]
def EnS.later(k:EnS w vs W)(hb:Below W.heap.size W W'):EnS w vs W':=⟨aj k.1 hb,k.2.1.later hb k.2.1.1,k.2.2.later hb k.2.2.1⟩
def EnS.drew(k:EnS w vs W):EnS w vs W.drew:=⟨k.1.drew,k.2.1.drew,k.2.2.drew⟩
def EnS.set(k:EnS w vs W)(a:w.heap.size+1<A)(o:Nat)(v:Value):EnS w vs (W.setCell ⟨A,o,none⟩ v):=⟨ai k.1 (by omega) _,k.2.1.set_other v (by omega),k.2.2.set_other v (by omega)⟩
def EnS.set8(k:EnS w vs W)(a:w.heap.size+1<A)(a0 a1 a2 a3 a4 a5 a6 a7:Value):EnS w vs ((((((((W.setCell ⟨A,0,none⟩ a0).setCell ⟨A,1,none⟩ a1).setCell ⟨A,2,none⟩ a2).setCell ⟨A,3,none⟩ a3).setCell ⟨A,4,none⟩ a4).setCell ⟨A,5,none⟩ a5).setCell ⟨A,6,none⟩ a6).setCell ⟨A,7,none⟩ a7):=((((((((k.set a 0 a0).set a 1 a1).set a 2 a2).set a 3 a3).set a 4 a4).set a 5 a5).set a 6 a6).set a 7 a7)
def enB(how st cr lg:Nat)(nm b:ByteArray):Bool:=txO how b&&(gOk (st:Nat)&&(g9 nm (zz (gOk (st:Nat)) (gY (st:Nat))) (zz (gOk (st:Nat)) (gM (st:Nat))) (zz (gOk (st:Nat)) (gD (st:Nat))) (zz (gOk (st:Nat)) (gH (st:Nat))) (zz (gOk (st:Nat)) (gI (st:Nat))) (zz (gOk (st:Nat)) (gS (st:Nat))) (uxT how b)&&(decide ((uxT how b).size=lg)&&decide (aE 0 (uxT how b).data.toList=cr))))
def enE(st:Nat)(nm T:ByteArray):Value:=.agg #[nm,.int .i64 (zz (gOk (st:Nat)) (gY (st:Nat))),.int .i64 (zz (gOk (st:Nat)) (gM (st:Nat))),.int .i64 (zz (gOk (st:Nat)) (gD (st:Nat))),.int .i64 (zz (gOk (st:Nat)) (gH (st:Nat))),.int .i64 (zz (gOk (st:Nat)) (gI (st:Nat))),.int .i64 (zz (gOk (st:Nat)) (gS (st:Nat))),T]
def M5{P:Prop}(a b c:Bool)(x y u v:Nat)
  (g:(a&&(b&&(c&&(decide (x=y)&&decide (u=v)))))=false->a=false->P)
  (h2:(a&&(b&&(c&&(decide (x=y)&&decide (u=v)))))=false->a=true->b=false->P)
  (h:(a&&(b&&(c&&(decide (x=y)&&decide (u=v)))))=false->a=true->b=true->c=false->P)
  (i:(a&&(b&&(c&&(decide (x=y)&&decide (u=v)))))=false->a=true->b=true->c=true->((x:Int) == (y:Int))=false->((x:Int) != (y:Int))=true->P)
  (j:(a&&(b&&(c&&(decide (x=y)&&decide (u=v)))))=false->a=true->b=true->c=true->((x:Int) == (y:Int))=true->((x:Int) != (y:Int))=false->((u:Int) == (v:Int))=false->((u:Int) != (v:Int))=true->P)
  (k:(a&&(b&&(c&&(decide (x=y)&&decide (u=v)))))=true->a=true->b=true->c=true->((x:Int) == (y:Int))=true->((x:Int) != (y:Int))=false->((u:Int) == (v:Int))=true->((u:Int) != (v:Int))=false->P):P:=by
 have e:∀m n:Nat,((m:Int)=(n:Int))<->m=n:=fun m n=>by omega
 cases a
 . exact g (by simp) rfl
 cases b
 . exact h2 (by simp) rfl rfl
 cases c
 . exact h (by simp) rfl rfl rfl
 by_cases d:x=y
 .
  by_cases f:u=v
  . exact k (by simp[d,f]) rfl rfl rfl (by simp[d]) (by simp[d]) (by simp[f]) (by simp[f])
  . exact j (by simp[f]) rfl rfl rfl (by simp[d]) (by simp[d]) (by simp[e,f]) (by simp[e,f])
 . exact i (by simp[d]) rfl rfl rfl (by simp[e,d]) (by simp[e,d])
def r9(how st j pk lg:Nat)(nm b:ByteArray)(m:Int)(w:World)(hb:b.size<=1048576)(hh:how<65536)(h1:st<4294967296)(h2:j<4294967296)(h3:lg<4294967296)(hn:nm.size<=1048576)(N:w.cell? ⟨2,0,none⟩=some (.int .i64 m))(Z:ef w) :
  Calls prog 32 #[.agg #[how,st,j,pk,lg,nm,b]] w fun e w'=>e=Ending.returned (if enB how st j lg nm b=true then .tuple #[enE st nm (uxT how b),.bool true]else .tuple #[noE,.bool false])/\Below w.heap.size w w':=by
 have o:=cC
 have P:=Dl (how:=how) (b:=b) hb;have HM:=af N;have O:=af (World.block_lt_of_cell? _ _ N);have CM:=af (fun W (hb:Below w.heap.size w W)=>(hb.cell (p:=⟨2,0,none⟩) O).trans HM);have HO:=af (fun W (hb:Below w.heap.size w W)=>Z.later hb);have CU:=af (fun W (h:ef W)=>IF how (st:Int) (j:Int) (pk:Int) (lg:Int) nm b W hb hh h);have V:=af (fun W=>vz nm W (by omega));have y:=af (fun W=>rU (uxT how b) W (by unfold maxLen;omega));have CS:Hid (∀W,CD 59 #[st] W (.tuple #[.agg #[.int .i64 (zz (gOk (st:Nat)) (gY (st:Nat))),.int .i64 (zz (gOk (st:Nat)) (gM (st:Nat))),.int .i64 (zz (gOk (st:Nat)) (gD (st:Nat))),.int .i64 (zz (gOk (st:Nat)) (gH (st:Nat))),.int .i64 (zz (gOk (st:Nat)) (gI (st:Nat))),.int .i64 (zz (gOk (st:Nat)) (gS (st:Nat)))],.bool (gOk (st:Nat))])):=fun W=>qT _ W (WalkArith.wf_i64 (by omega));have X:=af (fun W (hb:Below w.heap.size w W)=>me nm (zz (gOk (st:Nat)) (gY (st:Nat))) (zz (gOk (st:Nat)) (gM (st:Nat))) (zz (gOk (st:Nat)) (gD (st:Nat))) (zz (gOk (st:Nat)) (gH (st:Nat))) (zz (gOk (st:Nat)) (gI (st:Nat))) (zz (gOk (st:Nat)) (gS (st:Nat))) (uxT how b) m W (by omega) (by omega) (CM _ hb));obtain⟨RES,hRES⟩:∃x,Ending.returned (if enB how st j lg nm b=true then .tuple #[enE st nm (uxT how b),.bool true]else .tuple #[noE,.bool false])=x:=⟨_,rfl⟩;rw[hRES];have k:=af hRES;clear hRES N Z;unfold enB enE at k;generalize txO how b=OK at *
 generalize uxT how b=UT at *
 generalize zz (gOk (st:Nat)) (gY (st:Nat))=yy at *
 generalize zz (gOk (st:Nat)) (gM (st:Nat))=mo at *
 generalize zz (gOk (st:Nat)) (gD (st:Nat))=dd at *
 generalize zz (gOk (st:Nat)) (gH (st:Nat))=hh' at *
 generalize zz (gOk (st:Nat)) (gI (st:Nat))=mi at *
 generalize zz (gOk (st:Nat)) (gS (st:Nat))=ss at *
 generalize gOk (st:Nat)=GO at *
 generalize g9 nm yy mo dd hh' mi ss UT=EB at *
 generalize aE 0 UT.data.toList=cu at *
 have T0:Hid (EnS w [.int .i64 (how:Nat),.int .i64 (st:Nat),.int .i64 (j:Nat),.int .i64 (pk:Nat),.int .i64 (lg:Nat),.string nm,.string b] ((w.alloc (.cells #[how,st,j,pk,lg,nm,b] 59)).alloc (.cells () 49))):=by
  have e1:=aP w #[how,st,j,pk,lg,nm,b] 59;have e2:=aP (w.alloc (.cells #[how,st,j,pk,lg,nm,b] 59)) () 49;have e3:(w.alloc (.cells #[how,st,j,pk,lg,nm,b] 59)).heap.size=w.heap.size+1:=by simp
  rw[e3]at e2;exact⟨bx.alloc (by rw[e3];exact a0Y _) _,e1.later bx (by simp),e2⟩
 clear hb hh P h1 h2 h3 hn;go_enter func32,ntmps32;go_wp2_with fail;refine(CU _ (ae HO _ (ae T0).1)).mono ?_;rintro e x1⟨rfl,D⟩;have T1:=af (T0.later D);clear D T0;have c1:=T1.2.1.cell 1 _ rfl;go_wp2_with fail;refine(CS _).mono ?_;rintro e x2⟨rfl,E⟩;have T2:=af (T1.later E);clear E T1 c1;have T3:=af (T2.later ((Below.refl x2.heap.size x2).alloc (a0a _) (.cells #[yy,mo,dd,hh',mi,ss] 47)));have S3:=af (aP x2 #[yy,mo,dd,hh',mi,ss] 47);clear T2;go_wp2_with fail;obtain⟨SB,hSB⟩:∃x,x2.heap.size=x:=⟨_,rfl⟩;obtain⟨X3,hX3⟩:∃x,x2.alloc (.cells #[yy,mo,dd,hh',mi,ss] 47)=x:=⟨_,rfl⟩;rw[hX3]at T3;rw[hSB,hX3]at S3;rw[hSB,hX3];clear hSB hX3;go_cut[8] (fun v wx=>∃A,v = .pointer (some ⟨A,0,none⟩)/\w.heap.size+1<A/\EnS w [.int .i64 (how:Nat),.int .i64 (st:Nat),.int .i64 (j:Nat),.int .i64 (pk:Nat),.int .i64 (lg:Nat),.string nm,.string b] wx/\Blk wx A [.string nm,.int .i64 yy,.int .i64 mo,.int .i64 dd,.int .i64 hh',.int .i64 mi,.int .i64 ss,.string UT])
 case first=>
  refine wp_region_held_drew (S:=fun W=>EnS w [.int .i64 (how:Nat),.int .i64 (st:Nat),.int .i64 (j:Nat),.int .i64 (pk:Nat),.int .i64 (lg:Nat),.string nm,.string b] W/\Blk W SB [.int .i64 yy,.int .i64 mo,.int .i64 dd,.int .i64 hh',.int .i64 mi,.int .i64 ss]) o ⟨T3.drew,S3.drew⟩ (fun i=>?_);refine ag 0 (.pointer w.heap.size) rfl (fun W a=>by go_simp) i ?_;refine ag 1 (.pointer (some ⟨w.heap.size,5,none⟩)) rfl (fun W a=>by go_simp) i ?_;refine ag 2 (.string nm) rfl (fun W a=>by have s5:=a.1.2.1.cell 5 _ rfl;go_simp) i ?_;refine ag 4 (.agg #[yy,mo,dd,hh',mi,ss]) rfl (fun W a=>by have s0:=a.2.cell 0 _ rfl;have s1:=a.2.cell 1 _ rfl;have s2:=a.2.cell 2 _ rfl;have s3:=a.2.cell 3 _ rfl;have s4:=a.2.cell 4 _ rfl;have s5:=a.2.cell 5 _ rfl;go_simp) i ?_;refine ag 5 (.string UT) rfl (fun W a=>by go_simp) i ?_;have T4:=af (ae T3).drew;have S4:=af (ae S3).drew;clear T3 S3;generalize X3.drew=W4 at *
  refine wpAnyH_ready (rs:=[3,7]) (by kernel_rfl) (by simp) ?_;refine AllReadyH.cons rfl (fun K f=>?_) (AllReadyH.cons rfl (fun K f=>?_) (AllReadyH.nil))
  .
   go_simp;go_at_call 60;refine(V W4).mono ?_;rintro e W5⟨rfl,g⟩;have T5:=af (T4.later g);have S5:=af (S4.later g S4.1);refine Shut.out f _ _ ⟨T5,S5⟩ (fun i=>?_);clear f K g T4 S4;refine ag 6 (.agg #[nm,yy,mo,dd,hh',mi,ss,UT]) rfl (fun W a=>by go_simp) i ?_;refine ah 7 fun K f=>?_;go_simp;have g:Below W5.heap.size W5 (W5.alloc (.cells () 49)):=bx;have T6:=af (T5.later g);have S6:=af (S5.later g S5.1);have s:Hid (Blk (W5.alloc (.cells () 49)) W5.heap.size [.string ⟨#[]⟩,.int .i64 0,.int .i64 0,.int .i64 0,.int .i64 0,.int .i64 0,.int .i64 0,.string ⟨#[]⟩]):=aP _ _ _;have t:w.heap.size+1<W5.heap.size:=T5.2.2.1;have l:SB≠W5.heap.size:=a1v S5.1;refine Shut.out f _ _ ⟨T6,S6⟩ (fun i=>?_);clear f K;obtain⟨A,hAe⟩:∃x,W5.heap.size=x:=⟨_,rfl⟩;obtain⟨W6,hW6⟩:∃x,W5.alloc (.cells () 49)=x:=⟨_,rfl⟩;rw[hW6]at T6 S6 i;rw[hAe,hW6]at s;rw[hAe]at t l;rw[hAe,hW6];clear g hAe hW6 T5 S5;refine ah 8 fun K f=>?_;have aA:=s.cells (n:=8) rfl;have fA:=s.frees (n:=8) rfl;go_simp;have TX:=af (T6.set8 t (.string nm) (.int .i64 yy) (.int .i64 mo) (.int .i64 dd) (.int .i64 hh') (.int .i64 mi) (.int .i64 ss) (.string UT));have L:=af (s.set8 (.string nm) (.int .i64 yy) (.int .i64 mo) (.int .i64 dd) (.int .i64 hh') (.int .i64 mi) (.int .i64 ss) (.string UT));have SX:=af (oM S6 l (.string nm) (.int .i64 yy) (.int .i64 mo) (.int .i64 dd) (.int .i64 hh') (.int .i64 mi) (.int .i64 ss) (.string UT));clear aA fA;refine Shut.out f _ _ ⟨TX,SX⟩ (fun i=>?_);clear f K;refine wpAnyH_done (by kernel_rfl) ?_ _;go_wp2_with fail
   go_meet
   case rel=>exact⟨A,rfl,t,TX,L⟩
  .
   go_simp;have g:Below W4.heap.size W4 (W4.alloc (.cells () 49)):=bx;have T5:=af (T4.later g);have S5:=af (S4.later g S4.1);have I:Hid (Blk (W4.alloc (.cells () 49)) W4.heap.size [.string ⟨#[]⟩,.int .i64 0,.int .i64 0,.int .i64 0,.int .i64 0,.int .i64 0,.int .i64 0,.string ⟨#[]⟩]):=aP _ _ _;have t:w.heap.size+1<W4.heap.size:=T4.2.2.1;have l:SB≠W4.heap.size:=a1v S4.1;refine Shut.out f _ _ ⟨T5,S5⟩ (fun i=>?_);clear f K;obtain⟨A,hAe⟩:∃x,W4.heap.size=x:=⟨_,rfl⟩;obtain⟨W5,hW5⟩:∃x,W4.alloc (.cells () 49)=x:=⟨_,rfl⟩;rw[hW5]at T5 S5 i;rw[hAe,hW5]at I;rw[hAe]at t l;rw[hAe,hW5];clear g hAe hW5 T4 S4;refine ah 3 fun K f=>?_;go_simp;go_at_call 60;refine(V W5).mono ?_;rintro e W6⟨rfl,g⟩;have T6:=af (T5.later g);have S6:=af (S5.later g S5.1);have s:=af (I.later g I.1);refine Shut.out f _ _ ⟨T6,S6⟩ (fun i=>?_);clear f K g T5 S5 I;refine ag 6 (.agg #[nm,yy,mo,dd,hh',mi,ss,UT]) rfl (fun W a=>by go_simp) i ?_;refine ah 8 fun K f=>?_;have aA:=s.cells (n:=8) rfl;have fA:=s.frees (n:=8) rfl;go_simp;have TX:=af (T6.set8 t (.string nm) (.int .i64 yy) (.int .i64 mo) (.int .i64 dd) (.int .i64 hh') (.int .i64 mi) (.int .i64 ss) (.string UT));have L:=af (s.set8 (.string nm) (.int .i64 yy) (.int .i64 mo) (.int .i64 dd) (.int .i64 hh') (.int .i64 mi) (.int .i64 ss) (.string UT));have SX:=af (oM S6 l (.string nm) (.int .i64 yy) (.int .i64 mo) (.int .i64 dd) (.int .i64 hh') (.int .i64 mi) (.int .i64 ss) (.string UT));clear aA fA;refine Shut.out f _ _ ⟨TX,SX⟩ (fun i=>?_);clear f K;refine wpAnyH_done (by kernel_rfl) ?_ _;go_wp2_with fail
   go_meet
   case rel=>exact⟨A,rfl,t,TX,L⟩
 case rest=>
  obtain⟨A,rfl,t,TB',z⟩:=hcut;have TB:=af TB';have c:=af z;clear TB' z T3 S3;go_wp2_with fail;refine M5 OK GO EB UT.size lg cu j ?_ ?_ ?_ ?_ ?_ ?_;rotate_left 5
  .
   rintro F rfl rfl rfl G H R T;have J:Hid (Ending.returned (.tuple #[.agg #[nm,yy,mo,dd,hh',mi,ss,UT],.bool true])=RES):=by show _=_;rw[←ae k,a0c F]
   clear F;have U:=cell_regrown (TB.2.1.cell 4 _ rfl);have Q:=cell_regrown (TB.2.1.cell 2 _ rfl);have m0:=cell_regrown (c.cell 0 _ rfl);have m1:=cell_regrown (c.cell 1 _ rfl);have m2:=cell_regrown (c.cell 2 _ rfl);have m3:=cell_regrown (c.cell 3 _ rfl);have m4:=cell_regrown (c.cell 4 _ rfl);have m5:=cell_regrown (c.cell 5 _ rfl);have m6:=cell_regrown (c.cell 6 _ rfl);have m7:=cell_regrown (c.cell 7 _ rfl);have C:=fun d os=>Calls.regrown_of (w:=wc) (d:=d) (os:=os) (X _ (aj TB.1 (below_regrown wc d os)));have B:=fun d os=>Calls.regrown_of (w:=wc) (d:=d) (os:=os) (y _);refine wp_region_quiet_below o (by kernel_rfl) ?_;repeat (quiet_step (first|exact C _ _|exact B _ _))
   refine wpQuiet_nil ?_;intro zw u;obtain⟨⟨M,osq⟩,q⟩:=u;have r:=below_regrown wc M osq;rw[←q]at r;have T9:=af (TB.later r);have Y:=af (c.later r c.1);clear q r U Q C B TB c m0 m1 m2 m3 m4 m5 m6 m7;have rA:=Y.cells (n:=8) rfl;have bA:=T9.2.2.cells (n:=8) rfl;have gA:=T9.2.2.frees (n:=8) rfl;have TZ:=af (Ko T9.1 (a0Y _) (.string nm) (.int .i64 yy) (.int .i64 mo) (.int .i64 dd) (.int .i64 hh') (.int .i64 mi) (.int .i64 ss) (.string UT));have ZZ:=af (T9.2.2.set8 (.string nm) (.int .i64 yy) (.int .i64 mo) (.int .i64 dd) (.int .i64 hh') (.int .i64 mi) (.int .i64 ss) (.string UT));go_wp2;have zA:=ZZ.cells (n:=8) rfl;refine a0C (v:=.tuple #[.agg #[nm,yy,mo,dd,hh',mi,ss,UT],.bool true]) (by simp[results,results32,go_sem,zA]) rfl ⟨J,TZ⟩
  all_goals intro F
  all_goals have J:Hid (Ending.returned (.tuple #[.agg (),.bool false])=RES):=by show _=_;rw[←ae k,a0d (by rw[F];decide)];rfl
  all_goals clear F
  rintro rfl;rotate_left;rintro rfl rfl;rotate_left;rintro rfl rfl rfl;rotate_left;rintro rfl rfl rfl G H;rotate_left;rintro rfl rfl rfl G H R T;rotate_left;all_goals(
   have U:=cell_regrown (TB.2.1.cell 4 _ rfl);have Q:=cell_regrown (TB.2.1.cell 2 _ rfl);have m0:=cell_regrown (c.cell 0 _ rfl);have m1:=cell_regrown (c.cell 1 _ rfl);have m2:=cell_regrown (c.cell 2 _ rfl);have m3:=cell_regrown (c.cell 3 _ rfl);have m4:=cell_regrown (c.cell 4 _ rfl);have m5:=cell_regrown (c.cell 5 _ rfl);have m6:=cell_regrown (c.cell 6 _ rfl);have m7:=cell_regrown (c.cell 7 _ rfl);have C:=fun d os=>Calls.regrown_of (w:=wc) (d:=d) (os:=os) (X _ (aj TB.1 (below_regrown wc d os)));have B:=fun d os=>Calls.regrown_of (w:=wc) (d:=d) (os:=os) (y _);refine wp_region_quiet_below o (by kernel_rfl) ?_;repeat (quiet_step (first|exact C _ _|exact B _ _))
   refine wpQuiet_nil ?_;intro zw u;obtain⟨⟨M,osq⟩,q⟩:=u;have r:=below_regrown wc M osq;rw[←q]at r;have T9:=af (TB.later r);have Y:=af (c.later r c.1);clear q r U Q C B TB c m0 m1 m2 m3 m4 m5 m6 m7;have bA:=T9.2.2.cells (n:=8) rfl;have gA:=T9.2.2.frees (n:=8) rfl;have TZ:=af (Ko T9.1 (a0Y _) (.string ⟨#[]⟩) (.int .i64 0) (.int .i64 0) (.int .i64 0) (.int .i64 0) (.int .i64 0) (.int .i64 0) (.string ⟨#[]⟩));have ZZ:=af (T9.2.2.set8 (.string ⟨#[]⟩) (.int .i64 0) (.int .i64 0) (.int .i64 0) (.int .i64 0) (.int .i64 0) (.int .i64 0) (.string ⟨#[]⟩));go_wp2;have zA:=ZZ.cells (n:=8) rfl;refine a0C (v:=.tuple #[.agg (),.bool false]) (by simp[results,results32,go_sem,zA]) rfl ⟨J,TZ⟩
  )
def Rc(s:ByteArray):enB (wd s.data.toList 8 2) (wd s.data.toList 10 4) (wd s.data.toList 14 4) (wd s.data.toList 22 4) (nmB s) (bdB s)=((txO (wd s.data.toList 8 2) (bdB s)&&(decide (wd s.data.toList 14 4=aE 0 (txT (wd s.data.toList 8 2) (bdB s)).data.toList)&&decide (wd s.data.toList 22 4=(txT (wd s.data.toList 8 2) (bdB s)).size)))&&Eb s (txT (wd s.data.toList 8 2) (bdB s)))/\(enB (wd s.data.toList 8 2) (wd s.data.toList 10 4) (wd s.data.toList 14 4) (wd s.data.toList 22 4) (nmB s) (bdB s)=true->enE (wd s.data.toList 10 4) (nmB s) (uxT (wd s.data.toList 8 2) (bdB s))=IL s (txT (wd s.data.toList 8 2) (bdB s))):=by
 cases d:txO (wd s.data.toList 8 2) (bdB s)
 . simp[enB,d]
 .
  unfold enB enE IL Eb;rw[QV d,d];have e:=Lj (n:=(wd s.data.toList 10 4:Nat)) (by omega);cases f:gOk ((wd s.data.toList 10 4:Nat):Int)
  . rw[f]at e;refine⟨?_,by simp⟩;unfold g9;rw[←e];simp
  .
   simp only[zz,a0S];refine⟨?_,fun _=>trivial⟩;rw[a19];simp only[a0k,a0s,a2D];constructor
   . rintro⟨a,b,c⟩;exact⟨⟨c.symm,b.symm⟩,a⟩
   . rintro⟨⟨a,b⟩,c⟩;exact⟨c,b.symm,a.symm⟩
def KS{st i lg:Nat}{nm:ByteArray}(h:enB how st i lg nm b=true):b.size<=700:=by
 simp only[enB,a0k]at h;obtain⟨a,_,d,_⟩:=h;unfold txO pf at a;by_cases c:how=0
 .
  subst c;have e:uxT 0 b=b:=by simp[uxT,txT]
  rw[e]at d;have:=(cR d).2.1;omega
 .
  rw[a0d c]at a;by_cases f:how=8
  .
   rw[a0c f]at a;unfold cF at a;by_cases g:b.size<=700
   . exact g
   . rw[a0d g]at a;cases a
  . rw[a0d f]at a;cases a
def LU(h:hdB s=true):pN s=if enB (wd s.data.toList 8 2) (wd s.data.toList 10 4) (wd s.data.toList 14 4) (wd s.data.toList 22 4) (nmB s) (bdB s)=true then .tuple #[enE (wd s.data.toList 10 4) (nmB s) (uxT (wd s.data.toList 8 2) (bdB s)),.int .i64 ((30+wd s.data.toList 26 2+wd s.data.toList 18 4:Nat):Int),.bool true]else .tuple #[noE,.int .i64 0,.bool false]:=by
 obtain⟨e1,e2⟩:=Rc s;rw[LV h,←e1];by_cases hb:enB (wd s.data.toList 8 2) (wd s.data.toList 10 4) (wd s.data.toList 14 4) (wd s.data.toList 22 4) (nmB s) (bdB s)=true
 . rw[a0c hb,a0c hb,e2 hb]
 . rw[a0d hb,a0d hb]
def Nv(t:ByteArray)(a:t.size<=300):pf (cN t) (aL t)=some t:=by
 unfold cN aL pf
 split
 . rw[a0d (by decide),a0c rfl,(Eg t a).1];simp
 . simp
def Pz{y mo d h mi s:Int}(k:cV y mo d h mi s=true):gY (stN y mo d h mi s)=y/\gM (stN y mo d h mi s)=mo/\gD (stN y mo d h mi s)=d/\gH (stN y mo d h mi s)=h/\gI (stN y mo d h mi s)=mi/\gS (stN y mo d h mi s)=s:=by
 obtain⟨⟨a0,a1⟩,⟨a,b⟩,⟨c0,_,c1⟩,⟨c,e⟩,⟨e0,e1⟩,⟨f0,f1⟩,f2⟩:=M7 k;simp only[gY,gM,gD,gH,gI,gS,stN];omega
def Bu{n t:ByteArray}{N:Nat}(c:N<4294967296)(d:n.size<65536)(f:t.size<4294967296)(r:ByteArray) :
  hdB (cG n t N++r)=true/\wd (cG n t N++r).data.toList 8 2=cN t/\wd (cG n t N++r).data.toList 10 4=N/\wd (cG n t N++r).data.toList 14 4=aE 0 t.data.toList/\wd (cG n t N++r).data.toList 18 4=(aL t).size/\wd (cG n t N++r).data.toList 22 4=t.size/\wd (cG n t N++r).data.toList 26 2=n.size/\nmB (cG n t N++r)=n/\bdB (cG n t N++r)=aL t:=by
 have hb:=tF t;have o:=wS t;have p:=(sf c d f).1;have e:(cG n t N++r).data.toList=(cM (cN t) N (aE 0 t.data.toList) (aL t).size t.size n).data.toList++((aL t).data.toList++r.data.toList):=by
  rw[show(cG n t N++r).data.toList=(cG n t N).data.toList++r.data.toList by simp,uU,a0I]
 obtain⟨g,h,i,j,b,k,a,l,m⟩:=uc (how:=cN t) (st:=N) (crc:=aE 0 t.data.toList) (pk:=(aL t).size) (lg:=t.size) (nm:=n) ((aL t).data.toList++r.data.toList) (by omega) c (gp _ _ (by omega)) (by omega) f d;rw[←e]at g h i j b k a l m;refine⟨kK.2 ⟨?_,g,?_⟩,h,i,j,b,k,a,dn ?_,dn ?_⟩
 . rw[a0D];omega
 . rw[a,b,a0D];omega
 . rw[ve,a,l]
 . rw[Kl,a,b,m,a1F (by simp),a0t (by simp)]
