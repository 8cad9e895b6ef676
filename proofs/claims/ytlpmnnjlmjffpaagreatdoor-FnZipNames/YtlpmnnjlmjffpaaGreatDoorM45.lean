/- Of what the proof is made: 5 texts, one behind the other. -/
import Derived.Test.YtlpmnnjlmjffpaaGreatDoorM43
import Derived.Lib.LaidTab
import Derived.Deep.RegionLaw
import Derived.Lib.SliceRun
import Derived.Test.YtlpmnnjlmjffpaaGreatDoorM41
import Derived.Test.YtlpmnnjlmjffpaaGreatDoorM44
import Derived.Test.YtlpmnnjlmjffpaaGreatDoorM42
import Derived.Test.YtlpmnnjlmjffpaaGreatDoorM39
import Derived.Test.YtlpmnnjlmjffpaaGreatDoorM34
import Derived.Test.YtlpmnnjlmjffpaaGreatDoorM2
import Derived.Test.YtlpmnnjlmjffpaaGreatDoorM9
set_option maxRecDepth 100000
set_option linter.unusedSimpArgs false
set_option linter.unusedVariables false
set_option maxHeartbeats 6400000
namespace Go.Proofs.YtlpmnnjlmjffpaaGreatDoor
open Go.Proofs.Tryz
open Go.RowKit Corb
open Go.Lib (decDigits)
def mO(w:World):Prop:=Lib.TabIs prog w "internal/strconv.uint64pow10" .u64 Lib.pow10Tab
theorem mO.later{w w':World}(h:mO w)(hb:Below w.heap.size w w'):mO w':=by
 have hg:prog.globalNamed "internal/strconv.uint64pow10" = some 3:=by kernel_rfl
 unfold mO Lib.TabIs at *
 rw[World.var?,hg,a0f]at h ⊢;have hlt:3<w.heap.size:=by
  rcases a08 3 w.heap.size with hc|hc
  . exact hc
  . rw[Array.getElem?_eq_none hc]at h;cases h
 rw[hb.block _ hlt];exact h
theorem Jq(n:Nat)(c:n<=2000000)(w:World)(b:mO w) :
  CD 107 #[.int .i64 (n:Nat)] w (.string ⟨(decDigits n).toArray⟩):=by
 have h:=Tryz.strconv_Itoa (n:Nat) (by omega) (by omega) w b;have e:Lib.itoa (n:Int)=decDigits n:=by unfold Lib.itoa;rw[a0d (by omega),a0l]
 rw[e]at h;exact h.mono fun _ _ ⟨a,k,os,h2⟩=>⟨a,by rw[h2];exact below_regrown w (w.drawn+k) os⟩
theorem GY(x:ByteArray)(a:x.size<=1048576):(aJ x).size<=1048600:=by
 have:=jV x.size (by omega);have e:(aJ x).size=(decDigits x.size).length+1+x.size:=by
  unfold aJ;rw[a0u,a0u];rfl
 omega
theorem vR(t l x:ByteArray)(w:World)(n:x.size<=1048576)(i:mO w) :
  CD 69 #[.agg #[.string t,.string l,.string x]] w (.string (aJ x)):=by
 have a:prog.follows .mixedOrders=true:=by kernel_rfl
 have e:=af ((a0c w.heap.size w).alloc (a0a _) (.cells #[.string t,.string l,.string x] 68));have P:=af (au w #[.string t,.string l,.string x] 68);have C:=af (fun W (hb:Below w.heap.size w W)=>Jq x.size (by omega) W (i.later hb));have h:Hid (aJ x=⟨(decDigits x.size).toArray⟩++⟨#[10]⟩++x):=rfl;have j:=jV x.size (by omega);have o:(x.size:Int)<=1048576:=by omega
 obtain⟨D,hD⟩:∃D,(⟨(decDigits x.size).toArray⟩:ByteArray)=D:=⟨_,rfl⟩;have f:D.size<=7:=by rw[←hD];exact j
 have q:¬ 9223372036854775807<D.size+1:=by omega
 have h2:¬ 9223372036854775807<D.size+1+x.size:=by omega
 rw[hD]at C h;clear hD j f n i;go_enter func69,ntmps69;go_wp2_with fail;obtain⟨W1,hW1⟩:∃y,w.alloc (.cells #[.string t,.string l,.string x] 68)=y:=⟨_,rfl⟩;rw[hW1]at e P;rw[hW1];clear hW1;have p:=cell_regrown ((ae P).cell 2 _ rfl);have k:=fun d os=>Calls.regrown_of (w:=W1) (d:=d) (os:=os) (ae C _ (ak (ae e) (below_regrown W1 d os)));refine wp_region_quiet_below a (by kernel_rfl) ?_
 quiet_step (fail)
 quiet_step (fail)
 quiet_step (fail)
 quiet_step (exact k _ _)
 quiet_step (fail)
 quiet_step (fail)
 quiet_step (fail)
 quiet_step (fail)
 quiet_step (fail)
 refine a01 ?_;intro zw g;obtain⟨⟨m,osq⟩,b⟩:=g;have c:=below_regrown W1 m osq;rw[←b]at c;have T9:=af (ak (ae e) c);clear b c k p;go_wp2;go_ret;exact⟨by rw[ae h];rfl,ae T9⟩
theorem Lg(t l x:ByteArray)(b:Int)(w:World)(u:t.size<=1048576)(k:x.size<=1048576)(n:mO w) :
  CD 42 #[.agg #[.string t,.string l,.string x],.int .i64 b] w (ee t ((aJ x).extract 0 (clN b (aJ x).size))):=by
 have j:prog.follows .mixedOrders=true:=by kernel_rfl
 have T0:Hid (DkS w _ [.string t,.string l,.string x] _):=kU w #[.string t,.string l,.string x] #[.string ⟨#[]⟩,.string ⟨#[]⟩] 68 41;have m:=af (fun W (hb:Below w.heap.size w W)=>vR t l x W k (n.later hb));have o:=af (fun W=>iW t W (by omega));have y:=GY x k;have z:((aJ x).size:Int)<=1048600:=by omega
 obtain⟨N,hN⟩:∃N,clN b (aJ x).size=N:=⟨_,rfl⟩;rw[hN];generalize aJ x=Z at *
 unfold ee;clear u k y n;go_enter func42,ntmps42;go_wp2_with fail;refine(ae m _ (ae T0).1).mono ?_;rintro e x1 ⟨rfl,g⟩;have T1:=af ((ae T0).later g);clear g T0 m;have r:(N:Int)<=(Z.size:Int):=by rw[←hN];unfold clN;split<;>(try split)<;>omega
 have s:min (max b 0) (Z.size:Int)=(N:Int):=by rw[←hN];unfold clN;split<;>(try split)<;>omega
 have A:=af hN;clear hN;have t1:((N:Int)).toNat=N:=a0l _;go_wp2_with fail;refine wp_region_held_drew (S:=fun W=>Blk W w.heap.size [.string t,.string l,.string x]) j (ae T1).2.1.drew (fun d=>?_);refine ag 0 (.pointer (some ⟨w.heap.size,0,none⟩)) rfl (by kernel_rfl) (fun _ _ _ h=>h) rfl (fun W c=>by go_simp) d ?_;refine ag 1 (.pointer (some ⟨w.heap.size,0,none⟩)) rfl (by kernel_rfl) (fun _ _ _ h=>h) rfl (fun W c=>by go_simp) d ?_;refine ag 2 (.string t) rfl (by kernel_rfl) (fun _ _ _ h=>h) rfl (fun W c=>by have s0:=c.cell 0 _ rfl;go_simp) d ?_;refine ag 4 (.string Z) rfl (by kernel_rfl) (fun _ _ _ h=>h) rfl (fun W c=>by go_simp) d ?_;refine ag 5 (.int .i64 (N:Nat)) rfl (by kernel_rfl) (fun _ _ _ h=>h) rfl (fun W c=>by go_simp) d ?_;refine ag 6 (.string (Z.extract 0 N)) rfl (by kernel_rfl) (fun _ _ _ h=>h) rfl (fun W c=>by go_simp) d ?_;have T2:=af (ae T1).drew;generalize x1.drew=x2 at *
 refine ah 3 (by kernel_rfl) rfl fun K f=>?_;go_simp;go_at_call 47;refine(ae o _).mono ?_;rintro e x3 ⟨rfl,i⟩;have T3:=af ((ae T2).later i);refine Shut.out f _ _ (ae T3).2.1 (fun d=>?_);clear f K i T2 T1;refine ag 7 (.agg #[.string t,.string (Z.extract 0 N)]) rfl (by kernel_rfl) (fun _ _ _ h=>h) rfl (fun W c=>by go_simp) d ?_;refine ah 8 (by kernel_rfl) rfl fun K f=>?_;have p:=(ae T3).2.2.cell 0 _ rfl;have g0:=(ae T3).2.2.free 0 (by decide);have q:=(ae T3).2.2.cell 1 _ rfl;have g1:=(ae T3).2.2.free 1 (by decide);have TZ:=af ((ae T3).put (a:=t) (b:=Z.extract 0 N));go_simp;refine Shut.out f _ _ (ae TZ).2.1 (fun d=>?_);clear f K p g0 q g1;refine wpAnyH_done (by kernel_rfl) ?_ _;go_wp2;have z0:=(ae TZ).2.2.cell 0 _ rfl;have z1:=(ae TZ).2.2.cell 1 _ rfl;exact a0t (v:=.agg #[.string t,.string (Z.extract 0 N)]) (by simp[results,results42,go_sem,z0,z1]) rfl ⟨rfl,(ae TZ).1⟩
theorem cR(t l x:ByteArray)(b m:Int)(w:World)(r:t.size<=1048576)(s:x.size<=1048576)(q:w.cell? ⟨1,0,none⟩=some (.int .i64 m))(o:io w)(n:dO w)(B:mO w) :
  CD 19 #[ee t l,.string x,.int .i64 b] w (gr t l x b):=by
 have T0:Hid (DkS w _ [.string t,.string l] _):=kU w #[.string t,.string l] #[.string ⟨#[]⟩,.string ⟨#[]⟩] 41 41;have h:=af (World.block_lt_of_cell? _ _ q);have k:=af (fun W (hb:Below w.heap.size w W)=>(hb.cell (p:=⟨1,0,none⟩) (ae h)).trans q);have u:=af (fun W (hb:Below w.heap.size w W)=>fX t l m W r (ae k _ hb) (o.later hb) (n.later hb));have y:=af (fun W (hb:Below w.heap.size w W)=>gO x m W s (ae k _ hb) (o.later hb) (n.later hb));have j:=af (fun W (hb:Below w.heap.size w W)=>Lg t l x b W r s (B.later hb));have i:Hid (gr t l x b=if ((aQ t).isSome&&decide (l=⟨#[]⟩))=true/\(aQ x).isSome=true then ee t ((aJ x).extract 0 (clN b (aJ x).size))else ee ⟨#[]⟩ ⟨#[]⟩):=rfl;generalize ((aQ t).isSome&&decide (l=⟨#[]⟩))=B1 at *
 generalize (aQ x).isSome=B2 at *
 generalize (aJ x).extract 0 (clN b (aJ x).size)=Z at *
 unfold ee at i j ⊢;clear r s q o n B k h;go_enter func19,ntmps19;go_wp2_with fail;refine(ae u _ (ae T0).1).mono ?_;rintro e x1 ⟨rfl,d⟩;have T1:=af ((ae T0).later d);clear d T0 u;cases B1
 .
  have c:Hid (gr t l x b = .agg #[.string ⟨#[]⟩,.string ⟨#[]⟩]):=by show _=_;rw[ae i];rfl
  have z:=(ae T1).2.2.cell 0 _ rfl;have g0:=(ae T1).2.2.free 0 (by decide);have A:=(ae T1).2.2.cell 1 _ rfl;have g1:=(ae T1).2.2.free 1 (by decide);have TZ:=af ((ae T1).put (a:=⟨#[]⟩) (b:=⟨#[]⟩));go_wp2;have z0:=(ae TZ).2.2.cell 0 _ rfl;have z1:=(ae TZ).2.2.cell 1 _ rfl;exact a0t (v:=.agg #[.string ⟨#[]⟩,.string ⟨#[]⟩]) (by simp[results,results19,go_sem,z0,z1]) rfl ⟨by rw[ae c],(ae TZ).1⟩
 .
  go_wp2_with fail;refine(ae y _ (ae T1).1).mono ?_;rintro e x2 ⟨rfl,f⟩;have T2:=af ((ae T1).later f);clear f T1 y;cases B2
  .
   have c:Hid (gr t l x b = .agg #[.string ⟨#[]⟩,.string ⟨#[]⟩]):=by show _=_;rw[ae i];rfl
   have z:=(ae T2).2.2.cell 0 _ rfl;have g0:=(ae T2).2.2.free 0 (by decide);have A:=(ae T2).2.2.cell 1 _ rfl;have g1:=(ae T2).2.2.free 1 (by decide);have TZ:=af ((ae T2).put (a:=⟨#[]⟩) (b:=⟨#[]⟩));go_wp2;have z0:=(ae TZ).2.2.cell 0 _ rfl;have z1:=(ae TZ).2.2.cell 1 _ rfl;exact a0t (v:=.agg #[.string ⟨#[]⟩,.string ⟨#[]⟩]) (by simp[results,results19,go_sem,z0,z1]) rfl ⟨by rw[ae c],(ae TZ).1⟩
  .
   have c:Hid (gr t l x b = .agg #[.string t,.string Z]):=by show _=_;rw[ae i];rfl
   have C:=(ae T2).2.1.cell 0 _ rfl;have D:=(ae T2).2.1.cell 1 _ rfl;go_wp2_with fail;refine(ae j _ (ae T2).1).mono ?_;rintro e x3 ⟨rfl,g⟩;have T3:=af ((ae T2).later g);clear g T2 j C D;have z:=(ae T3).2.2.cell 0 _ rfl;have g0:=(ae T3).2.2.free 0 (by decide);have A:=(ae T3).2.2.cell 1 _ rfl;have g1:=(ae T3).2.2.free 1 (by decide);have TZ:=af ((ae T3).put (a:=t) (b:=Z));go_wp2;have z0:=(ae TZ).2.2.cell 0 _ rfl;have z1:=(ae TZ).2.2.cell 1 _ rfl;exact a0t (v:=.agg #[.string t,.string Z]) (by simp[results,results19,go_sem,z0,z1]) rfl ⟨by rw[ae c],(ae TZ).1⟩
def nxO(l:ByteArray):ByteArray:=⟨(Lib.cut l.data.toList [10]).2.1.toArray⟩
theorem OH{l:ByteArray}(h:Lib.indexByte l.data.toList 10 = -1):nxO l=⟨#[]⟩:=by
 unfold nxO Lib.cut;rw[Lib.index_one,h,a0d (by decide)]
theorem J4{l:ByteArray}{i:Nat}(h:Lib.indexByte l.data.toList 10=(i:Int)):nxO l=bR l i:=by
 unfold nxO Lib.cut;rw[Lib.index_one,h,a0e (by omega),a0l];apply aO;rw[mC];rfl
theorem Ey(l:ByteArray):iV l=if (decide (l=aJ (nxO l))&&(aQ (nxO l)).isSome)=true then some (nxO l)else none:=by
 rcases lJ l.data.toList with h|⟨i,h⟩
 . rw[rH h,a0d];rw[a0h,a0o];exact fun e=>Np h e.1
 .
  rw[xj h,J4 h];by_cases a:l=aJ (bR l i)/\(aQ (bR l i)).isSome=true
  . rw[a0e a,a0e (by rw[a0h,a0o];exact a)]
  . rw[a0d a,a0d (by rw[a0h,a0o];exact a)]
theorem zx(l:ByteArray):(nxO l).size<=l.size:=by
 rcases lJ l.data.toList with h|⟨i,h⟩
 . rw[OH h];exact a0g _
 . rw[J4 h,bR,a1p];omega
theorem sg(t l:ByteArray)(m:Int)(w:World)(g:l.size<=1048576)(f:w.cell? ⟨1,0,none⟩=some (.int .i64 m)) :
  CD 45 #[ee t l] w (.agg #[.string t,.string l,.string (nxO l)]):=by
 have T0:Hid (DkS w _ [.string t,.string l] _):=kU w #[.string t,.string l] #[.string ⟨#[]⟩,.string ⟨#[]⟩,.string ⟨#[]⟩] 41 68;have C:Hid (∀W,Below w.heap.size w W->Calls prog 71 #[.string l,.string ⟨#[10]⟩] W fun e w'=>(∃a b,e = .returned (.tuple #[.string a,.string (nxO l),.bool b]))/\Below W.heap.size W w'):=fun W hb=>by
  have h:=Tryz.strings_Cut l (⟨#[10]⟩:ByteArray) m W (by omega) ((hb.cell (p:=⟨1,0,none⟩) (World.block_lt_of_cell? _ _ f)).trans f);refine h.mono ?_;rintro e w' ⟨rfl,n,rfl⟩;exact⟨⟨_,_,rfl⟩,below_drewN (a0c _ _) n⟩
 generalize nxO l=X at *
 unfold ee;clear g f;go_enter func45,ntmps45;go_wp2_with fail;refine(ae C _ (ae T0).1).mono ?_;rintro e x1 ⟨⟨a,b,rfl⟩,d⟩;have T1:=af ((ae T0).later d);clear d T0 C;have o:=(ae T1).2.1.cell 0 _ rfl;have q:=(ae T1).2.1.cell 1 _ rfl;have i:=(ae T1).2.2.cell 0 _ rfl;have g0:=(ae T1).2.2.free 0 (by decide);have j:=(ae T1).2.2.cell 1 _ rfl;have g1:=(ae T1).2.2.free 1 (by decide);have k:=(ae T1).2.2.cell 2 _ rfl;have g2:=(ae T1).2.2.free 2 (by decide);have TZ:=af ((ae T1).put3 (a:=t) (b:=l) (c:=X));go_wp2;have z0:=(ae TZ).2.2.cell 0 _ rfl;have z1:=(ae TZ).2.2.cell 1 _ rfl;have z2:=(ae TZ).2.2.cell 2 _ rfl;exact a0t (v:=.agg #[.string t,.string l,.string X]) (by simp[results,results45,go_sem,z0,z1,z2]) rfl ⟨rfl,(ae TZ).1⟩
theorem DC(t l x:ByteArray)(m:Int)(w:World)(i:x.size<=1048576)(g:w.cell? ⟨1,0,none⟩=some (.int .i64 m))(n:io w)(j:dO w)(k:mO w) :
  CD 46 #[.agg #[.string t,.string l,.string x]] w (.bool (decide (l=aJ x)&&(aQ x).isSome)):=by
 have a:prog.follows .mixedOrders=true:=by kernel_rfl
 have c:=af ((a0c w.heap.size w).alloc (a0a _) (.cells #[.string t,.string l,.string x] 68));have P:=af (au w #[.string t,.string l,.string x] 68);have r:=af (fun W (hb:Below w.heap.size w W)=>vR t l x W i (k.later hb));have s:=af (fun W (hb:Below w.heap.size w W)=>gO x m W i ((hb.cell (p:=⟨1,0,none⟩) (World.block_lt_of_cell? _ _ g)).trans g) (n.later hb) (j.later hb));generalize (aQ x).isSome=B2 at *
 generalize aJ x=Z at *
 obtain⟨D,hD⟩:∃d,(l.toList == Z.toList)=d:=⟨_,rfl⟩;have e:Hid (decide (l=Z)=D):=by
  show _=_;rw[a2e,a0o];exact(rQ hD).symm
 clear i g n j k;go_enter func46,ntmps46;go_wp2_with fail;obtain⟨W1,hW1⟩:∃y,w.alloc (.cells #[.string t,.string l,.string x] 68)=y:=⟨_,rfl⟩;rw[hW1]at c P;rw[hW1];clear hW1;have k0:=cell_regrown ((ae P).cell 0 _ rfl);have v:=cell_regrown ((ae P).cell 1 _ rfl);have z:=cell_regrown ((ae P).cell 2 _ rfl);have o:=fun d os=>Calls.regrown_of (w:=W1) (d:=d) (os:=os) (ae r _ (ak (ae c) (below_regrown W1 d os)));have q:=fun d os=>Calls.regrown_of (w:=W1) (d:=d) (os:=os) (ae s _ (ak (ae c) (below_regrown W1 d os)));refine wp_region_quiet_below a (by kernel_rfl) ?_;cases D
 all_goals
  go_big_quiet_step (fail)
  go_big_quiet_step (fail)
  go_big_quiet_step (fail)
  go_big_quiet_step (fail)
  go_big_quiet_step (exact o _ _)
  go_big_quiet_step (fail)
  go_big_quiet_step (fail)
  go_big_quiet_step (fail)
  go_big_quiet_step (fail)
  go_big_quiet_step (exact q _ _)
  go_big_quiet_step (fail)
  go_big_quiet_step (fail)
  refine a01 ?_;intro zw h;obtain⟨⟨u,osq⟩,b⟩:=h;have f:=below_regrown W1 u osq;rw[←b]at f;have T9:=af (ak (ae c) f);clear b f o q k0 v z;go_wp2;go_ret;exact⟨by rw[ae e];rfl,ae T9⟩
theorem eO(t l:ByteArray)(m:Int)(w:World)(N:t.size<=1048576)(C:l.size<=1048576)(D:w.cell? ⟨1,0,none⟩=some (.int .i64 m))(B:io w)(A:dO w)(M:mO w) :
  CD 24 #[ee t l] w (fm t l):=by
 have T0:Hid (DkS w _ [.string t,.string l] _):=kU w #[.string t,.string l] #[.string ⟨#[]⟩,.string ⟨#[]⟩] 41 41;have k:=af (World.block_lt_of_cell? _ _ D);have o:=af (fun W (hb:Below w.heap.size w W)=>(hb.cell (p:=⟨1,0,none⟩) (ae k)).trans D);have n:=a0G (zx l) C;have y:=af (fun W (hb:Below w.heap.size w W)=>sg t l m W C (ae o _ hb));have E:=af (fun W (hb:Below w.heap.size w W)=>DC t l (nxO l) m W n (ae o _ hb) (B.later hb) (A.later hb) (M.later hb));have F:=af (fun W=>iW (nxO l) W (by omega));have G:=af (fun W (hb:Below w.heap.size w W)=>gO t m W N (ae o _ hb) (B.later hb) (A.later hb));have H:=af (fun W=>iW t W (by omega));have r:Hid (∀x,iV l=some x->fm t l = .tuple #[ee x ⟨#[]⟩,.bool true]):=fun x h=>by unfold fm;rw[h]
 have s:Hid (iV l=none->fm t l=if (aQ t).isSome=true then .tuple #[ee t ⟨#[]⟩,.bool true]else .tuple #[ee ⟨#[]⟩ ⟨#[]⟩,.bool false]):=fun h=>by unfold fm;rw[h]
 have q:=af (Ey l);generalize (decide (l=aJ (nxO l))&&(aQ (nxO l)).isSome)=BW at *
 generalize (aQ t).isSome=B4 at *
 generalize nxO l=X at *
 unfold ee at r s y ⊢;clear N C D B A M o k n;go_enter func24,ntmps24;go_wp2_with fail;refine(ae y _ (ae T0).1).mono ?_;rintro e x1 ⟨rfl,i⟩;have T1:=af ((ae T0).later i);have L:=(a0c x1.heap.size x1).alloc (a0a _) (.cells #[.string t,.string l,.string X] 68);have T2:=af ((ae T1).later L);have z:=af (au x1 #[.string t,.string l,.string X] 68);clear i T0 y L T1;go_wp2_with fail;refine(ae E _ (ae T2).1).mono ?_;rintro e x3 ⟨rfl,g⟩;have T3:=af ((ae T2).later g);have f:=af ((ae z).later g (ae z).1);obtain⟨QB,hQB⟩:∃b,x1.heap.size=b:=⟨_,rfl⟩;rw[hQB]at f;rw[hQB];clear g T2 z hQB E;have u:=(ae f).cell 0 _ rfl;have O:=(ae f).cell 2 _ rfl;cases BW
 .
  have d:=af (ae s (ae q));clear r s q;go_wp2_with fail;refine(ae G _ (ae T3).1).mono ?_;rintro e x4 ⟨rfl,c⟩;have T4:=af ((ae T3).later c);have I:=af ((ae f).later c (ae f).1);clear c T3 f u O G;cases B4
  . have J:=(ae T4).2.2.cell 0 _ rfl;have g0:=(ae T4).2.2.free 0 (by decide);have K:=(ae T4).2.2.cell 1 _ rfl;have g1:=(ae T4).2.2.free 1 (by decide);have TZ:=af ((ae T4).put (a:=⟨#[]⟩) (b:=⟨#[]⟩));go_wp2;have z0:=(ae TZ).2.2.cell 0 _ rfl;have z1:=(ae TZ).2.2.cell 1 _ rfl;exact a0t (v:=.tuple #[.agg #[.string ⟨#[]⟩,.string ⟨#[]⟩],.bool false]) (by simp[results,results24,go_sem,z0,z1]) rfl ⟨by rw[ae d];rfl,(ae TZ).1⟩
  . have u:=(ae I).cell 0 _ rfl;go_wp2_with fail;refine(ae H _).mono ?_;rintro e x5 ⟨rfl,j⟩;have T5:=af ((ae T4).later j);clear j T4 I u H;have J:=(ae T5).2.2.cell 0 _ rfl;have g0:=(ae T5).2.2.free 0 (by decide);have K:=(ae T5).2.2.cell 1 _ rfl;have g1:=(ae T5).2.2.free 1 (by decide);have TZ:=af ((ae T5).put (a:=t) (b:=⟨#[]⟩));go_wp2;have z0:=(ae TZ).2.2.cell 0 _ rfl;have z1:=(ae TZ).2.2.cell 1 _ rfl;exact a0t (v:=.tuple #[.agg #[.string t,.string ⟨#[]⟩],.bool true]) (by simp[results,results24,go_sem,z0,z1]) rfl ⟨by rw[ae d];rfl,(ae TZ).1⟩
 . have d:=af (ae r X (ae q));clear r s q;go_wp2_with fail;refine(ae F _).mono ?_;rintro e x4 ⟨rfl,c⟩;have T4:=af ((ae T3).later c);clear c T3 f u O F;have J:=(ae T4).2.2.cell 0 _ rfl;have g0:=(ae T4).2.2.free 0 (by decide);have K:=(ae T4).2.2.cell 1 _ rfl;have g1:=(ae T4).2.2.free 1 (by decide);have TZ:=af ((ae T4).put (a:=X) (b:=⟨#[]⟩));go_wp2;have z0:=(ae TZ).2.2.cell 0 _ rfl;have z1:=(ae TZ).2.2.cell 1 _ rfl;exact a0t (v:=.tuple #[.agg #[.string X,.string ⟨#[]⟩],.bool true]) (by simp[results,results24,go_sem,z0,z1]) rfl ⟨by rw[ae d],(ae TZ).1⟩
end Go.Proofs.YtlpmnnjlmjffpaaGreatDoor
namespace Go.Proofs.YtlpmnnjlmjffpaaGreatDoor
open Go.Proofs.Tryz
open Corb
open Go.Lib (decDigits)
theorem Oq(l:List UInt8)(c:UInt8):Lib.indexByte l c = -1∨∃i:Nat,Lib.indexByte l c=(i:Int):=by
 have:=Lib.indexByte_ge l c;by_cases h:Lib.indexByte l c = -1
 . exact .inl h
 . exact .inr ⟨(Lib.indexByte l c).toNat,by omega⟩
theorem Oh(n j:Nat):(decDigits n)[j]?≠some 10:=fun e=>by
 have h:=(ru n).2.1.2 10 (List.mem_of_getElem? e);exact absurd h (by decide)
theorem vB(x:ByteArray)(K:Nat)(s:K<=(aJ x).size):iV ((aJ x).extract 0 K)=if K=(aJ x).size then(if (aQ x).isSome=true then some x else none)else none:=by
 have p:(aJ x).size=(decDigits x.size).length+1+x.size:=by
  have:=congrArg List.length (jd x);simp only[a0m,a0B]at this;simpa[a1U,a2p,Nat.add_left_comm]using this
 have f:((aJ x).extract 0 K).data.toList=(decDigits x.size++(10 :: x.data.toList)).take K:=by rw[ext_list,jd,a1D,a2K]
 have l:x.data.toList.length=x.size:=by simp
 rcases Oq ((aJ x).extract 0 K).data.toList 10 with h|⟨i,h⟩
 .
  rw[rH h];have r:K<=(decDigits x.size).length:=by
   rcases a08 (decDigits x.size).length K with b|b
   . exfalso;have:=Lib.indexByte_none h (decDigits x.size).length;rw[f,List.getElem?_take,a0e b,List.getElem?_append_right (a0a _),a2j]at this;exact this rfl
   . exact b
  rw[a0d (by omega)]
 .
  obtain⟨b,h2⟩:=a3V h;have j:i=(decDigits x.size).length/\i<K:=by
   rw[f,List.getElem?_take]at b;by_cases c:i<K
   .
    rw[a0e c]at b;refine⟨?_,c⟩;rcases a3O i (decDigits x.size).length with d|d|d
    . rw[List.getElem?_append_left d]at b;exact absurd b (Oh _ _)
    . exact d
    . exfalso;have:=h2 _ d;rw[f,List.getElem?_take,a0e (by omega),List.getElem?_append_right (a0a _),a2j]at this;exact this rfl
   . rw[a0d c]at b;cases b
  obtain⟨j,c⟩:=j;have m:(bR ((aJ x).extract 0 K) i).data.toList=x.data.toList.take (K-(i+1)):=by
   rw[mC,f,a3e,j,←a1M,a3j rfl];rfl
  rw[xj h];have a:((aJ x).extract 0 K=aJ (bR ((aJ x).extract 0 K) i))<->K=(aJ x).size:=by
   rw[Ax h];have q:((aJ x).extract 0 K).data.toList.take i=decDigits x.size:=by
    rw[f,a2O,a1m (by omega),j,a3q rfl]
   have o:(bR ((aJ x).extract 0 K) i).size=K-(i+1):=by
    have:=congrArg List.length m;rw[a0v,l]at this;have e2:(bR ((aJ x).extract 0 K) i).data.toList.length=(bR ((aJ x).extract 0 K) i).size:=by simp
    omega
   rw[q,o];constructor
   . intro e;have:=congrArg jF e;rw[(ru _).1,(ru _).1]at this;omega
   . intro e;rw[show K-(i+1)=x.size by omega]
  by_cases g:K=(aJ x).size
  .
   have n:bR ((aJ x).extract 0 K) i=x:=aO (by rw[m,a0A (by omega)]);rw[a0e g,n];rw[n]at a;by_cases k:(aQ x).isSome=true
   . rw[a0e ⟨a.2 g,k⟩,a0e k]
   . rw[a0d (fun e=>k e.2),a0d k]
  . rw[a0d g,a0d (fun e=>g (a.1 e.1))]
end Go.Proofs.YtlpmnnjlmjffpaaGreatDoor
namespace Go.Proofs.YtlpmnnjlmjffpaaGreatDoor
open Go.Proofs.Tryz
open Go.RowKit Corb
variable {c:List UInt8}{ns:List ByteArray}{t:ByteArray}
theorem Blk.kn{w w':World}{b g:Nat}{vs:List Value}(h:Blk w g vs)(a:Kn b w w')(hb:g≠b):Blk w' g vs:=by
 have e:=a.2.1 g h.1 hb;exact⟨a0j h.1 a.2.2,fun i x ex=>⟨(World.cell?_of_block (w:=w) e).trans (h.2 i x ex).1,(World.frozen?_of_block (w:=w) e).trans (h.2 i x ex).2⟩⟩
theorem pa(l:List En):(aJ (aV l)).size<=4010:=by
 have h:=ct l;have:=jV (aV l).size (by omega);have e:(aJ (aV l)).size=(Lib.decDigits (aV l).size).length+1+(aV l).size:=by
  unfold aJ;rw[a0u,a0u];rfl
 omega
theorem Nl(a b:List En)(n:Int):∃A B,gr (aV a) ⟨#[]⟩ (aV b) n = .agg #[.string A,.string B]/\A.size<=10000/\B.size<=10000:=by
 have c:=ct a;have h2:=pa b;unfold gr ee
 split
 . exact⟨_,_,rfl,by omega,by rw[a1p];omega⟩
 . exact⟨_,_,rfl,by decide,by decide⟩
theorem Oc{b:Int}{z:Nat} : clN b z<=z:=by unfold clN;split<;>(try split)<;>omega
theorem tS{a b:List En}(c:bC a=true)(hb:bC b=true)(n:Int):gr (aV a) ⟨#[]⟩ (aV b) n = .agg #[.string (aV a),.string ((aJ (aV b)).extract 0 (clN n (aJ (aV b)).size))]:=by
 unfold gr;rw[gZ c,gZ hb];rfl
theorem pT(t:ByteArray){b:List En}(hb:bC b=true):fm t (aJ (aV b)) = .tuple #[.agg #[.string (aV b),.string ⟨#[]⟩],.bool true]:=by
 have h:=vB (aV b) (aJ (aV b)).size (a0a _);rw[show(aJ (aV b)).extract 0 (aJ (aV b)).size=aJ (aV b) by simp,a0e rfl,gZ hb]at h;unfold fm;rw[h];rfl
theorem tY{a b:List En}(d:bC a=true)(hb:bC b=true)(n:Int):∃L:ByteArray,gr (aV a) ⟨#[]⟩ (aV b) n = .agg #[.string (aV a),.string L]/\L.size<=4010 /\
  ((L=aJ (aV b)/\fm (aV a) L = .tuple #[.agg #[.string (aV b),.string ⟨#[]⟩],.bool true])∨(L≠aJ (aV b)/\fm (aV a) L = .tuple #[.agg #[.string (aV a),.string ⟨#[]⟩],.bool true])):=by
 have f:=pa b;refine⟨_,tS d hb n,by rw[a1p];omega,?_⟩;obtain⟨K,hK⟩:∃K,clN n (aJ (aV b)).size=K:=⟨_,rfl⟩;have c:K<=(aJ (aV b)).size:=by rw[←hK];exact Oc
 rw[hK];by_cases e:K=(aJ (aV b)).size
 .
  have e2:(aJ (aV b)).extract 0 K=aJ (aV b):=by rw[e];simp
  rw[e2];exact .inl ⟨rfl,pT _ hb⟩
 .
  refine .inr ⟨fun h=>?_,?_⟩
  . have:=congrArg ByteArray.size h;rw[a1p]at this;omega
  . have h:=vB (aV b) K c;rw[a0d e]at h;unfold fm;rw[h,gZ d];rfl
theorem tR{a b:List En}(c:bC a=true)(hb:bC b=true):gr (aV a) ⟨#[]⟩ (aV b) 1000000 = .agg #[.string (aV a),.string (aJ (aV b))]:=by
 have d:=pa b;have e:clN 1000000 (aJ (aV b)).size=(aJ (aV b)).size:=by unfold clN;rw[a0d (by decide),a0e (by omega)]
 rw[tS c hb,e];simp
theorem vK{a b:List En}(c:bC a=true)(hb:bC b=true){n:Int}(d:n<=0):gr (aV a) ⟨#[]⟩ (aV b) n = .agg #[.string (aV a),.string ⟨#[]⟩]:=by
 have e:clN n (aJ (aV b)).size=0:=by unfold clN;split<;>(try split)<;>omega
 rw[tS c hb,e];simp;rfl
theorem fJ(t l:ByteArray)(w:World) :
  CD 20 #[.agg #[.string t,.string l],.agg #[.string t,.string l]] w (.bool true):=by
 obtain⟨c,a,b⟩:=kU w #[.string t,.string l] #[.string t,.string l] 41 41;have e:=a.cells (n:=2) rfl;have p2:=b.cells (n:=2) rfl;have d:=af c;clear c a b;go_enter func20,ntmps20;go_wp2;go_ret;exact⟨rfl,ae d⟩
theorem eK(a:Option Addr)(len cap:Nat)(z:Nat->Int)(w:World)(h:Src w a len z)(Q:len<=cap)(R:len<=maxLen) :
  Calls prog 18 #[.slice a len cap] w fun e w'=>(∃l1 l2 n,e = .returned (.tuple #[.agg #[.string (aV l1),.string ⟨#[]⟩],.string (aV l2),.int .i64 n])/\bC l1=true/\bC l2=true)/\Below w.heap.size w w':=by
 have t:=af ((a0c w.heap.size w).alloc (a0a _) (.cells #[.string ⟨#[]⟩,.string ⟨#[]⟩] 41));have J:=af (au w #[.string ⟨#[]⟩,.string ⟨#[]⟩] 41);have O:=af (h.later (ae t));clear h;go_enter func18,ntmps18;go_wp2_with fail;refine(kJ a len cap z _ (ae O) Q R).mono ?_;rintro e w1 ⟨rfl,g,c,y⟩;have d:(w.alloc (.cells #[.string ⟨#[]⟩,.string ⟨#[]⟩] 41)).heap.size=w.heap.size+1:=by simp
 have K:=af ((ae J).later c (by simp));have E:=af ((ae t).trans (c.mono (by simp)));rw[d]at g;rw[d];have l:=af (show w.heap.size≠w.heap.size+1 by omega);clear c y t J O d;obtain⟨b,hb⟩:∃b,w.heap.size+1=b:=⟨_,rfl⟩;rw[hb]at g l;rw[hb];have f:Hid (w.heap.size<=b):=by show _<=_;omega
 clear hb;go_wp2_with fail;refine(kI _ b 0 _ g (by omega)).mono ?_;rintro e w2 ⟨⟨l1,p,rfl⟩,i,A⟩;have L:=af ((ae K).kn A (ae l));have F:=af ((ae E).trans (A.1.mono (ae f)));have Z1:=af p.1;clear g A K E p;obtain⟨S1,hS1⟩:∃x,aV l1=x:=⟨_,rfl⟩;have E1:=af hS1;rw[hS1];clear hS1;go_wp2_with fail;refine(kI _ b _ _ i (by omega)).mono ?_;rintro e w3 ⟨⟨l2,q,rfl⟩,j,B⟩;have M:=af ((ae L).kn B (ae l));have G:=af ((ae F).trans (B.1.mono (ae f)));have Z2:=af q.1;clear i B L F q;obtain⟨S2,hS2⟩:∃x,aV l2=x:=⟨_,rfl⟩;have E2:=af hS2;rw[hS2];clear hS2;go_wp2_with fail;refine(bG _ b _ 200 _ j (by omega) (by omega) (by omega)).mono ?_;rintro e w4 ⟨r,rfl,U,V,k,C⟩;have N:=af ((ae M).kn C.kn (ae l));have H:=af ((ae G).trans (C.kn.1.mono (ae f)));clear j C M G;go_wp2_with fail;refine(J9 _ b _ 5 w4.heap.size [-1,0,2,r,100000] 3 w4 rfl rfl k (by omega) (by omega) (by omega)).mono ?_;rintro e w5 ⟨n,S,rfl,m,D⟩;have s:=af ((ae N).kn (lF D) (ae l));have P:=af ((ae H).trans ((lF D).1.mono (ae f)));clear k D N H S m;have I:=af (((ae s).set 0 (.string S1)).set 1 (.string ⟨#[]⟩));have u:=af (aj (aj (ae P) (a0a _) (.string S1) (o:=0)) (a0a _) (.string ⟨#[]⟩) (o:=1));have T:=(ae s).cells (n:=2) rfl;have f5:=(ae s).frees (n:=2) rfl;clear s;go_wp2;have z0:=(ae I).cell 0 _ rfl;have z1:=(ae I).cell 1 _ rfl;exact a0t (v:=.tuple #[.agg #[.string S1,.string ⟨#[]⟩],.string S2,.int .i64 n]) (by simp[results,results18,go_sem,z0,z1]) rfl ⟨⟨l1,l2,n,by rw[ae E1,ae E2],ae Z1,ae Z2⟩,ae u⟩
def ctl(l:List En):ByteArray:=(aL l).2++cJ l.length (aL l).2.size (aL l).1.size
theorem pi{l:List En}(h:bC l=true):aV l=(aL l).1++ctl l:=by
 unfold aV ctl;rw[a0e h,a2n]
theorem se(l:List En):(ctl l).size=(aL l).2.size+22:=by unfold ctl;rw[a0u,dV]
theorem sd{l:List En}(h:bC l=true):(ctl l).data.toList.take 4=[80,75,1,2]∨(ctl l).data.toList.take 4=[80,75,5,6]:=by
 have a:=km h l.length (a0a _);rw[a1v]at a;have b:(aL l).2=⟨#[]⟩∨(aL l).2.data.toList.take 4=[80,75,1,2]:=(dN a).2.2.2.1;unfold ctl;simp only[a1w,a1n];rcases b with e|e
 . right;rw[e,mh];simp
 .
  left;have:4<=(aL l).2.data.toList.length:=by
   have:=congrArg List.length e;rw[a0v]at this;simp at this ⊢;omega
  rw[a1d this,e]
theorem EJ{l:List En}(h:bC l=true)(X:ByteArray):∀k,k<=l.length->zst ((aL l).1++X) k=some (l.take k,(aL (l.take k)).2,(aL (l.take k)).1.size)
 | 0,_=>rfl
 | k+1,hk=>by
  have ih:=EJ h X k (by omega);obtain⟨x,a⟩:=qg l (k+1) l.length (by omega) (a0a _);rw[a1v,fP l k (by omega)]at a;have a:(aL l).1=(aL (l.take k)).1++loE (l.getD k default)++x:=a;have b:sub ((aL l).1++X) (aL (l.take k)).1.size=loE (l.getD k default)++(x++X):=by
   rw[a];simp only[a2n];exact mJ _ _
  obtain⟨c,d,e,f⟩:=Eh ((fg h).1 k (by omega)) (x++X);have:=kY (T:=(l.getD k default).t) ih (by show ep (sub _ _)=_;rw[b];exact c);rw[this];simp only[b,d,e,f];rw[fP l k (by omega),nQ l default k (by omega)];simp only[Lv,a0u]
theorem AZ{l:List En}(h:bC l=true){X:ByteArray}(c:X.data.toList.take 4≠[80,75,3,4])(a:X≠ctl l):aQ ((aL l).1++X)=none:=by
 have b:=EJ h X l.length (a0a _);rw[a1v]at b;have:=vY b h (by show(sub _ (aL l).1.size).data.toList.take 4≠_;rw[mJ];exact c);rw[this,a0d];show ¬ sub _ (aL l).1.size=_;rw[mJ];exact a
theorem Nx{l r:List UInt8}{i k:Nat}(h:i+k<=l.length):wd (l++r) i k=wd l i k:=by
 unfold wd;rw[a3M (by omega),a1d (by rw[a0X];omega)]
theorem yh{s r:ByteArray}{i j:Nat}(h:j<=s.size):(s++r).extract i j=s.extract i j:=aO (by
 rw[ext_list,ext_list];simp only[a1w,a1n];by_cases a:i<=j
 . rw[a3M (by simp;omega),a1d (by rw[a0X];simp;omega)]
 . rw[show j-i=0 by omega];simp)
theorem JG{x T:ByteArray}(h:ep x=some T)(r:ByteArray):ep (x++r)=some T/\enO (x++r) T=enO x T/\(∀p,ctO (x++r) p=ctO x p)/\jk (x++r)=jk x:=by
 obtain⟨d,h2,f⟩:=gx.1 (fw h).1;have j:x.data.toList.length=x.size:=by simp
 have e:(x++r).data.toList=x.data.toList++r.data.toList:=by simp
 have w:∀i k,i+k<=30->wd (x++r).data.toList i k=wd x.data.toList i k:=fun i k g=>by rw[e];exact Nx (by omega)
 have a:nmB (x++r)=nmB x:=by
  unfold nmB;rw[w 26 2 (by omega)];exact yh (by omega)
 have hb:bdB (x++r)=bdB x:=by
  unfold bdB;rw[w 26 2 (by omega),w 18 4 (by omega)];exact yh (by omega)
 have c:hdB (x++r)=true:=by
  refine gx.2 ⟨by rw[a0u];omega,?_,by rw[w 26 2 (by omega),w 18 4 (by omega),a0u];omega⟩;unfold lk at h2 ⊢;rw[w 0 4 (by omega),w 4 2 (by omega),w 6 2 (by omega),w 28 2 (by omega)];exact h2
 have b:∀T,BG (x++r) T=BG x T:=fun T=>by
  unfold BG yg;rw[w 14 4 (by omega),w 22 4 (by omega),w 10 4 (by omega),a]
 refine⟨?_,?_,fun p=>?_,?_⟩
 . unfold ep at h ⊢;rw[a0e c,w 8 2 (by omega),hb];rw[a0e (fw (by unfold ep;exact h)).1]at h;simp only[b];exact h
 . unfold enO;rw[w 10 4 (by omega),a]
 . unfold ctO;rw[w 8 2 (by omega),w 10 4 (by omega),w 14 4 (by omega),w 18 4 (by omega),w 22 4 (by omega),a]
 . unfold jk;rw[w 26 2 (by omega),w 18 4 (by omega)]
theorem Ak{r:ByteArray}{p:Nat}(h:p<=t.size):sub (t++r) p=sub t p++r:=aO (by
 rw[dF];simp only[a1w,a1n];rw[dF,a3M (by simp;omega)])
theorem Ba{t r:ByteArray} : ∀{m:Nat} {q:List En×ByteArray×Nat},zst t m=some q->zst (t++r) m=some q
 | 0,q,h=>by cases h;rfl
 | m+1,q,h=>by
  obtain⟨y,T,a,h2,rfl⟩:=dr h;have g:=Ba (r:=r) a;obtain⟨c,d,e,f⟩:=JG h2 r;have b:=Ak (r:=r) (dN a).2.1;have:=kY (T:=T) g (by rw[b];exact c);rw[this];simp only[b,d,e,f]
theorem tN{x r:List UInt8}(h:4<=x.length):(x++r).take 4=x.take 4:=a1d h
theorem AY{l:List En}(h:bC l=true){k:Nat}(C:k<(aV l).size)(w:t.data.toList=(aV l).data.toList.take k):aQ t=none:=by
 rcases A:aQ t with _|l'
 . rfl
 .
  exfalso;obtain⟨m,q,g,h2,B,o⟩:=gN A;obtain⟨r,hr,hr0⟩:∃r:ByteArray,aV l=t++r/\0<r.size:=by
   refine⟨⟨((aV l).data.toList.drop k).toArray⟩,aO ?_,?_⟩
   . simp only[a1w,a1n];rw[w,a1E]
   .
    show 0<((aV l).data.toList.drop k).toArray.size;have:(aV l).data.toList.length=(aV l).size:=by simp
    simp;omega
  have f:=Ba (r:=r) g;rw[←hr]at f;have i:=(dN g).2.1;have a:=Ak (r:=r) i;rw[←hr,o]at a;have p:=xb m q.2.1.size q.2.2 (dN g).2.2.2.1;have d:4<=(q.2.1++cJ m q.2.1.size q.2.2).data.toList.length:=by
   have:(q.2.1++cJ m q.2.1.size q.2.2).size=q.2.1.size+22:=by rw[a0u,dV]
   rw[sX];omega
  have j:(sub (aV l) q.2.2).data.toList.take 4≠[80,75,3,4]:=by
   rw[a,show((q.2.1++cJ m q.2.1.size q.2.2)++r).data.toList=(q.2.1++cJ m q.2.1.size q.2.2).data.toList++r.data.toList by simp,tN d];exact p
  rcases a08 m l.length with v|s
  . have b:=km h (m+1) (by omega);obtain⟨y,T,g1,g2,_⟩:=dr b;rw[f]at g1;obtain rfl:=a02 g1;exact j (ju g2)
  .
   have b:=km h l.length (a0a _);rw[a1v]at b;have c:sub (aV l) (aL l).1.size=ctl l:=by rw[pi h,mJ]
   rcases a08 l.length m with u|n
   . obtain⟨x,z,_⟩:=jf f (by omega:l.length+1<=m);obtain⟨y,T,g1,g2,_⟩:=dr z;rw[b]at g1;obtain rfl:=a02 g1;have:=ju g2;rw[c]at this;rcases sd h with e|e<;>rw[e]at this<;>exact absurd this (by decide)
   .
    obtain rfl:m=l.length:=by omega
    rw[b]at f;obtain rfl:=a02 f;have:=congrArg ByteArray.size (c.symm.trans a);rw[a0u,a0u,dV,se]at this;have e2:(l,(aL l).2,(aL l).1.size).2.1.size=(aL l).2.size:=rfl;omega
def ctH(how st crc pk lg n pl:Nat):List UInt8:=[80,75,1,2]++(leS 2 20++((du how st crc pk lg n).data.toList++([0,0,0,0,0,0,0,0,0,0]++leS 4 pl)))
theorem Bz(how st crc pk lg:Nat)(nm:ByteArray)(pl:Nat):(iH how st crc pk lg nm pl).data.toList=ctH how st crc pk lg nm.size pl++nm.data.toList:=by
 simp[iH,ctH,az]
theorem rr(how st crc pk lg n pl:Nat):(ctH how st crc pk lg n pl).length=46:=by
 have h:=dM how st crc pk lg n;have h2:(du how st crc pk lg n).data.toList.length=26:=by simpa using h
 simp only[ctH,a0m,ax,h2,a0B,a0Q]
theorem LU(how st crc pk lg n pl:Nat):((ctH how st crc pk lg n pl).drop 28).take 2=leS 2 n:=by
 have e:ctH how st crc pk lg n pl=([80,75,1,2]++(leS 2 20++(([20,0,how].flatMap (leS 2))++(leS 4 st++(leS 4 crc++(leS 4 pk++leS 4 lg))))))++(leS 2 n++(leS 2 0++([0,0,0,0,0,0,0,0,0,0]++leS 4 pl))):=by
  simp[ctH,du,az]
 rw[e,a3j (by simp[ax])];rw[a1d (by rw[ax];exact a0a _),a0A (by rw[ax];exact a0a _)]
inductive CtL:List UInt8->List ByteArray->Prop
 | nil:CtL [] []
 | snoc {c:List UInt8} {ns:List ByteArray} (how st crc pk lg pl:Nat) (nm:ByteArray):CtL c ns->nm.size<=43->CtL (c++(ctH how st crc pk lg nm.size pl++nm.data.toList)) (ns++[nm])
inductive CtF:List UInt8->List ByteArray->Prop
 | nil:CtF [] []
 | cons {c:List UInt8} {ns:List ByteArray} (how st crc pk lg pl:Nat) (nm:ByteArray):nm.size<=43->CtF c ns->CtF (ctH how st crc pk lg nm.size pl++nm.data.toList++c) (nm :: ns)
theorem CtF.snoc(h:CtF c ns)(how st crc pk lg pl:Nat)(nm:ByteArray)(g:nm.size<=43):CtF (c++(ctH how st crc pk lg nm.size pl++nm.data.toList)) (ns++[nm]):=by
 induction h with
 | nil=>
  have:=CtF.cons how st crc pk lg pl nm g CtF.nil;rw[a1k]at this;exact this
 | cons a b c d e f x hx _ ih=>
  rw[a0H];exact CtF.cons a b c d e f x hx ih
theorem II(h:CtL c ns):CtF c ns:=by
 induction h with
 | nil=>exact .nil
 | snoc how st crc pk lg pl nm _ hn ih=>exact ih.snoc how st crc pk lg pl nm hn
theorem LS(h:CtF c ns):∀{ms:List ByteArray},CtF c ms->ns=ms:=by
 induction h with
 | nil=>
  intro ms h2;generalize a:([]:List UInt8)=c at h2;cases h2 with
  | nil=>rfl
  | cons how st crc pk lg pl nm hn _=>
   have:=congrArg List.length a;simp only[a0m,rr,a0Q]at this;omega
 | @cons c ns how st crc pk lg pl nm hn h1 ih=>
  intro ms h2;generalize a:ctH how st crc pk lg nm.size pl++nm.data.toList++c=z at h2;cases h2 with
  | nil=>
   have:=congrArg List.length a;simp only[a0m,rr,a0Q]at this;omega
  | @cons c' ns' how' st' crc' pk' lg' pl' nm' hn' h2'=>
   rw[a0H,a0H]at a;obtain⟨e1,e2⟩:=a1h a (by rw[rr,rr]);have e3:=congrArg (fun l:List UInt8=>(l.drop 28).take 2) e1;simp only[LU]at e3;have e4:=congrArg cb e3;rw[gi,gi,a0U (by omega),a0U (by omega)]at e4;obtain⟨e5,e6⟩:=a1h e2 (by simp[e4]);subst e6;rw[aO e5,ih h2']
theorem qi{s:ByteArray} : ∀{m:Nat} {q:List En×ByteArray×Nat},zst s m=some q->CtL q.2.1.data.toList (dZ q.1)
 | 0,q,h=>by cases h;exact .nil
 | m+1,q,h=>by
  obtain⟨r,T,a,h2,rfl⟩:=dr h;have ih:=qi a;have b:=(fw h2).2;have c:=(dz (n:=(enO (sub s r.2.2) T).n) (t:=(enO (sub s r.2.2) T).t) b).1;show CtL (r.2.1++ctO (sub s r.2.2) r.2.2).data.toList (dZ (r.1++[enO (sub s r.2.2) T]));rw[show(r.2.1++ctO (sub s r.2.2) r.2.2).data.toList=r.2.1.data.toList++(ctO (sub s r.2.2) r.2.2).data.toList by simp,show dZ (r.1++[enO (sub s r.2.2) T])=dZ r.1++[nmB (sub s r.2.2)] by simp[dZ,enO]];unfold ctO;rw[Bz];exact .snoc _ _ _ _ _ _ _ ih c
theorem DF{l:List En}(h:bC l=true):CtL (aL l).2.data.toList (dZ l):=by
 have:=qi (km h l.length (a0a _));rwa[a1v]at this
theorem IZ{n z p:Nat}(g:n<65536)(j:z<4294967296)(i:p<4294967296){n' z' a:Nat}(c:n'<65536)(f:z'<4294967296)(d:a<4294967296)(h:cJ n z p=cJ n' z' a):z=z'/\p=a:=by
 have e:=congrArg (fun b:ByteArray=>b.data.toList) h;simp only[mh]at e;have e1:=a1N e;have e2:=a1N e1;have e3:=a1N e2;obtain⟨_,e4⟩:=a1h e3 (by rw[ax,ax]);obtain⟨_,e5⟩:=a1h e4 (by rw[ax,ax]);obtain⟨e6,e7⟩:=a1h e5 (by rw[ax,ax]);obtain⟨e8,_⟩:=a1h e7 (by rw[ax,ax]);have f1:=congrArg cb e6;have f2:=congrArg cb e8;rw[gi,gi,a0U (by omega),a0U (by omega)]at f1;rw[gi,gi,a0U (by omega),a0U (by omega)]at f2;exact⟨f1,f2⟩
theorem Gk{l:List En}(h:bC l=true){A:ByteArray}(g:A.size=(aL l).1.size)(d:t=A++ctl l){l':List En}(o:aQ t=some l'):dZ l'=dZ l:=by
 obtain⟨m,q,b,h2,e,c⟩:=gN o;have hq:=dN b;have f:=(fg e).2;have a:=fg h;have i:=mN l a.1 l.length (a0a _);rw[a1v]at i;have n:t.size=(aL l).1.size+((aL l).2.size+22):=by rw[d,a0u,se,g]
 have j:=hq.2.1;have k:t.size-q.2.2=q.2.1.size+22:=by rw[←fz,c,a0u,dV]
 have t1:t.data.toList=t.data.toList.take q.2.2++(q.2.1.data.toList++(cJ m q.2.1.size q.2.2).data.toList):=by
  have:t.data.toList.drop q.2.2=(q.2.1++cJ m q.2.1.size q.2.2).data.toList:=by rw[←dF,c]
  conv=>lhs;rw[←a1E q.2.2 t.data.toList,this]
  simp
 have t2:t.data.toList=A.data.toList++((aL l).2.data.toList++(cJ l.length (aL l).2.size (aL l).1.size).data.toList):=by
  rw[d];simp[ctl]
 have t3:=t1.symm.trans t2;rw[←a0H,←a0H]at t3;have z1:(cJ m q.2.1.size q.2.2).data.toList.length=22:=by simpa using dV m q.2.1.size q.2.2
 have z2:(cJ l.length (aL l).2.size (aL l).1.size).data.toList.length=22:=by simpa using dV l.length (aL l).2.size (aL l).1.size
 obtain⟨t4,t5⟩:=List.append_inj' t3 (by rw[z1,z2]);have p:m<=6:=by rw[←hq.1];exact f
 obtain⟨c1,c2⟩:=IZ (by omega) (by omega) (by omega) (by omega) (by omega) (by omega) (aO t5);obtain⟨_,t6⟩:=List.append_inj' t4 (by simpa using c1);rw[h2];have n1:=qi b;rw[t6]at n1;exact LS (II n1) (II (DF h))
theorem KM{l:List UInt8}(h:l.take 4=[80,75,1,2]∨l.take 4=[80,75,5,6])(j:Nat)(b:UInt8):(l.set j b).take 4≠[80,75,3,4]:=by
 rw[List.take_set];rcases h with e|e<;>rw[e]<;>intro a;all_goals
  by_cases c:j=2
  . subst c;have:=congrArg (fun x:List UInt8=>x[3]?) a;simp at this
  . have:=congrArg (fun x:List UInt8=>x[2]?) a;rw[List.getElem?_set_ne c]at this;simp at this
theorem Ct{l:List En}(h:bC l=true)(hb:lm (aV l) t){l':List En}(c:aQ t=some l'):dZ l'=dZ l:=by
 have a:t=aV l->dZ l'=dZ l:=fun e=>by
  rw[e,gZ h]at c;rw[←a02 c]
 have o:=se l;have g:(aV l).data.toList=(aL l).1.data.toList++(ctl l).data.toList:=by rw[pi h];simp
 have f:(aL l).1.data.toList.length=(aL l).1.size:=by simp
 have n:(ctl l).data.toList.length=(ctl l).size:=by simp
 rcases hb with e|⟨k,b,i,e⟩|⟨k,i,e⟩|⟨x,e⟩
 . exact a e
 .
  rw[g]at e;rcases a08 k (aL l).1.size with q|p
  .
   rw[List.set_append_left _ _ (by omega)]at e;refine Gk h (A:=⟨((aL l).1.data.toList.set k b).toArray⟩) ?_ (aO ?_) c
   . show((aL l).1.data.toList.set k b).toArray.size=_;simp
   . rw[e];simp
  .
   rw[List.set_append_right _ _ (by omega),f]at e;have et:t=(aL l).1++⟨((ctl l).data.toList.set (k-(aL l).1.size) b).toArray⟩:=aO (by rw[e];simp);by_cases d:(⟨((ctl l).data.toList.set (k-(aL l).1.size) b).toArray⟩:ByteArray)=ctl l
   . exact a (by rw[et,d,pi h])
   . rw[et,AZ h (by show((ctl l).data.toList.set (k-(aL l).1.size) b).take 4≠_;exact KM (sd h) _ _) d]at c;cases c
 . rw[AY h i e]at c;cases c
 .
  rw[g,a0H]at e;have et:t=(aL l).1++(ctl l++⟨x.toArray⟩):=aO (by rw[e];simp);by_cases d:ctl l++(⟨x.toArray⟩:ByteArray)=ctl l
  . exact a (by rw[et,d,pi h])
  .
   have j:4<=(ctl l).data.toList.length:=by omega
   rw[et,AZ h (by
    rw[show(ctl l++(⟨x.toArray⟩:ByteArray)).data.toList=(ctl l).data.toList++x by simp,tN j];rcases sd h with m|m<;>rw[m]<;>decide) d]at c
   cases c
end Go.Proofs.YtlpmnnjlmjffpaaGreatDoor
