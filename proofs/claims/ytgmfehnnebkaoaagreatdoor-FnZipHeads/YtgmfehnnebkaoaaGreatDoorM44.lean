/- Of what the proof is made: 7 texts, one behind the other. -/
import Derived.Test.YtgmfehnnebkaoaaGreatDoorM42
import Derived.Lib.LaidTab
import Derived.Test.YtgmfehnnebkaoaaGreatDoorM41
import Derived.Test.YtgmfehnnebkaoaaGreatDoorM43
import Derived.Test.YtgmfehnnebkaoaaGreatDoorM40
import Derived.Test.YtgmfehnnebkaoaaGreatDoorM34
import Derived.Deep.RegionLaw
import Derived.Lib.SliceRun
import Derived.Test.YtgmfehnnebkaoaaGreatDoorM2
import Derived.BigQuiet
import Derived.Lib.QuietBelow
import Derived.Test.YtgmfehnnebkaoaaGreatDoorM4
import Derived.Laws.IdiomStrings
set_option maxRecDepth 100000
set_option linter.unusedSimpArgs false
set_option linter.unusedVariables false
set_option maxHeartbeats 6400000
namespace Go.Proofs.YtgmfehnnebkaoaaGreatDoor
open Go.Proofs.Tryz
open Go.RowKit Corb
open Go.Lib (decDigits)
def xl(w:World):Prop:=Lib.TabIs prog w "internal/strconv.uint64pow10" .u64 Lib.pow10Tab
theorem xl.later{w w':World}(h:xl w)(hb:Below w.heap.size w w'):xl w':=by
 have hg:prog.globalNamed "internal/strconv.uint64pow10" = some 3:=by kernel_rfl
 unfold xl Lib.TabIs at *
 rw[World.var?,hg,a0f]at h ⊢;have hlt:3<w.heap.size:=by
  rcases a1l 3 w.heap.size with hc|hc
  . exact hc
  . rw[Array.getElem?_eq_none hc]at h;cases h
 rw[hb.block _ hlt];exact h
theorem J8(n:Nat)(c:n<=2000000)(w:World)(b:xl w) :
  CD 102 #[.int .i64 (n:Nat)] w (.string ⟨(decDigits n).toArray⟩):=by
 have h:=Tryz.strconv_Itoa (n:Nat) (by omega) (by omega) w b;have e:Lib.itoa (n:Int)=decDigits n:=by unfold Lib.itoa;rw[a0e (by omega),a0l]
 rw[e]at h;exact h.mono fun _ _ ⟨a,k,os,h2⟩=>⟨a,by rw[h2];exact below_regrown w (w.drawn+k) os⟩
theorem Ix(t l x:ByteArray)(w:World)(n:x.size<=1048576)(i:xl w) :
  CD 62 #[.agg #[.string t,.string l,.string x]] w (.string (lK x)):=by
 have a:prog.follows .mixedOrders=true:=by kernel_rfl
 have e:=af ((a0c w.heap.size w).alloc (a0a _) (.cells #[.string t,.string l,.string x] 68));have P:=af (aC w #[.string t,.string l,.string x] 68);have C:=af (fun W (hb:Below w.heap.size w W)=>J8 x.size (by omega) W (i.later hb));have h:Hid (lK x=⟨(decDigits x.size).toArray⟩++⟨#[10]⟩++x):=rfl;have j:=zh x.size (by omega);have o:(x.size:Int)<=1048576:=by omega
 obtain⟨D,hD⟩:∃D,(⟨(decDigits x.size).toArray⟩:ByteArray)=D:=⟨_,rfl⟩;have f:D.size<=7:=by rw[←hD];exact j
 have q:¬ 9223372036854775807<D.size+1:=by omega
 have h2:¬ 9223372036854775807<D.size+1+x.size:=by omega
 rw[hD]at C h;clear hD j f n i;go_enter func62,ntmps62;go_wp2_with fail;obtain⟨W1,hW1⟩:∃y,w.alloc (.cells #[.string t,.string l,.string x] 68)=y:=⟨_,rfl⟩;rw[hW1]at e P;rw[hW1];clear hW1;have p:=cell_regrown ((ae P).cell 2 _ rfl);have k:=fun d os=>Calls.regrown_of (w:=W1) (d:=d) (os:=os) (ae C _ (ah (ae e) (below_regrown W1 d os)));refine wp_region_quiet_below a (by kernel_rfl) ?_
 quiet_step (fail)
 quiet_step (fail)
 quiet_step (fail)
 quiet_step (exact k _ _)
 quiet_step (fail)
 quiet_step (fail)
 quiet_step (fail)
 quiet_step (fail)
 quiet_step (fail)
 refine a1D ?_;intro zw g;obtain⟨⟨m,osq⟩,b⟩:=g;have c:=below_regrown W1 m osq;rw[←b]at c;have T9:=af (ah (ae e) c);clear b c k p;go_wp2;go_ret;exact⟨by rw[ae h];rfl,ae T9⟩
def nxO(l:ByteArray):ByteArray:=⟨(Lib.cut l.data.toList [10]).2.1.toArray⟩
theorem Pf{l:ByteArray}(h:Lib.indexByte l.data.toList 10 = -1):nxO l=⟨#[]⟩:=by
 unfold nxO Lib.cut;rw[Lib.index_one,h,a0e (by decide)]
theorem KQ{l:ByteArray}{i:Nat}(h:Lib.indexByte l.data.toList 10=(i:Int)):nxO l=lG l i:=by
 unfold nxO Lib.cut;rw[Lib.index_one,h,a0d (by omega),a0l];apply bV;rw[GY];rfl
theorem NS(l:ByteArray):rC l=if (decide (l=lK (nxO l))&&(dE (nxO l)).isSome)=true then some (nxO l)else none:=by
 rcases AL l.data.toList with h|⟨i,h⟩
 . rw[Fo h,a0e];rw[a0j,a0p];exact fun e=>Od h e.1
 .
  rw[NR h,KQ h];by_cases a:l=lK (lG l i)/\(dE (lG l i)).isSome=true
  . rw[a0d a,a0d (by rw[a0j,a0p];exact a)]
  . rw[a0e a,a0e (by rw[a0j,a0p];exact a)]
theorem KR(l:ByteArray):(nxO l).size<=l.size:=by
 rcases AL l.data.toList with h|⟨i,h⟩
 . rw[Pf h];exact a0g _
 . rw[KQ h,lG,a1c];omega
theorem td(t l:ByteArray)(m:Int)(w:World)(g:l.size<=1048576)(f:w.cell? ⟨2,0,none⟩=some (.int .i64 m)) :
  CD 37 #[rR t l] w (.agg #[.string t,.string l,.string (nxO l)]):=by
 have T0:Hid (DkS w _ [.string t,.string l] _):=yE w #[.string t,.string l] #[.string ⟨#[]⟩,.string ⟨#[]⟩,.string ⟨#[]⟩] 37 68;have C:Hid (∀W,Below w.heap.size w W->Calls prog 61 #[.string l,.string ⟨#[10]⟩] W fun e w'=>(∃a b,e = .returned (.tuple #[.string a,.string (nxO l),.bool b]))/\Below W.heap.size W w'):=fun W hb=>by
  have h:=Tryz.strings_Cut l (⟨#[10]⟩:ByteArray) m W (by omega) ((hb.cell (p:=⟨2,0,none⟩) (World.block_lt_of_cell? _ _ f)).trans f);refine h.mono ?_;rintro e w' ⟨rfl,n,rfl⟩;exact⟨⟨_,_,rfl⟩,below_drewN (a0c _ _) n⟩
 generalize nxO l=X at *
 unfold rR;clear g f;go_enter func37,ntmps37;go_wp2_with fail;refine(ae C _ (ae T0).1).mono ?_;rintro e x1 ⟨⟨a,b,rfl⟩,d⟩;have T1:=af ((ae T0).later d);clear d T0 C;have o:=(ae T1).2.1.cell 0 _ rfl;have q:=(ae T1).2.1.cell 1 _ rfl;have i:=(ae T1).2.2.cell 0 _ rfl;have g0:=(ae T1).2.2.free 0 (by decide);have j:=(ae T1).2.2.cell 1 _ rfl;have g1:=(ae T1).2.2.free 1 (by decide);have k:=(ae T1).2.2.cell 2 _ rfl;have g2:=(ae T1).2.2.free 2 (by decide);have TZ:=af ((ae T1).put3 (a:=t) (b:=l) (c:=X));go_wp2;have z0:=(ae TZ).2.2.cell 0 _ rfl;have z1:=(ae TZ).2.2.cell 1 _ rfl;have z2:=(ae TZ).2.2.cell 2 _ rfl;exact a0u (v:=.agg #[.string t,.string l,.string X]) (by simp[results,results37,go_sem,z0,z1,z2]) rfl ⟨rfl,(ae TZ).1⟩
theorem Ew(t l x:ByteArray)(m:Int)(w:World)(i:x.size<=1048576)(g:w.cell? ⟨2,0,none⟩=some (.int .i64 m))(n:jH w)(j:cJ w)(k:xl w) :
  CD 38 #[.agg #[.string t,.string l,.string x]] w (.bool (decide (l=lK x)&&(dE x).isSome)):=by
 have a:prog.follows .mixedOrders=true:=by kernel_rfl
 have c:=af ((a0c w.heap.size w).alloc (a0a _) (.cells #[.string t,.string l,.string x] 68));have P:=af (aC w #[.string t,.string l,.string x] 68);have r:=af (fun W (hb:Below w.heap.size w W)=>Ix t l x W i (k.later hb));have s:=af (fun W (hb:Below w.heap.size w W)=>jJ x m W i ((hb.cell (p:=⟨2,0,none⟩) (World.block_lt_of_cell? _ _ g)).trans g) (n.later hb) (j.later hb));generalize (dE x).isSome=B2 at *
 generalize lK x=Z at *
 obtain⟨D,hD⟩:∃d,(l.toList == Z.toList)=d:=⟨_,rfl⟩;have e:Hid (decide (l=Z)=D):=by
  show _=_;rw[a2j,a0p];exact(Co hD).symm
 clear i g n j k;go_enter func38,ntmps38;go_wp2_with fail;obtain⟨W1,hW1⟩:∃y,w.alloc (.cells #[.string t,.string l,.string x] 68)=y:=⟨_,rfl⟩;rw[hW1]at c P;rw[hW1];clear hW1;have k0:=cell_regrown ((ae P).cell 0 _ rfl);have v:=cell_regrown ((ae P).cell 1 _ rfl);have z:=cell_regrown ((ae P).cell 2 _ rfl);have o:=fun d os=>Calls.regrown_of (w:=W1) (d:=d) (os:=os) (ae r _ (ah (ae c) (below_regrown W1 d os)));have q:=fun d os=>Calls.regrown_of (w:=W1) (d:=d) (os:=os) (ae s _ (ah (ae c) (below_regrown W1 d os)));refine wp_region_quiet_below a (by kernel_rfl) ?_;cases D
 all_goals
  go_big_quiet_step (fail)
  go_big_quiet_step (fail)
  go_big_quiet_step (fail)
  go_big_quiet_step (fail)
  go_big_quiet_step (exact o _ _)
  go_big_quiet_step (fail)
  go_big_quiet_step (fail)
  go_big_quiet_step (fail)
  go_big_quiet_step (fail)
  go_big_quiet_step (exact q _ _)
  go_big_quiet_step (fail)
  go_big_quiet_step (fail)
  refine a1D ?_;intro zw h;obtain⟨⟨u,osq⟩,b⟩:=h;have f:=below_regrown W1 u osq;rw[←b]at f;have T9:=af (ah (ae c) f);clear b f o q k0 v z;go_wp2;go_ret;exact⟨by rw[ae e];rfl,ae T9⟩
theorem qj(t l:ByteArray)(m:Int)(w:World)(N:t.size<=1048576)(C:l.size<=1048576)(D:w.cell? ⟨2,0,none⟩=some (.int .i64 m))(B:jH w)(A:cJ w)(M:xl w) :
  CD 20 #[rR t l] w (uN t l):=by
 have T0:Hid (DkS w _ [.string t,.string l] _):=yE w #[.string t,.string l] #[.string ⟨#[]⟩,.string ⟨#[]⟩] 37 37;have k:=af (World.block_lt_of_cell? _ _ D);have o:=af (fun W (hb:Below w.heap.size w W)=>(hb.cell (p:=⟨2,0,none⟩) (ae k)).trans D);have n:=a0L (KR l) C;have y:=af (fun W (hb:Below w.heap.size w W)=>td t l m W C (ae o _ hb));have E:=af (fun W (hb:Below w.heap.size w W)=>Ew t l (nxO l) m W n (ae o _ hb) (B.later hb) (A.later hb) (M.later hb));have F:=af (fun W=>lr (nxO l) W (by omega));have G:=af (fun W (hb:Below w.heap.size w W)=>jJ t m W N (ae o _ hb) (B.later hb) (A.later hb));have H:=af (fun W=>lr t W (by omega));have r:Hid (∀x,rC l=some x->uN t l = .tuple #[rR x ⟨#[]⟩,.bool true]):=fun x h=>by unfold uN;rw[h]
 have s:Hid (rC l=none->uN t l=if (dE t).isSome=true then .tuple #[rR t ⟨#[]⟩,.bool true]else .tuple #[rR ⟨#[]⟩ ⟨#[]⟩,.bool false]):=fun h=>by unfold uN;rw[h]
 have q:=af (NS l);generalize (decide (l=lK (nxO l))&&(dE (nxO l)).isSome)=BW at *
 generalize (dE t).isSome=B4 at *
 generalize nxO l=X at *
 unfold rR at r s y ⊢;clear N C D B A M o k n;go_enter func20,ntmps20;go_wp2_with fail;refine(ae y _ (ae T0).1).mono ?_;rintro e x1 ⟨rfl,i⟩;have T1:=af ((ae T0).later i);have L:=(a0c x1.heap.size x1).alloc (a0a _) (.cells #[.string t,.string l,.string X] 68);have T2:=af ((ae T1).later L);have z:=af (aC x1 #[.string t,.string l,.string X] 68);clear i T0 y L T1;go_wp2_with fail;refine(ae E _ (ae T2).1).mono ?_;rintro e x3 ⟨rfl,g⟩;have T3:=af ((ae T2).later g);have f:=af ((ae z).later g (ae z).1);obtain⟨QB,hQB⟩:∃b,x1.heap.size=b:=⟨_,rfl⟩;rw[hQB]at f;rw[hQB];clear g T2 z hQB E;have u:=(ae f).cell 0 _ rfl;have O:=(ae f).cell 2 _ rfl;cases BW
 .
  have d:=af (ae s (ae q));clear r s q;go_wp2_with fail;refine(ae G _ (ae T3).1).mono ?_;rintro e x4 ⟨rfl,c⟩;have T4:=af ((ae T3).later c);have I:=af ((ae f).later c (ae f).1);clear c T3 f u O G;cases B4
  . have J:=(ae T4).2.2.cell 0 _ rfl;have g0:=(ae T4).2.2.free 0 (by decide);have K:=(ae T4).2.2.cell 1 _ rfl;have g1:=(ae T4).2.2.free 1 (by decide);have TZ:=af ((ae T4).put (a:=⟨#[]⟩) (b:=⟨#[]⟩));go_wp2;have z0:=(ae TZ).2.2.cell 0 _ rfl;have z1:=(ae TZ).2.2.cell 1 _ rfl;exact a0u (v:=.tuple #[.agg #[.string ⟨#[]⟩,.string ⟨#[]⟩],.bool false]) (by simp[results,results20,go_sem,z0,z1]) rfl ⟨by rw[ae d];rfl,(ae TZ).1⟩
  . have u:=(ae I).cell 0 _ rfl;go_wp2_with fail;refine(ae H _).mono ?_;rintro e x5 ⟨rfl,j⟩;have T5:=af ((ae T4).later j);clear j T4 I u H;have J:=(ae T5).2.2.cell 0 _ rfl;have g0:=(ae T5).2.2.free 0 (by decide);have K:=(ae T5).2.2.cell 1 _ rfl;have g1:=(ae T5).2.2.free 1 (by decide);have TZ:=af ((ae T5).put (a:=t) (b:=⟨#[]⟩));go_wp2;have z0:=(ae TZ).2.2.cell 0 _ rfl;have z1:=(ae TZ).2.2.cell 1 _ rfl;exact a0u (v:=.tuple #[.agg #[.string t,.string ⟨#[]⟩],.bool true]) (by simp[results,results20,go_sem,z0,z1]) rfl ⟨by rw[ae d];rfl,(ae TZ).1⟩
 . have d:=af (ae r X (ae q));clear r s q;go_wp2_with fail;refine(ae F _).mono ?_;rintro e x4 ⟨rfl,c⟩;have T4:=af ((ae T3).later c);clear c T3 f u O F;have J:=(ae T4).2.2.cell 0 _ rfl;have g0:=(ae T4).2.2.free 0 (by decide);have K:=(ae T4).2.2.cell 1 _ rfl;have g1:=(ae T4).2.2.free 1 (by decide);have TZ:=af ((ae T4).put (a:=X) (b:=⟨#[]⟩));go_wp2;have z0:=(ae TZ).2.2.cell 0 _ rfl;have z1:=(ae TZ).2.2.cell 1 _ rfl;exact a0u (v:=.tuple #[.agg #[.string X,.string ⟨#[]⟩],.bool true]) (by simp[results,results20,go_sem,z0,z1]) rfl ⟨by rw[ae d],(ae TZ).1⟩
end Go.Proofs.YtgmfehnnebkaoaaGreatDoor
namespace Go.Proofs.YtgmfehnnebkaoaaGreatDoor
open Go.Proofs.Tryz
open Corb
variable {k:Nat}
def i7(e:En):Nat:=(loE e).size+46+e.n.size
theorem Gk(l:List En):∀s,(l.foldl yK s).1.size+(l.foldl yK s).2.size=s.1.size+s.2.size+(l.map i7).sum:=by
 induction l with
 | nil=>intro s;simp
 | cons e l ih=>
  intro s;rw[List.foldl_cons,ih,a0C,a0M];simp only[yK,a0t,oW,i7];omega
theorem kP{l:List En}(h:ci l=true):(cj l).size=22+(l.map i7).sum:=by
 have:=Gk l (⟨#[]⟩,⟨#[]⟩);have e0:(⟨#[]⟩:ByteArray).size=0:=rfl;rw[Ce h];unfold ar;rw[this];simp only[e0];omega
theorem Ez:dE ⟨#[]⟩=none:=Mw (fun h=>absurd h.1 (by decide))
def ctl(l:List En):ByteArray:=(ar l).2++dK l.length (ar l).2.size (ar l).1.size
theorem kO{l:List En}(h:ci l=true):cj l=(ar l).1++ctl l:=by
 unfold cj ctl;rw[a0d h,a1S]
theorem l9(l:List En):(ctl l).size=(ar l).2.size+22:=by unfold ctl;rw[a0t,kv]
theorem l8{l:List En}(h:ci l=true):(ctl l).data.toList.take 4=[80,75,1,2]∨(ctl l).data.toList.take 4=[80,75,5,6]:=by
 have a:=vi h l.length (a0a _);rw[a1Q]at a;have b:(ar l).2=⟨#[]⟩∨(ar l).2.data.toList.take 4=[80,75,1,2]:=(j8 a).2.2.2.1;unfold ctl;simp only[a1C,a1k];rcases b with e|e
 . right;rw[e,qd];simp
 .
  left;have:4<=(ar l).2.data.toList.length:=by
   have:=congrArg List.length e;rw[a0z]at this;simp at this ⊢;omega
  rw[a1p this,e]
theorem FA{l:List En}(h:ci l=true)(X:ByteArray):∀k,k<=l.length->zst ((ar l).1++X) k=some (l.take k,(ar (l.take k)).2,(ar (l.take k)).1.size)
 | 0,_=>rfl
 | k+1,hk=>by
  have ih:=FA h X k (by omega);obtain⟨x,a⟩:=qQ l (k+1) l.length (by omega) (a0a _);rw[a1Q,dP l k (by omega)]at a;have a:(ar l).1=(ar (l.take k)).1++loE (l.getD k default)++x:=a;have b:sub ((ar l).1++X) (ar (l.take k)).1.size=loE (l.getD k default)++(x++X):=by
   rw[a];simp only[a1S];exact lv _ _
  obtain⟨c,d,e,f⟩:=E4 ((dp h).1 k (by omega)) (x++X);have:=yM (T:=(l.getD k default).t) ih (by show gp (sub _ _)=_;rw[b];exact c);rw[this];simp only[b,d,e,f];rw[dP l k (by omega),jk l default k (by omega)];simp only[yK,a0t]
theorem vg{l:List En}(h:ci l=true){X:ByteArray}(c:X.data.toList.take 4≠[80,75,3,4])(a:X≠ctl l):dE ((ar l).1++X)=none:=by
 have b:=FA h X l.length (a0a _);rw[a1Q]at b;have:=xj b h (by show(sub _ (ar l).1.size).data.toList.take 4≠_;rw[lv];exact c);rw[this,a0e];show ¬ sub _ (ar l).1.size=_;rw[lv];exact a
theorem Ol{l:List En}(h:ci l=true):dE ((cj l).extract 0 ((cj l).size-1))=none:=by
 have a:=l9 l;have e:(cj l).extract 0 ((cj l).size-1)=(ar l).1++(ctl l).extract 0 ((ctl l).size-1):=bV (by
  rw[ext_list,kO h,a0t];simp only[a1C,a1k];rw[ext_list,a1x,a1x,List.take_append,a0o (by simp;omega)]
  congr 2
  simp;omega)
 rw[e];refine vg h ?_ (fun e=>?_)
 . rw[ext_list,a1x,a3a,a1X (by omega)];rcases l8 h with m|m<;>rw[m]<;>decide
 . have:=congrArg ByteArray.size e;rw[a1c]at this;omega
theorem Mz{l:List En}(h:ci l=true):dE (cj l++⟨#[0]⟩)=none:=by
 have a:=l9 l;rw[kO h,a1S];refine vg h ?_ (fun e=>?_)
 . simp only[a1C,a1k];rw[a1p (by simp;omega)];rcases l8 h with m|m<;>rw[m]<;>decide
 . have:=congrArg ByteArray.size e;rw[a0t]at this;have e1:(⟨#[0]⟩:ByteArray).size=1:=rfl;omega
theorem My{l:List En}(h:ci l=true)(g:k<(ctl l).size){b:UInt8}(hb:b=(ctl l).data.toList.getD k 0+1):dE ((cj l).extract 0 ((ar l).1.size+k)++⟨#[b]⟩++(cj l).extract ((ar l).1.size+k+1) (cj l).size)=none:=by
 have p:=l9 l;have i:(ctl l).data.toList.length=(ctl l).size:=by simp
 have n:(ar l).1.data.toList.length=(ar l).1.size:=by simp
 have e:(cj l).extract 0 ((ar l).1.size+k)++⟨#[b]⟩++(cj l).extract ((ar l).1.size+k+1) (cj l).size=(ar l).1++⟨((ctl l).data.toList.set k b).toArray⟩:=bV (by
  simp only[a1C,a1k];rw[ext_list,ext_list,kO h,a0t];simp only[a1C,a1k];rw[a1x,List.take_append,a0o (by omega),a2r,a24 (by omega),n];rw[show(ar l).1.size+k-0-(ar l).1.size=k by omega,show(ar l).1.size+k+1-(ar l).1.size=k+1 by omega];rw[a0X,a0o (l:=(ctl l).data.toList.drop (k+1)) (by rw[a1v];omega)];rw[List.set_eq_take_append_cons_drop,a0d (by omega)];simp)
 have f:(ctl l).data.toList[k]?=some ((ctl l).data.toList.getD k 0):=by simp[List.getD,i,g]
 have d:∀x:UInt8,x+1≠x:=fun x e=>by
  have:=congrArg UInt8.toNat e;rw[UInt8.toNat_add]at this;have o:(1:UInt8).toNat=1:=rfl;have h2:=x.toNat_lt;omega
 rw[e];refine vg h ?_ (fun e=>?_)
 .
  show((ctl l).data.toList.set k b).take 4≠_;rw[List.take_set];by_cases j:k<4
  .
   have c:((ctl l).data.toList.take 4)[k]?=some ((ctl l).data.toList.getD k 0):=by rw[List.getElem?_take,a0d j];exact f
   rw[hb];generalize (ctl l).data.toList.getD k 0=x at *
   rcases l8 h with m|m;all_goals
    rw[m]at c ⊢;rcases (by omega:k=0∨k=1∨k=2∨k=3)with rfl|rfl|rfl|rfl;all_goals
     simp at c;subst c;decide
  . rw[List.set_eq_of_length_le (by rw[a0z];omega)];rcases l8 h with m|m<;>rw[m]<;>decide
 . have e2:=congrArg (fun z:ByteArray=>z.data.toList[k]?) e;simp only at e2;rw[f]at e2;rw[show(((ctl l).data.toList.set k b).toArray).toList[k]?=some b by simp[i,g]]at e2;rw[hb]at e2;exact d _ (a1h e2)
theorem Mx{l:List En}(h:ci l=true)(a:k<l.length):my (sub (cj l) (ar (l.take k)).1.size) = .tuple #[.agg #[.string (l.getD k default).n,.int .i64 (l.getD k default).y,.int .i64 (l.getD k default).mo,.int .i64 (l.getD k default).d,.int .i64 (l.getD k default).h,.int .i64 (l.getD k default).mi,.int .i64 (l.getD k default).s,.string (l.getD k default).t],.int .i64 ((loE (l.getD k default)).size:Nat),.bool true]/\(ar (l.take (k+1))).1.size=(ar (l.take k)).1.size+(loE (l.getD k default)).size/\(ar (l.take k)).1.size<=(cj l).size:=by
 obtain⟨r,c⟩:=Ch h a;have b:fy (l.getD k default).n (l.getD k default).y (l.getD k default).mo (l.getD k default).d (l.getD k default).h (l.getD k default).mi (l.getD k default).s (l.getD k default).t=true:=(dp h).1 k a;have eP:gq (l.getD k default).n (l.getD k default).y (l.getD k default).mo (l.getD k default).d (l.getD k default).h (l.getD k default).mi (l.getD k default).s (l.getD k default).t=loE (l.getD k default):=by unfold gq;rw[a0d b];rfl
 refine⟨?_,?_,?_⟩
 . rw[c,lv];have:=DN b r;rw[eP]at this;exact this
 . rw[dP l k a];simp only[yK,a0t]
 . rw[c,a0t];omega
theorem Pt{l:List En}(h:ci l=true):(cj l).extract (ar l).1.size ((ar l).1.size+2)=⟨#[80,75]⟩/\(ar l).1.size+22<=(cj l).size:=by
 have a:=l9 l;refine⟨bV ?_,by rw[kO h,a0t];omega⟩;rw[ext_list,a1M,←uV,kO h,lv];have e:((ctl l).data.toList.take 4).take 2=(ctl l).data.toList.take 2:=by rw[a3a];rfl
 rw[←e];rcases l8 h with m|m<;>rw[m]<;>rfl
open Go.RowKit
theorem MA(a:Option Addr)(len cap:Nat)(zs:List Int)(m:Int)(w:World)(w0:qS .u8 w a len cap zs)(Q:w.cell? ⟨2,0,none⟩=some (.int .i64 m))(hg:jH w)(Z:cJ w) :
  CD 4 #[.slice a len cap] w (.bool true):=by
 obtain⟨⟨z,k⟩,hc,i⟩:=qM w0;have s:=af (gi a len cap z w k hc i);have f:=af (fun W (hb:Below w.heap.size w W)=>a0b ((hb.cell (p:=⟨2,0,none⟩) (World.block_lt_of_cell? _ _ Q)).trans Q) (a0b (hg.later hb) (Z.later hb)));unfold maxLen at i;clear w0 k Q hg Z;by_cases hl:(len:Int)<=1048576
 .
  go_enter func4,ntmps4;go_wp2_with fail;refine(ae s).mono ?_;rintro e w1 ⟨⟨v,l,rfl,F,h7,hT,M⟩,A⟩;obtain⟨n,hn⟩:∃n,l.length=n:=⟨_,rfl⟩;obtain⟨ga,tc,rfl,ab,_⟩:=bu.formN hn F;have HN:=af hn;have ac:=af F;have b:=af A;have X:=af (pL hn hT);have ao:(n:Int)<=7:=by omega
  have P:(n:Int)<=(tc:Int):=by omega
  have J:=af (ez ga tc l n hn m w1 (cm hn F) (by omega) P (ae X) (ae f w1 (ah (ae b) (a0c _ _))).1 (ae f w1 (ah (ae b) (a0c _ _))).2.1 (ae f w1 (ah (ae b) (a0c _ _))).2.2);have I:=af (fun W (d:Below w1.heap.size w1 W)=>gw ga tc l n hn W (cm hn (F.later d (a0a _))) (by omega) (ae X));clear F A hT h7 hn s M i hc;obtain⟨S,hS⟩:∃x,cj l=x:=⟨_,rfl⟩;rw[hS]at J I;have y:=af hS;clear hS;go_wp2_with fail;refine(ae J).mono ?_;rintro e w2 ⟨rfl,B⟩;have o:=af B;clear B J;go_wp2_with fail;refine(ae I w2 (ae o)).mono ?_;rintro e w3 ⟨rfl,C⟩;have c:=af (ah (ae o) C);clear C o;cases j:ci l
  .
   have O:S=⟨#[]⟩:=by rw[←ae y];unfold cj;rw[j];rfl
   clear j;subst O;go_wp2_with fail;refine(ae I w3 (ae c)).mono ?_;rintro e w4 ⟨rfl,h⟩;have g:=af (ah (ae c) h);clear h c;have r:=af (ah (ae b) (ae g));go_wp2;go_ret;exact⟨rfl,ae r⟩
  .
   have Y:=af j;have H:22<=S.size:=by rw[←ae y,kP j];omega
   have a0:S.size<=4000:=by rw[←ae y];exact hH l
   have R:¬ S=ByteArray.empty:=fun e=>by rw[e]at H;exact absurd H (by decide)
   have an:S.toList.isEmpty=false:=sy R;clear j I;obtain⟨N,hN⟩:∃N,S.size=N+1:=⟨S.size-1,by omega⟩;have L:(S.size:Int)-1=(N:Int):=by omega
   have ad:(S.size:Int)=(N:Int)+1:=by omega
   have t:Hid (dE (S.extract 0 N)=none):=by show _=_;have:=Ol (ae Y);rw[ae y,hN]at this;exact this
   have u:Hid (dE (S++⟨#[0]⟩)=none):=by show _=_;have:=Mz (ae Y);rw[ae y]at this;exact this
   have G:(S++(⟨#[0]⟩:ByteArray)).size<=1048576:=by rw[a0t];have:(⟨#[0]⟩:ByteArray).size=1:=rfl;omega
   have T:=af (fun W (d:Below w1.heap.size w1 W)=>db (S.extract 0 N) m W (by rw[a1c];omega) (ae f W (ah (ae b) d)).1 (ae f W (ah (ae b) d)).2.1 (ae f W (ah (ae b) d)).2.2);have U:=af (fun W (d:Below w1.heap.size w1 W)=>db (S++⟨#[0]⟩) m W G (ae f W (ah (ae b) d)).1 (ae f W (ah (ae b) d)).2.1 (ae f W (ah (ae b) d)).2.2);have V:=af (fun W (d:Below w1.heap.size w1 W)=>db ⟨#[]⟩ m W (by decide) (ae f W (ah (ae b) d)).1 (ae f W (ah (ae b) d)).2.1 (ae f W (ah (ae b) d)).2.2);rw[ae t]at T;rw[ae u]at U;rw[Ez]at V;have aa:¬ (9223372036854775807:Nat)<S.size+(⟨#[0]⟩:ByteArray).size:=by have:(⟨#[0]⟩:ByteArray).size=1:=rfl;omega
   have a1:IntKind.i64.wrap ((S.size:Int)-1)=(N:Int):=by rw[L];exact cR _ (by omega)
   clear hN G t u;go_wp2_with fail;refine(ae T w3 (ae c)).mono ?_;rintro e w4 ⟨⟨v4,rfl,_⟩,h⟩;have g:=af (ah (ae c) h);clear h c;go_wp2_with fail;refine(ae U w4 (ae g)).mono ?_;rintro e w5 ⟨⟨v5,rfl,_⟩,D⟩;have q:=af (ah (ae g) D);clear D g;go_wp2_with fail;refine(ae V w5 (ae q)).mono ?_;rintro e w6 ⟨⟨v6,rfl,_⟩,E⟩;have K:=af (ah (ae q) E);clear E q;have r:=af (ah (ae b) (ae K));go_wp2;go_ret;exact⟨rfl,ae r⟩
 . go_enter func4,ntmps4;go_wp2;go_ret;exact⟨rfl,a0c _ _⟩
theorem IR(a:Option Addr)(len cap:Nat)(zs:List Int)(m:Int)(w:World)(w0:qS .u8 w a len cap zs)(hm:w.cell? ⟨2,0,none⟩=some (.int .i64 m))(hg:jH w)(hO:cJ w) :
  CD 6 #[.slice a len cap] w (.bool true):=by
 obtain⟨⟨z,C⟩,hc,o⟩:=qM w0;have N:=af (gi a len cap z w C hc o);have J:=af (fun W (hb:Below w.heap.size w W)=>a0b ((hb.cell (p:=⟨2,0,none⟩) (World.block_lt_of_cell? _ _ hm)).trans hm) (a0b (hg.later hb) (hO.later hb)));unfold maxLen at o;clear w0 C hm hg hO;by_cases hl:(len:Int)<=1048576
 .
  go_enter func6,ntmps6;go_wp2_with fail;refine(ae N).mono ?_;rintro e w1 ⟨⟨v,l,rfl,ho,h7,hT,a4⟩,T⟩;obtain⟨n,hn⟩:∃n,l.length=n:=⟨_,rfl⟩;obtain⟨ga,tc,rfl,a8,_⟩:=bu.formN hn ho;have O:=af hn;have Q:=af ho;have c:=af T;have HT:=af (pL hn hT);have bd:(n:Int)<=7:=by omega
  have a6:(n:Int)<=(tc:Int):=by omega
  have CP:=af (ez ga tc l n hn m w1 (cm hn ho) (by omega) a6 (ae HT) (ae J w1 (ah (ae c) (a0c _ _))).1 (ae J w1 (ah (ae c) (a0c _ _))).2.1 (ae J w1 (ah (ae c) (a0c _ _))).2.2);have CQ:=af (fun W (hW:Below w1.heap.size w1 W)=>gw ga tc l n hn W (cm hn (ho.later hW (a0a _))) (by omega) (ae HT));clear ho T hT h7 hn N a4 o hc;obtain⟨S,hS⟩:∃x,cj l=x:=⟨_,rfl⟩;rw[hS]at CP CQ;have R:=af hS;clear hS;go_wp2_with fail;refine(ae CP).mono ?_;rintro e w2 ⟨rfl,U⟩;have E:=af U;clear U CP;go_wp2_with fail;refine(ae CQ w2 (ae E)).mono ?_;rintro e w3 ⟨rfl,V⟩;have f:=af (ah (ae E) V);clear V E;cases u:ci l
  .
   have a5:S=⟨#[]⟩:=by rw[←ae R];unfold cj;rw[u];rfl
   clear u;subst a5;go_wp2_with fail;refine(ae CQ w3 (ae f)).mono ?_;rintro e w4 ⟨rfl,X⟩;have an:=af (ah (ae f) X);clear X f;have F:=af (ah (ae c) (ae an));go_wp2;go_ret;exact⟨rfl,ae F⟩
  .
   have HZ:=af u;have ad:22<=S.size:=by rw[←ae R,kP u];omega
   have be:S.size<=4000:=by rw[←ae R];exact hH l
   have a7:¬ S=ByteArray.empty:=fun e=>by rw[e]at ad;exact absurd ad (by decide)
   have bc:S.toList.isEmpty=false:=sy a7;clear u CQ;have D:Hid (∀k,k<n->my (sub S (ar (l.take k)).1.size) = .tuple #[.agg #[.string (l.getD k default).n,.int .i64 (l.getD k default).y,.int .i64 (l.getD k default).mo,.int .i64 (l.getD k default).d,.int .i64 (l.getD k default).h,.int .i64 (l.getD k default).mi,.int .i64 (l.getD k default).s,.string (l.getD k default).t],.int .i64 ((loE (l.getD k default)).size:Nat),.bool true]/\(ar (l.take (k+1))).1.size=(ar (l.take k)).1.size+(loE (l.getD k default)).size/\(ar (l.take k)).1.size<=S.size):=fun k hk=>by
    rw[←ae R];exact Mx (ae HZ) (by rw[ae O];exact hk)
   have G:Hid (S.extract (ar (l.take n)).1.size ((ar (l.take n)).1.size+2)=⟨#[80,75]⟩/\(ar (l.take n)).1.size+22<=S.size):=by
    rw[a0o (by rw[ae O];exact a0a _),←ae R];exact Pt (ae HZ)
   go_wp2_with fail
   go_loopw [5,6,7,8,9] (fun at_ i _ _ _ wr=>∃k:Nat,k<=n/\i = .int .i64 k/\at_ = .int .i64 ((ar (l.take k)).1.size:Nat)/\Below w1.heap.size w1 wr) (fun _ i _ _ _ _=>n-(intOf i).toNat)
   case atStart=>exact⟨0,a0g _,rfl,rfl,ae f⟩
   case round=>
    obtain⟨k,hk,rfl,rfl,Z⟩:=hrel;have j:=af Z;clear Z f;by_cases r:k<n
    .
     have ab:(k:Int)<(n:Int):=by omega
     have HK:=af r;obtain⟨q,b,H⟩:=ae D k r;obtain⟨g,rfl⟩:=bu.somes (ae Q) (by rw[ae O];omega);have M:=af (fun W hW=>sj (ae O) ((ae Q).later (B:=w1.heap.size) (w':=W) hW (a0a _)) k r);have aa:=kA ((dp (ae HZ)).1 k (by rw[ae O];exact r));have I:=af (qn (S.extract (ar (l.take k)).1.size S.size) m wr (by rw[a1c];omega) (ae J wr (ah (ae c) (ae j))).1 (ae J wr (ah (ae c) (ae j))).2.2);unfold sub at q;rw[q]at I;obtain⟨P,hP⟩:∃x,(loE (l.getD k default)).size=x:=⟨_,rfl⟩;obtain⟨A,hA⟩:∃x,(ar (l.take k)).1.size=x:=⟨_,rfl⟩;rw[hP]at I b aa;rw[hA]at I b H;rw[hA];have ao:=af b;have a9:(A:Int)<=(S.size:Int):=by omega
     have ba:(A:Int)<=4000:=by omega
     have bb:(P:Int)<=400:=by omega
     have e1:IntKind.i64.wrap ((A:Int)+(P:Int))=(A:Int)+(P:Int):=by rw[a1e];omega
     clear q b hP hA hk r aa D G;generalize l.getD k default=en at *
     go_wp2_with fail;refine(ae I).mono ?_;rintro e w5 ⟨rfl,Y⟩;have K:=af (ah (ae j) Y);have L:=af ((ae K).alloc (ae K).size (.cells #[.string en.n,.int .i64 en.y,.int .i64 en.mo,.int .i64 en.d,.int .i64 en.h,.int .i64 en.mi,.int .i64 en.s,.string en.t] 33));have pA:=(aC w5 #[.string en.n,.int .i64 en.y,.int .i64 en.mo,.int .i64 en.d,.int .i64 en.h,.int .i64 en.mi,.int .i64 en.s,.string en.t] 33).cells (n:=8) rfl;obtain⟨c0,c1,c2,c3,c4,c5,c6,c7⟩:=ae M _ (ae L);clear Y I j M;go_wp2_with fail
     go_quiet (fail)
     clear pA c0 c1 c2 c3 c4 c5 c6 c7;go_wp2_with fail;go_roundw
     case rel=>exact⟨k+1,by have:=ae HK;omega,by go_num,by rw[ae ao];go_num,below_drewN (ae L) _⟩
     case measure=>have:=ae HK;simp[intOf];omega
    .
     have ab:¬ (k:Int)<(n:Int):=by omega
     obtain rfl:k=n:=by omega
     obtain⟨ac,H⟩:=ae G;obtain⟨A,hA⟩:∃x,(ar (l.take k)).1.size=x:=⟨_,rfl⟩;rw[hA]at ac H;rw[hA];obtain⟨N2,hN2⟩:∃x,A+2=x:=⟨_,rfl⟩;rw[hN2]at ac;have a0:(A:Int)+2=(N2:Int):=by omega
     have bk:IntKind.i64.wrap ((A:Int)+2)=(N2:Int):=by rw[a0];exact cR _ (by omega)
     have a1:(A:Int)<=(N2:Int):=by omega
     have a2:(N2:Int)<=(S.size:Int):=by omega
     have a3:(A:Int)<(S.size:Int):=by omega
     clear hA hN2 G D hk;have F:=af (ah (ae c) (ae j));go_wp2;go_ret;exact⟨rfl,ae F⟩
 . go_enter func6,ntmps6;go_wp2;go_ret;exact⟨rfl,a0c _ _⟩
theorem qV(a b:Option Addr)(c d n:Nat)(l:List En)(w:World)(O:l.length=n)(L:iV w a l)(hb:iV w b l)(T:n<=1000) :
  CD 15 #[.slice a n c,.slice b n d] w (.bool true):=by
 have N:prog.follows .mixedOrders=true:=by kernel_rfl
 have P:=af L;have Q:=af hb;have x:=af O;have U:(n:Int)<=1000:=by omega
 clear L hb O T;go_enter func15,ntmps15;go_wp2_with fail
 go_loopw [5] (fun i wr=>∃k:Nat,k<=n/\i = .int .i64 k/\Below w.heap.size w wr) (fun i _=>n-(intOf i).toNat)
 case atStart=>exact⟨0,a0g _,rfl,a0c _ _⟩
 case round=>
  obtain⟨k,S,rfl,m⟩:=hrel;by_cases s:k<n
  .
   have u:(k:Int)<(n:Int):=by omega
   have z:=af s;obtain⟨g,o,rfl,r,M⟩:=ae P (by rw[ae x];omega);obtain⟨g',o',rfl,f,t⟩:=ae Q (by rw[ae x];omega);obtain⟨c0,c1,c2,c3,c4,A,B,C⟩:=M k (by rw[ae x];exact s);obtain⟨D,E,F,G,H,I,J,K⟩:=t k (by rw[ae x];exact s);have q:∀(h j:Nat) (v:Value),h<w.heap.size->w.cell? ⟨h,j,none⟩=some v->wr.cell? ⟨h,j,none⟩=some v:=fun h j v R e=>(m.cell (p:=⟨h,j,none⟩) R).trans e
   replace c0:=q _ _ _ r c0
   replace c1:=q _ _ _ r c1
   replace c2:=q _ _ _ r c2
   replace c3:=q _ _ _ r c3
   replace c4:=q _ _ _ r c4
   replace A:=q _ _ _ r A
   replace B:=q _ _ _ r B
   replace C:=q _ _ _ r C
   replace D:=q _ _ _ f D
   replace E:=q _ _ _ f E
   replace F:=q _ _ _ f F
   replace G:=q _ _ _ f G
   replace H:=q _ _ _ f H
   replace I:=q _ _ _ f I
   replace J:=q _ _ _ f J
   replace K:=q _ _ _ f K
   have y:=af m;clear M t q m S s r f;generalize l.getD k default=en at *
   go_wp2_with fail
   go_quiet (fail)
   go_wp2_with fail;go_roundw
   case rel=>exact⟨k+1,by have:=ae z;omega,by go_num,below_drewN (ae y) _⟩
   case measure=>have:=ae z;simp[intOf];omega
  .
   have u:¬ (k:Int)<(n:Int):=by omega
   go_wp2;go_ret;exact⟨rfl,m⟩
theorem IP{l:List En}(h:k<l.length):((l.take (k+1)).map i7).sum=((l.take k).map i7).sum+i7 (l.getD k default):=by
 rw[jk l default k h];simp
theorem Ks{e:En}(h:ik e=true):gq e.n e.y e.mo e.d e.h e.mi e.s e.t=loE e:=by unfold gq;rw[a0d (show fy e.n e.y e.mo e.d e.h e.mi e.s e.t=true from h)];rfl
theorem On{l:List En}(h:ci l=true)(k:Nat):((l.take k).map i7).sum<=4000:=by
 have a:=hH l;rw[kP h]at a;have h2:(l.map i7).sum=((l.take k).map i7).sum+((l.drop k).map i7).sum:=by
  conv=>lhs;rw[←a1H k l,a0I,List.sum_append]
 omega
theorem Dh(a:Option Addr)(len cap:Nat)(zs:List Int)(m:Int)(w:World)(w0:qS .u8 w a len cap zs)(hm:w.cell? ⟨2,0,none⟩=some (.int .i64 m))(hg:jH w)(hO:cJ w) :
  CD 3 #[.slice a len cap] w (.bool true):=by
 obtain⟨⟨z,J⟩,hc,D⟩:=qM w0;have ab:=af (gi a len cap z w J hc D);have G:=af (fun W (hb:Below w.heap.size w W)=>a0b ((hb.cell (p:=⟨2,0,none⟩) (World.block_lt_of_cell? _ _ hm)).trans hm) (a0b (hg.later hb) (hO.later hb)));unfold maxLen at D;clear w0 J hm hg hO;by_cases hl:(len:Int)<=1048576
 .
  go_enter func3,ntmps3;go_wp2_with fail;refine(ae ab).mono ?_;rintro e w1 ⟨⟨v,l,rfl,V,h7,hT,be⟩,an⟩;obtain⟨n,hn⟩:∃n,l.length=n:=⟨_,rfl⟩;obtain⟨ga,tc,rfl,bs,_⟩:=bu.formN hn V;have I:=af hn;have R:=af V;have b:=af an;have Y:=af (pL hn hT);have b1:(n:Int)<=7:=by omega
  have a4:(n:Int)<=(tc:Int):=by omega
  have CI:=af (fun W (f:Below w1.heap.size w1 W)=>jQ ga tc l n hn m W (cm hn (V.later f (a0a _))) (by omega) a4 (ae Y) (ae G W (ah (ae b) f)).1 (ae G W (ah (ae b) f)).2.1);have Z:=af (fun W (f:Below w1.heap.size w1 W)=>jW ga tc l n hn W (cm hn (V.later f (a0a _))) (by omega) (ae Y));have CP:=af (ez ga tc l n hn m w1 (cm hn V) (by omega) a4 (ae Y) (ae G w1 (ah (ae b) (a0c _ _))).1 (ae G w1 (ah (ae b) (a0c _ _))).2.1 (ae G w1 (ah (ae b) (a0c _ _))).2.2);have CQ:=af (fun W (f:Below w1.heap.size w1 W)=>gw ga tc l n hn W (cm hn (V.later f (a0a _))) (by omega) (ae Y));clear V an hT h7 hn ab be D hc;obtain⟨S,hS⟩:∃x,cj l=x:=⟨_,rfl⟩;rw[hS]at CP CQ;have HS:=af hS;clear hS;go_wp2_with fail;refine(ae CP).mono ?_;rintro e w2 ⟨rfl,ao⟩;have L:=af ao;clear ao CP;go_wp2_with fail;refine(ae CQ w2 (ae L)).mono ?_;rintro e w3 ⟨rfl,a0⟩;have M:=af (ah (ae L) a0);clear a0 L;generalize F:ci l=zb at *
  go_wp2_with fail;refine(ae CI w3 (ae M)).mono ?_;rintro e w4 ⟨rfl,a1⟩;have N:=af (ah (ae M) a1);clear a1 M;go_wp2_with fail;refine(ae Z w4 (ae N)).mono ?_;rintro e w5 ⟨rfl,a2⟩;have j:=af (ah (ae N) a2);clear a2 N;cases zb
  . clear F;go_wp2_with fail;refine(ae Z w5 (ae j)).mono ?_;rintro e w6 ⟨rfl,r⟩;have c:=af (ah (ae j) r);clear r j;go_wp2_with fail;refine(ae CQ w6 (ae c)).mono ?_;rintro e w7 ⟨rfl,o⟩;have q:=af (ah (ae c) o);clear o c;go_wp2_with fail;refine(ae CI w7 (ae q)).mono ?_;rintro e w8 ⟨rfl,u⟩;have O:=af (ah (ae q) u);clear u q;go_wp2_with fail;refine(ae Z w8 (ae O)).mono ?_;rintro e w9 ⟨rfl,a3⟩;have ba:=af (ah (ae O) a3);clear a3 O;have Q:=af (ah (ae b) (ae ba));go_wp2;go_ret;exact⟨rfl,ae Q⟩
  .
   have HZ:=af F;have HL:=af (kP F);have b2:S.size<=4000:=by rw[←ae HS];exact hH l
   have CG:=af (fun W (f:Below w1.heap.size w1 W)=>db S m W (by omega) (ae G W (ah (ae b) f)).1 (ae G W (ah (ae b) f)).2.1 (ae G W (ah (ae b) f)).2.2);have hG:=Cg F;rw[ae HS]at hG;rw[hG]at CG;rw[ae HS]at HL;clear hG F CQ CI;go_wp2_with fail;refine(ae Z w5 (ae j)).mono ?_;rintro e w6 ⟨rfl,r⟩;have c:=af (ah (ae j) r);clear r j;go_wp2_with fail;refine(ae CG w6 (ae c)).mono ?_;rintro e w7 ⟨⟨v7,rfl,X⟩,o⟩;obtain⟨g7,c7,rfl,_,_⟩:=bu.formN (ae I) X;have bc:=af (a0b X o.size);have q:=af (ah (ae c) o);clear o X c CG Z;have CL:=af (fun(k:Nat) (hk:k<n) W (f:Below w1.heap.size w1 W)=>kw (l.getD k default).n (l.getD k default).y (l.getD k default).mo (l.getD k default).d (l.getD k default).h (l.getD k default).mi (l.getD k default).s (l.getD k default).t m W (ae Y k hk).1 (ae Y k hk).2 (ae G W (ah (ae b) f)).1 (ae G W (ah (ae b) f)).2.2);have a7:prog.follows .mixedOrders=true:=by kernel_rfl
   go_wp2_with fail
   go_loopw [7,8] (fun s i wr=>∃k:Nat,k<=n/\i = .int .i64 k/\s = .int .i64 ((22+((l.take k).map i7).sum:Nat):Int)/\Below w7.heap.size w7 wr) (fun _ i _=>n-(intOf i).toNat)
   case atStart=>exact⟨0,a0g _,rfl,rfl,a0c _ _⟩
   case round=>
    obtain⟨k,hk,rfl,rfl,U⟩:=hrel;have aa:=af U;have HB:=af (ah (ae q) U);clear U;by_cases E:k<n
    .
     have a6:(k:Int)<(n:Int):=by omega
     have HK:=af E;obtain⟨g,rfl⟩:=bu.somes (ae R) (by rw[ae I];omega);obtain⟨c0,c1,c2,c3,c4,c5,c6,c7⟩:=sj (ae I) ((ae R).later (ae HB) (a0a _)) k E;have C:k<l.length:=by rw[ae I];exact E
     have H:((l.take (k+1)).map i7).sum=((l.take k).map i7).sum+((loE (l.getD k default)).size+46+(l.getD k default).n.size):=IP C;have hE:gq (l.getD k default).n (l.getD k default).y (l.getD k default).mo (l.getD k default).d (l.getD k default).h (l.getD k default).mi (l.getD k default).s (l.getD k default).t=loE (l.getD k default):=Ks ((dp (ae HZ)).1 k C);have a8:=kA ((dp (ae HZ)).1 k C);have bk:=vh (ae HZ) k C;have a5:=On (ae HZ) k;have K:=af (ae CL k E);rw[hE]at K;clear hE hk E C;obtain⟨P,hP⟩:∃x,loE (l.getD k default)=x:=⟨_,rfl⟩;rw[hP]at K H a8;obtain⟨A,hA⟩:∃x,((l.take k).map i7).sum=x:=⟨_,rfl⟩;rw[hA]at H a5;rw[hA];have bd:=af H;generalize l.getD k default=en at *
     have e1:IntKind.i64.wrap (((22+A:Nat):Int)+(P.size:Int))=((22+A:Nat):Int)+(P.size:Int):=by rw[a1e];omega
     have e2:IntKind.i64.wrap (((22+A:Nat):Int)+(P.size:Int)+46)=((22+A:Nat):Int)+(P.size:Int)+46:=by rw[a1e];omega
     have e3:IntKind.i64.wrap (((22+A:Nat):Int)+(P.size:Int)+46+(en.n.size:Int))=((22+A:Nat):Int)+(P.size:Int)+46+(en.n.size:Int):=by rw[a1e];omega
     have cL:=fun d os=>Calls.regrown_of (w:=wr) (d:=d) (os:=os) (ae K _ (ah (ae HB) (below_regrown wr d os)));have k0:=cell_regrown c0;have k1:=cell_regrown c1;have k2:=cell_regrown c2;have k3:=cell_regrown c3;have k4:=cell_regrown c4;have k5:=cell_regrown c5;have k6:=cell_regrown c6;have k7:=cell_regrown c7;have b0:((22+A:Nat):Int)<=10000:=by omega
     generalize ad:((22+A:Nat):Int)=B at *
     have bb:=af ad;clear ad;clear H hP hA a5 a8 bk;go_wp2_with fail;refine wp_region_quiet_below a7 (by kernel_rfl) ?_;repeat (quiet_step (exact cL _ _))
     refine a1D ?_;intro zw bl;obtain⟨⟨dq,osq⟩,a9⟩:=bl;have T:=below_regrown wr dq osq;rw[←a9]at T;have BZ:=af (ah (ae aa) T);clear a9 T k0 k1 k2 k3 k4 k5 k6 k7 cL c0 c1 c2 c3 c4 c5 c6 c7;go_wp2_with fail;go_roundw
     case rel=>exact⟨k+1,by have:=ae HK;omega,by go_num,by rw[ae bd,←ae bb];congr 1;omega,ae BZ⟩
     case measure=>have:=ae HK;simp[intOf];omega
    .
     have a6:¬ (k:Int)<(n:Int):=by omega
     obtain rfl:k=n:=by omega
     have ac:Hid (((22+((l.take k).map i7).sum:Nat):Int)=(S.size:Int)):=by show _=_;rw[a0o (by rw[ae I];exact a0a _),ae HL]
     rw[ae ac];have CB:=af (qV g7 ga c7 tc k l wr (ae I) (cm (ae I) ((ae bc).1.later (ae aa) (a0a _))) (cm (ae I) ((ae R).later (ae HB) (a0a _))) (by omega));clear ac;go_wp2_with fail;refine(ae CB).mono ?_;rintro e w8 ⟨rfl,u⟩;have Q:=af (ah (ae b) (ah (ae HB) u));clear u;go_wp2;go_ret;exact⟨rfl,ae Q⟩
 . go_enter func3,ntmps3;go_wp2;go_ret;exact⟨rfl,a0c _ _⟩
theorem G6(W:World)(p:Nat)(b:UInt8)(h:W.cell? ⟨p,0,none⟩=some (.int .u8 (b.toNat:Int))) :
  (convert 22 9 (.slice (some ⟨p,0,none⟩) 1 1)).run prog W = .ok (.string ⟨[b].toArray⟩) W:=by
 refine a3u _ _ _ 5 ⟨p,0,none⟩ 1 [b] a06 a2b a2c (fun j c=>?_);have a:j=0:=by simpa using c
 subst a;simpa[Addr.add]using h
theorem IQ(a:Option Addr)(len cap:Nat)(zs:List Int)(a1:Option Addr)(len1 M:Nat)(zs1:List Int)(m:Int)(w:World)(w0:qS .u8 w a len cap zs)(v0:qS .u8 w a1 len1 M zs1)(hm:w.cell? ⟨2,0,none⟩=some (.int .i64 m))(hg:jH w)(hO:cJ w) :
  CD 7 #[.slice a len cap,.slice a1 len1 M] w (.bool true):=by
 obtain⟨⟨z,O⟩,hc,F⟩:=qM w0;obtain⟨_,_,aa⟩:=qM v0;have ab:=af (gi a len cap z w O hc F);have J:=af (fun W (hb:Below w.heap.size w W)=>a0b ((hb.cell (p:=⟨2,0,none⟩) (World.block_lt_of_cell? _ _ hm)).trans hm) (a0b (hg.later hb) (hO.later hb)));unfold maxLen at F aa;clear v0 w0 O hm hg hO;by_cases hl:(len:Int)<=1048576
 .
  by_cases dv:(len1:Int)<=1048576
  .
   go_enter func7,ntmps7;go_wp2_with fail;refine(ae ab).mono ?_;rintro e w1 ⟨⟨v,l,rfl,ho,h7,hT,b0⟩,ao⟩;obtain⟨n,hn⟩:∃n,l.length=n:=⟨_,rfl⟩;obtain⟨ga,tc,rfl,ca,_⟩:=bu.formN hn ho;have HN:=af hn;have ac:=af ho;have q:=af ao;have HT:=af (pL hn hT);have d0:(n:Int)<=7:=by omega
   have b4:(n:Int)<=(tc:Int):=by omega
   have CP:=af (ez ga tc l n hn m w1 (cm hn ho) (by omega) b4 (ae HT) (ae J w1 (ah (ae q) (a0c _ _))).1 (ae J w1 (ah (ae q) (a0c _ _))).2.1 (ae J w1 (ah (ae q) (a0c _ _))).2.2);have CQ:=af (fun W (N:Below w1.heap.size w1 W)=>gw ga tc l n hn W (cm hn (ho.later N (a0a _))) (by omega) (ae HT));clear ho ao hT h7 hn ab b0 F hc;obtain⟨S,B⟩:∃x,cj l=x:=⟨_,rfl⟩;rw[B]at CP CQ;have HS:=af B;clear B;go_wp2_with fail;refine(ae CP).mono ?_;rintro e w2 ⟨rfl,a0⟩;have R:=af a0;clear a0 CP;go_wp2_with fail;refine(ae CQ w2 (ae R)).mono ?_;rintro e w3 ⟨rfl,a2⟩;have E:=af (ah (ae R) a2);clear a2 R;cases G:ci l
   .
    have b1:S=⟨#[]⟩:=by rw[←ae HS];unfold cj;rw[G];rfl
    clear G;subst b1;go_wp2_with fail;refine(ae CQ w3 (ae E)).mono ?_;rintro e w4 ⟨rfl,a3⟩;have bb:=af (ah (ae E) a3);clear a3 E;have T:=af (ah (ae q) (ae bb));go_wp2;go_ret;exact⟨rfl,ae T⟩
   .
    have HZ:=af G;have ba:22<=S.size:=by rw[←ae HS,kP G];omega
    have d1:S.size<=4000:=by rw[←ae HS];exact hH l
    have b8:¬ S=ByteArray.empty:=fun e=>by rw[e]at ba;exact absurd ba (by decide)
    have dl:S.toList.isEmpty=false:=sy b8;clear G CQ;have Q:Hid (∀k,k<n->(ar (l.take (k+1))).1.size=(ar (l.take k)).1.size+(loE (l.getD k default)).size/\(ar (l.take k)).1.size<=S.size):=fun k hk=>by
     rw[←ae HS];exact(Mx (ae HZ) (by rw[ae HN];exact hk)).2
    have CL:=af (fun(k:Nat) (hk:k<n) W (N:Below w1.heap.size w1 W)=>kw (l.getD k default).n (l.getD k default).y (l.getD k default).mo (l.getD k default).d (l.getD k default).h (l.getD k default).mi (l.getD k default).s (l.getD k default).t m W (ae HT k hk).1 (ae HT k hk).2 (ae J W (ah (ae q) N)).1 (ae J W (ah (ae q) N)).2.2);go_wp2_with fail
    go_loopw [7,8] (fun at_ i wr=>∃k:Nat,k<=n/\i = .int .i64 k/\at_ = .int .i64 ((ar (l.take k)).1.size:Nat)/\Below w1.heap.size w1 wr) (fun _ i _=>n-(intOf i).toNat)
    case atStart=>exact⟨0,a0g _,rfl,rfl,ae E⟩
    case round=>
     obtain⟨k,hk,rfl,rfl,a5⟩:=hrel;have u:=af a5;clear a5 E;by_cases C:k<n
     .
      have a7:(k:Int)<(n:Int):=by omega
      have HK:=af C;obtain⟨r,b7⟩:=ae Q k C;obtain⟨g,rfl⟩:=bu.somes (ae ac) (by rw[ae HN];omega);obtain⟨c0,c1,c2,c3,c4,c5,c6,c7⟩:=sj (ae HN) ((ae ac).later (ae u) (a0a _)) k C;have Z:k<l.length:=by rw[ae HN];exact C
      have hE:=Ks ((dp (ae HZ)).1 k Z);have a6:=kA ((dp (ae HZ)).1 k Z);have H:=af (ae CL k C wr (ae u));rw[hE]at H;obtain⟨P,hP⟩:∃x,loE (l.getD k default)=x:=⟨_,rfl⟩;obtain⟨A,hA⟩:∃x,(ar (l.take k)).1.size=x:=⟨_,rfl⟩;rw[hP]at H r a6;rw[hA]at r b7;rw[hA];have bd:=af r;have cc:(A:Int)<=4000:=by omega
      have cy:(P.size:Int)<=400:=by omega
      have e1:IntKind.i64.wrap ((A:Int)+(P.size:Int))=(A:Int)+(P.size:Int):=by rw[a1e];omega
      clear r hP hA hk C a6 Q hE Z CL;generalize l.getD k default=en at *
      go_wp2_with fail;refine(ae H).mono ?_;rintro e w5 ⟨rfl,a4⟩;have bc:=af (ah (ae u) a4);clear a4 H u c0 c1 c2 c3 c4 c5 c6 c7;go_wp2_with fail;go_roundw
      case rel=>exact⟨k+1,by have:=ae HK;omega,by go_num,by rw[ae bd];go_num,ae bc⟩
      case measure=>have:=ae HK;simp[intOf];omega
     .
      have a7:¬ (k:Int)<(n:Int):=by omega
      obtain rfl:k=n:=by omega
      rw[a0o (by rw[ae HN];exact a0a _)];have I:=kO (ae HZ);rw[ae HS]at I;have b5:=l9 l;have a9:S.size=(ar l).1.size+(ctl l).size:=by rw[I,a0t]
      obtain⟨D,hD⟩:∃D:Nat,D=(ctl l).size:=⟨_,rfl⟩;obtain⟨j,hj⟩:∃j:Nat,j=len1%D:=⟨_,rfl⟩;have bk:0<D:=by omega
      have dq:j<D:=hj▸a1t _ bk;have b6:(len1:Int)%(D:Int)=(j:Int):=by subst hj;simp
      have ds:Int.tmod (len1:Int) (D:Int)=(j:Int):=by rw[a2E (by omega)];exact b6
      obtain⟨A,hA⟩:∃x,(ar l).1.size=x:=⟨_,rfl⟩;obtain⟨K,hK⟩:∃K:Nat,K=A+j:=⟨_,rfl⟩;rw[←hD,hA]at a9;have bl:K<S.size:=by omega
      obtain⟨c,hcc⟩:∃c,S[K]+1=c:=⟨_,rfl⟩;have dd:IntKind.u8.wrap ((S[K].toNat:Int)+1)=(c.toNat:Int):=by
       rw[←hcc];simp[IntKind.wrap,IntKind.bits,IntKind.signed]
      have ad:S[K]=(ctl l).data.toList.getD j 0:=by
       have h4:K<S.data.toList.length:=by simpa using bl
       have h2:S.data.toList[K]?=(ctl l).data.toList[j]?:=by
        rw[I];simp only[a1C,a1k];have hl:(ar l).1.data.toList.length=A:=by rw[←hA];simp
        rw[List.getElem?_append_right (by omega),hl]
        congr 1;omega
       rw[List.getElem?_eq_getElem h4]at h2;rw[List.getD_eq_getElem?_getD,←h2];rfl
      have hG:=My (ae HZ) (k:=j) (b:=c) (by omega) (by rw[←hcc,ad]);rw[ae HS,hA,←hK]at hG;obtain⟨U,hU⟩:∃U,S.extract 0 K++(⟨#[c]⟩:ByteArray)++S.extract (K+1) S.size=U:=⟨_,rfl⟩;have c8:S.extract 0 K++(⟨[c].toArray⟩:ByteArray)++S.extract (K+1) S.size=U:=hU;rw[hU]at hG;have an:U.size<=1048576:=by
       rw[←hU,a0t,a0t,a1c,a1c];have:(⟨#[c]⟩:ByteArray).size=1:=rfl;omega
      have CG:=af (fun W (N:Below w1.heap.size w1 W)=>db U m W an (ae J W (ah (ae q) N)).1 (ae J W (ah (ae q) N)).2.1 (ae J W (ah (ae q) N)).2.2);rw[hG]at CG;rw[hA];have be:(S.size:Int)-(A:Int)=(D:Int):=by omega
      have co:IntKind.i64.wrap ((S.size:Int)-(A:Int))=(D:Int):=by rw[be];exact cR _ (by omega)
      have bs:(A:Int)+(j:Int)=(K:Int):=by omega
      have cv:IntKind.i64.wrap ((A:Int)+(j:Int))=(K:Int):=by rw[bs];exact cR _ (by omega)
      have cg:¬ D=0:=by omega
      have ch:¬ (D:Int)=0:=by omega
      have cu:(K:Int)<(S.size:Int):=by omega
      have o:IntKind.i64.wrap ((K:Int)+1)=(K:Int)+1:=by rw[a1e];omega
      have cp:(K:Int)+1<=(S.size:Int):=by omega
      have cr:K<=S.size:=by omega
      have cs:K+1<=S.size:=by omega
      have b2:¬ (9223372036854775807:Nat)<(S.extract 0 K).size+(⟨[c].toArray⟩:ByteArray).size:=by rw[a1c];have:(⟨[c].toArray⟩:ByteArray).size=1:=rfl;omega
      have b3:¬ (9223372036854775807:Nat)<(S.extract 0 K++(⟨[c].toArray⟩:ByteArray)).size+(S.extract (K+1) S.size).size:=by rw[a0t,a1c,a1c];have:(⟨[c].toArray⟩:ByteArray).size=1:=rfl;omega
      clear hU hG hj hK hA I a9 hcc ad b5 Q CL hD an;have a8:prog.follows .mixedOrders=true:=by kernel_rfl
      go_wp2_with fail;refine wp_region_held_drew (S:=fun _=>True) a8 trivial (fun _=>?_);refine wpAnyH_take (i:=0) (v:=.string S) rfl (by kernel_rfl) (by kernel_rfl) (by kernel_rfl) (fun _ _ _ h=>h) (a0x ⟨by rfl,fun W f=>by go_simp⟩) trivial ?_;refine wpAnyH_take (i:=1) (v:=.int .i64 (K:Nat)) rfl (by kernel_rfl) (by kernel_rfl) (by kernel_rfl) (fun _ _ _ h=>h) (a0x ⟨by rfl,fun W f=>by go_simp⟩) trivial ?_;refine wpAnyH_take (i:=2) (v:=.string (S.extract 0 K)) rfl (by kernel_rfl) (by kernel_rfl) (by kernel_rfl) (fun _ _ _ h=>h) (a0x ⟨by rfl,fun W f=>by go_simp⟩) trivial ?_;refine wpAnyH_take (i:=3) (v:=.string S) rfl (by kernel_rfl) (by kernel_rfl) (by kernel_rfl) (fun _ _ _ h=>h) (a0x ⟨by rfl,fun W f=>by go_simp⟩) trivial ?_;refine wpAnyH_take (i:=4) (v:=.int .i64 (K:Nat)) rfl (by kernel_rfl) (by kernel_rfl) (by kernel_rfl) (fun _ _ _ h=>h) (a0x ⟨by rfl,fun W f=>by go_simp⟩) trivial ?_;refine wpAnyH_take (i:=5) (v:=.int .u8 (S[K].toNat:Int)) rfl (by kernel_rfl) (by kernel_rfl) (by kernel_rfl) (fun _ _ _ h=>h) (a0x ⟨by rfl,fun W f=>by go_simp⟩) trivial ?_;refine wpAnyH_take (i:=6) (v:=.int .u8 (c.toNat:Int)) rfl (by kernel_rfl) (by kernel_rfl) (by kernel_rfl) (fun _ _ _ h=>h) (a0x ⟨by rfl,fun W f=>by go_simp⟩) trivial ?_;refine wpAnyH_take (i:=10) (v:=.string S) rfl (by kernel_rfl) (by kernel_rfl) (by kernel_rfl) (fun _ _ _ h=>h) (a0x ⟨by rfl,fun W f=>by go_simp⟩) trivial ?_;refine wpAnyH_take (i:=11) (v:=.int .i64 (K:Nat)) rfl (by kernel_rfl) (by kernel_rfl) (by kernel_rfl) (fun _ _ _ h=>h) (a0x ⟨by rfl,fun W f=>by go_simp⟩) trivial ?_;refine wpAnyH_take (i:=12) (v:=.int .i64 ((K:Int)+1)) rfl (by kernel_rfl) (by kernel_rfl) (by kernel_rfl) (fun _ _ _ h=>h) (a0x ⟨by rfl,fun W f=>by go_simp⟩) trivial ?_;refine wpAnyH_take (i:=13) (v:=.string (S.extract (K+1) S.size)) rfl (by kernel_rfl) (by kernel_rfl) (by kernel_rfl) (fun _ _ _ h=>h) (a0x ⟨by rfl,fun W f=>by go_simp<;>(intro h;omega)⟩) trivial ?_;have T5:=af (ae u).drew;clear u;generalize wr.drew=W5 at *
      refine aj 7 (by kernel_rfl) rfl fun X o=>?_;go_simp;have T6:=af ((ae T5).alloc (ae T5).size (.cells #[.int .u8 (c.toNat:Int)] 5));have L:=af ((aC W5 #[.int .u8 (c.toNat:Int)] 5).cell 0 _ rfl);refine Shut.out o _ _ trivial (fun _=>?_);clear o X;obtain⟨pb,hpb⟩:∃x,W5.heap.size=x:=⟨_,rfl⟩;obtain⟨W6,hW6⟩:∃x,W5.alloc (.cells #[.int .u8 (c.toNat:Int)] 5)=x:=⟨_,rfl⟩;rw[hW6]at T6;rw[hpb,hW6]at L;rw[hpb,hW6];have b9:pb<W6.heap.size:=World.block_lt_of_cell? W6 ⟨pb,0,none⟩ (ae L);clear hpb hW6 T5;refine j7 (S':=fun W=>W.cell? ⟨pb,0,none⟩=some (.int .u8 (c.toNat:Int))) (fun _ _=>trivial) _ _ _ _ ?_;have B:=ae L;refine ag 8 (.string ⟨[c].toArray⟩) rfl (by kernel_rfl) (fun _ _ _ h=>h) rfl (fun W f=>by have c9:=G6 W pb c f;go_simp) B ?_;refine ag 9 (.string (S.extract 0 K++(⟨[c].toArray⟩:ByteArray))) rfl (by kernel_rfl) (fun _ _ _ h=>h) rfl (fun W f=>by go_simp<;>omega) B ?_;refine ag 14 (.string U) rfl (by kernel_rfl) (fun _ _ _ h=>h) rfl (fun W f=>by go_simp<;>omega) B ?_;refine aj 15 (by kernel_rfl) rfl fun X o=>?_;go_simp;go_at_call 13;refine(ae CG W6 (ae T6)).mono ?_;rintro e W7 ⟨⟨v7,rfl,_⟩,Y⟩;have T7:=af (ah (ae T6) Y);have V:Hid (W7.cell? ⟨pb,0,none⟩=some (.int .u8 (c.toNat:Int))):=(Y.cell (p:=⟨pb,0,none⟩) b9).trans (ae L);refine Shut.out o _ _ (ae V) (fun B=>?_);clear o X L Y T6;have L:=V;clear V;refine ag 16 (.tuple #[v7,.bool false]) rfl (by kernel_rfl) (fun _ _ _ h=>h) rfl (fun W f=>by go_simp) B ?_;refine ag 17 (v7) rfl (by kernel_rfl) (fun _ _ _ h=>h) rfl (fun W f=>by go_simp) B ?_;refine ag 18 (.bool false) rfl (by kernel_rfl) (fun _ _ _ h=>h) rfl (fun W f=>by go_simp) B ?_;refine aj 19 (by kernel_rfl) rfl fun X o=>?_;go_simp;refine Shut.out o _ _ (ae L) (fun B=>?_);clear o X;refine aj 20 (by kernel_rfl) rfl fun X o=>?_;go_simp;refine Shut.out o _ _ (ae L) (fun B=>?_);clear o X;refine wpAnyH_done (by kernel_rfl) ?_ _;have T:=af (ah (ae q) (ae T7));go_wp2;go_ret;exact⟨rfl,ae T⟩
  . go_enter func7,ntmps7;go_wp2;go_ret;exact⟨rfl,a0c _ _⟩
 . go_enter func7,ntmps7;go_wp2;go_ret;exact⟨rfl,a0c _ _⟩
end Go.Proofs.YtgmfehnnebkaoaaGreatDoor
