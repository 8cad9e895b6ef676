/- Of what the proof is made: 7 texts, one behind the other. -/
import Derived.Test.YtkpfkgoiaicgbaaGreatDoorM40
import Derived.Test.YtkpfkgoiaicgbaaGreatDoorM27
import Derived.Test.YtkpfkgoiaicgbaaGreatDoorM35
set_option linter.unusedSimpArgs false
set_option linter.unusedVariables false
set_option maxHeartbeats 6400000
namespace Go.Proofs.YtkpfkgoiaicgbaaGreatDoor
open Go.RowKit Corb
set_option maxRecDepth 100000
def lT(how st crc pk lg:Nat)(nm:ByteArray)(pl:Nat):ByteArray:=(⟨#[80,75,1,2]⟩:ByteArray)++aZ (leS 2 20)++kO how st crc pk lg nm.size++(⟨#[0,0,0,0,0,0,0,0,0,0]⟩:ByteArray)++aZ (leS 4 pl)++nm
theorem jh(how st crc pk lg:Nat)(nm:ByteArray)(pl:Nat):(lT how st crc pk lg nm pl).size=46+nm.size:=by
 simp only[lT,ByteArray.size_append,fL,ce,az];have h1:(⟨#[80,75,1,2]⟩:ByteArray).size=4:=rfl;have h2:(⟨#[0,0,0,0,0,0,0,0,0,0]⟩:ByteArray).size=10:=rfl;omega
def dY(many long pl:Nat):ByteArray:=(⟨#[80,75,5,6]⟩:ByteArray)++aZ ([0,0,many,many].flatMap (leS 2))++aZ (leS 4 long)++aZ (leS 4 pl)++aZ ([0].flatMap (leS 2))
theorem oe(many long pl:Nat):(dY many long pl).size=22:=by
 simp only[dY,ByteArray.size_append,ce,az,List.flatMap_cons,List.flatMap_nil,List.length_append,List.length_nil];have h1:(⟨#[80,75,5,6]⟩:ByteArray).size=4:=rfl;omega
def eN(e:En):Nat:=(stN e.y e.mo e.d e.h e.mi e.s).toNat
def loE(e:En):ByteArray:=cJ e.n e.t (eN e)
def heE(e:En)(p:Nat):ByteArray:=lT (eW e.t) (eN e) (aQ 0 e.t.data.toList) (bj e.t).size e.t.size e.n p
def Ll(s:ByteArray×ByteArray)(e:En):ByteArray×ByteArray:=(s.1++loE e,s.2++heE e s.1.size)
def aH(l:List En):ByteArray×ByteArray:=l.foldl Ll (⟨#[]⟩,⟨#[]⟩)
theorem Ju:aH []=(⟨#[]⟩,⟨#[]⟩):=rfl
theorem gN(l:List En)(k:Nat)(h:k<l.length):aH (l.take (k+1))=Ll (aH (l.take k)) (l.getD k default):=by
 rw[ez l default k h,aH,List.foldl_append];rfl
theorem xo{e:En}(k:jN e=true):30<=(loE e).size/\(loE e).size<=400:=by
 obtain⟨f1,f2,f3⟩:=cM (n:=e.n) (t:=e.t) k;have hfz:=jl e.t;have hb:(bj e.t).size<=300:=by unfold bj;split<;>omega
 have:(loE e).size=30+e.n.size+(bj e.t).size:=by simp only[loE,cJ,ByteArray.size_append,qH]
 omega
theorem wH(e:En)(p:Nat):(heE e p).size=46+e.n.size:=jh _ _ _ _ _ _ _
theorem lK(l:List En)(h:∀i,i<l.length->jN (l.getD i default)=true):∀k,k<=l.length->(aH (l.take k)).1.size<=400*k/\(aH (l.take k)).2.size<=100*k
 | 0,_=>by rw[List.take_zero,Ju];exact⟨Nat.zero_le _,Nat.zero_le _⟩
 | k+1,hk=>by
  have ih:=lK l h k (by omega);rw[gN l k (by omega)];have h1:=xo (h k (by omega));have h2:=(cM (n:=(l.getD k default).n) (t:=(l.getD k default).t) (h k (by omega))).1;have h3:=wH (l.getD k default) (aH (l.take k)).1.size;simp only[Ll,ByteArray.size_append];omega
theorem jG{l:List En}(h:fq l=true):(∀i,i<l.length->jN (l.getD i default)=true)/\l.length<=6:=by
 simp only[fq,Bool.and_eq_true,decide_eq_true_eq,List.all_eq_true]at h;exact⟨fun i hi=>((lv l i).mp (h.1 i (List.mem_range.mpr hi))).1,h.2⟩
def im(l:List En):ByteArray:=if fq l then(aH l).1++(aH l).2++dY l.length (aH l).2.size (aH l).1.size else⟨#[]⟩
def tf(e:En):List Value:=[.int .i64 (eW e.t:Nat),.int .i64 (eN e:Nat),.int .i64 (aQ 0 e.t.data.toList:Nat),.int .i64 ((bj e.t).size:Nat),.int .i64 (e.t.size:Nat),.string e.n,.string (bj e.t)]
def mX(q:En×Nat):List Value:=[.int .i64 (eW q.1.t:Nat),.int .i64 (eN q.1:Nat),.int .i64 (aQ 0 q.1.t.data.toList:Nat),.int .i64 ((bj q.1.t).size:Nat),.int .i64 (q.1.t.size:Nat),.string q.1.n,.int .i64 (q.2:Nat)]
theorem C8(e:En):(tf e).length=7:=rfl
theorem C4(e:En×Nat):(mX e).length=7:=rfl
theorem Da(e:En):∀u∈tf e,u.oneCell'=true:=by
 intro u hu;simp only[tf,List.mem_cons,List.not_mem_nil,or_false]at hu;rcases hu with rfl|rfl|rfl|rfl|rfl|rfl|rfl<;>rfl
theorem C6(e:En×Nat):∀u∈mX e,u.oneCell'=true:=by
 intro u hu;simp only[mX,List.mem_cons,List.not_mem_nil,or_false]at hu;rcases hu with rfl|rfl|rfl|rfl|rfl|rfl|rfl<;>rfl
theorem gF(w:World)(cs:Array Value)(t:TypeId):∀(j:Nat) (u:Value),cs.toList[j]?=some u->(w.alloc (.cells cs t)).cell? ((⟨w.heap.size,0,none⟩:Addr).add j)=some u:=by
 intro j u h;have:=(aS w cs t).cell j u h;have e:((⟨w.heap.size,0,none⟩:Addr).add j)=⟨w.heap.size,j,none⟩:=by
  unfold Addr.add
  split
  · rename_i h0;rw[h0]
  · simp
 rw[e];exact this
theorem Ml{e:En}(k:jN e=true):stI e.y e.mo e.d e.h e.mi e.s=((eN e:Nat):Int):=by
 obtain⟨_,_,f3⟩:=cM (n:=e.n) (t:=e.t) k;obtain⟨_,_,_,g4⟩:=nK f3;rw[g4];rfl
theorem Tryz.infoLh:(Tryz.prog.info? 60).map (fun i=>(i.zero,i.size,i.bytes))=some (some (.agg #[.int .i64 0,.int .i64 0,.int .i64 0,.int .i64 0,.int .i64 0,.string ⟨#[]⟩,.string ⟨#[]⟩]),7,72):=by kernel_rfl
abbrev Lv:=be (α:=En) 60 7 tf
theorem zu(a:Option Addr)(cap n:Nat)(l:List En)(w:World)(hn:l.length=n)(h:lZ w a l)(hm:n<=6)(hs:∀i,i<n->jN (l.getD i default)=true)(hO:dk w) :
  Calls Tryz.prog 25 #[.slice a n cap,.func (.func 26) #[] #[]] w fun e w'=>∃v,e = .returned v/\Lv w' w.heap.size v l/\Below w.heap.size w w':=by
 have hmI:(n:Int)<=6:=by omega
 have Hn:=af hn;have Hm:=af hm;have HS:=af hs;have HR:=af h;have HO:=af hO;clear hn hm hs h hO;obtain⟨i0,hi,hz0,hz1,hz2⟩:=info_parts Tryz.infoLh;go_enter Tryz.func25,Tryz.ntmps25;go_wp2_with fail
 go_loopw [5,7,10] (fun o _ i wr=>∃k:Nat,k<=n/\i = .int .i64 k/\Lv wr w.heap.size o (l.take k)/\Below w.heap.size w wr) (fun _ _ i _=>n-(intOf i).toNat)
 case atStart=>exact⟨0,Nat.zero_le _,rfl,be.nil _ _,Below.refl _ _⟩
 case round=>
  obtain⟨k,hk,rfl,hq,hbel⟩:=hrel;by_cases hlt:k<n
  ·
   obtain⟨g,o,rfl,hg,hcc⟩:=(ae HR).later hbel (by have:=ae Hn;omega);obtain⟨c0,c1,c2,c3,c4,c5,c6,c7⟩:=hcc k (by have:=ae Hn;omega);have hst:=af (ez l default k (by have:=ae Hn;omega));have hlk:Hid ((l.take k).length=k):=by show _=_;have:=ae Hn;simp;omega
   have Hk:=af hk;have HE:=ae HS k hlt;have hsI:=Ml HE;have htz:=(cM (n:=(l.getD k default).n) (t:=(l.getD k default).t) HE).2.1;clear hcc hk HE;generalize l.getD k default=en at *
   have HP:=af (fun W (hb:Below w.heap.size w W)=>pR en.n en.t en.y en.mo en.d en.h en.mi en.s W (by omega) ((ae HO).later hb));rw[hsI]at HP;clear hsI htz;have hA:Below wr.heap.size wr (wr.alloc (.cells #[.string en.n,.int .i64 en.y,.int .i64 en.mo,.int .i64 en.d,.int .i64 en.h,.int .i64 en.mi,.int .i64 en.s,.string en.t] 51)):=(Below.refl _ _).alloc (Nat.le_refl _) _;have HA:=af hA;have HQ:=af hq;have HBel:=af hbel;clear hA hq hbel;go_wp2_with fail;refine(ae HP _ (aj (ae HBel) (ae HA))).mono ?_;rintro e x1 ⟨rfl,hb1⟩;have hW:=aj (ae HA) hb1;have hq1:=be.own (ae hlk) ((ae HQ).later hW (Nat.le_refl _));have hbel1:=aj (ae HBel) hW;have hbs1:=hbel1.size;have hlen1:Hid (k+1<=maxLen/\(k+1)*72<=140737488355328):=by
    show _/\_;have:=ae Hm;unfold maxLen;omega
   clear HQ HBel HA hb1 hW HP;go_wp2_with (at_builtin;refine wpList_append_own _ rfl _ _ 55 rfl w.heap.size 60 i0 (.agg #[.int .i64 0,.int .i64 0,.int .i64 0,.int .i64 0,.int .i64 0,.string ⟨#[]⟩,.string ⟨#[]⟩]) 7 72 Tryz.underlying55 hi hz0 hz1 hz2 rfl (by decide) _ _ _ rfl (World.ownsRow.alloc hq1 _) ⟨x1.heap.size,0,none⟩ 1 1 (tf en) rfl rfl (gF x1 _ _) (Da en) (ae hlen1).1 (ae hlen1).2 (aB hbs1 _) ?_;intro v' x2 hown hgrow hnil;clear hnil);have hb2:=aK (v:=u5) hgrow hq1 (Nat.le_refl _) hbs1 hbel1;have hq2:Lv x2 w.heap.size v' _:=be.snoc (ae hlk) hown;rw[←ae hst]at hq2;clear hown hgrow hq1;go_wp2;go_roundw
   case rel=>exact⟨k+1,by have:=ae Hk;omega,by go_num,hq2,hb2⟩
   case measure=>simp[intOf];omega
  · have hkn:l.take k=l:=List.take_of_length_le (by rw[ae Hn];omega);rw[hkn]at hq;have HQ:=af hq;have HB:=af hbel;clear hq hbel hkn;go_wp2;go_ret;exact⟨_,rfl,ae HQ,ae HB⟩
def BlS(w:World)(vs:List Value)(W:World):Prop:=Below w.heap.size w W/\Blk W w.heap.size vs
theorem BlS.later{w W W':World}{vs:List Value}(k:BlS w vs W)(hb:Below W.heap.size W W'):BlS w vs W':=⟨aj k.1 hb,k.2.later hb k.2.1⟩
theorem BlS.drew{w W:World}{vs:List Value}(k:BlS w vs W):BlS w vs W.drew:=⟨k.1.drew,k.2.drew⟩
theorem vj(W:World)(x:Nat):bC (W.alloc (.cells #[.int .i64 ((x:Nat):Int)] 3)) (some ⟨W.heap.size,0,none⟩) (bU [x]):=by
 intro _;refine⟨W.heap.size,0,rfl,by simp,fun i hi=>?_⟩
 match i,hi with
 | 0,_=>simp[bU]
theorem wC(W:World)(x y z u:Nat):bC (W.alloc (.cells #[.int .i64 ((x:Nat):Int),.int .i64 ((y:Nat):Int),.int .i64 ((z:Nat):Int),.int .i64 ((u:Nat):Int)] 3)) (some ⟨W.heap.size,0,none⟩) (bU [x,y,z,u]):=by
 intro _;refine⟨W.heap.size,0,rfl,by simp,fun i hi=>?_⟩
 match i,hi with
 | 0,_=>simp[bU]
 | 1,_=>simp[bU]
 | 2,_=>simp[bU]
 | 3,_=>simp[bU]
theorem pg(how st crc pk lg pl:Nat)(nm:ByteArray)(w:World)(h0:how<65536)(h1:st<4294967296)(h2:crc<4294967296)(h3:pk<4294967296)(h4:lg<4294967296)(h5:nm.size<65536)(h6:pl<4294967296) :
  Calls Tryz.prog 75 #[.agg #[.int .i64 (how:Nat),.int .i64 (st:Nat),.int .i64 (crc:Nat),.int .i64 (pk:Nat),.int .i64 (lg:Nat),.string nm,.int .i64 (pl:Nat)]] w fun e w'=>e = .returned (.string (lT how st crc pk lg nm pl))/\Below w.heap.size w w':=by
 have hmix:Tryz.prog.follows .mixedOrders=true:=by kernel_rfl
 have CW:Hid (∀g W,bC W (some ⟨g,0,none⟩) (bU [20])->Calls Tryz.prog 76 #[.slice (some ⟨g,0,none⟩) 1 1] W fun e w'=>e = .returned (.string (aZ (leS 2 20)))/\Below W.heap.size W w'):=fun g W h=>by
  have:=cU (some ⟨g,0,none⟩) 1 1 [20] W rfl h (by decide) (by decide);rw[show([20]:List Nat).flatMap (leS 2)=leS 2 20 by simp]at this;exact this
 have CT:Hid (∀W,Calls Tryz.prog 120 #[.agg #[.int .i64 (how:Nat),.int .i64 (st:Nat),.int .i64 (crc:Nat),.int .i64 (pk:Nat),.int .i64 (lg:Nat),.string nm]] W fun e w'=>e = .returned (.string (kO how st crc pk lg nm.size))/\Below W.heap.size W w'):=fun W=>yE how st crc pk lg nm W h0 h1 h2 h3 h4 h5;have CL:Hid (∀W,Calls Tryz.prog 77 #[.int .i64 (pl:Int)] W fun e w'=>e = .returned (.string (aZ (leS 4 pl)))/\Below W.heap.size W w'):=fun W=>cT pl W h6;have z0:((aZ (leS 2 20)).size:Int)<=100:=by rw[ce,az];omega
 have z1:((kO how st crc pk lg nm.size).size:Int)<=100:=by rw[fL];omega
 have z2:((aZ (leS 4 pl)).size:Int)<=100:=by rw[ce,az];omega
 have hnI:(nm.size:Int)<65536:=by omega
 unfold lT;generalize aZ (leS 2 20)=A0 at *
 generalize kO how st crc pk lg nm.size=A1 at *
 generalize aZ (leS 4 pl)=A2 at *
 have T0':Hid (BlS w [.int .i64 (how:Nat),.int .i64 (st:Nat),.int .i64 (crc:Nat),.int .i64 (pk:Nat),.int .i64 (lg:Nat),.string nm,.int .i64 (pl:Nat)] (w.alloc (.cells #[.int .i64 (how:Nat),.int .i64 (st:Nat),.int .i64 (crc:Nat),.int .i64 (pk:Nat),.int .i64 (lg:Nat),.string nm,.int .i64 (pl:Nat)] 91))):=⟨(Below.refl _ _).alloc (Nat.le_refl _) _,aS w _ _⟩;clear h0 h1 h2 h3 h4 h5 h6;go_enter Tryz.func75,Tryz.ntmps75;go_wp2_with fail;obtain⟨W0,hW0⟩:∃x,w.alloc (.cells #[.int .i64 (how:Nat),.int .i64 (st:Nat),.int .i64 (crc:Nat),.int .i64 (pk:Nat),.int .i64 (lg:Nat),.string nm,.int .i64 (pl:Nat)] 91)=x:=⟨_,rfl⟩;rw[hW0]at T0';rw[hW0];have T0:=T0';clear T0' hW0;refine wp_region_held_drew (S:=BlS w [.int .i64 (how:Nat),.int .i64 (st:Nat),.int .i64 (crc:Nat),.int .i64 (pk:Nat),.int .i64 (lg:Nat),.string nm,.int .i64 (pl:Nat)]) hmix (ae T0).drew (fun hS=>?_);refine ag 3 (.pointer (some ⟨w.heap.size,0,none⟩)) rfl (by kernel_rfl) (fun _ _ _ h=>h) rfl (fun W hSw=>by go_simp) hS ?_;refine ag 4 (.agg #[.int .i64 (how:Nat),.int .i64 (st:Nat),.int .i64 (crc:Nat),.int .i64 (pk:Nat),.int .i64 (lg:Nat),.string nm]) rfl (by kernel_rfl) (fun _ _ _ h=>h) rfl (fun W hSw=>by have s0:=hSw.2.cell 0 _ rfl;have s1:=hSw.2.cell 1 _ rfl;have s2:=hSw.2.cell 2 _ rfl;have s3:=hSw.2.cell 3 _ rfl;have s4:=hSw.2.cell 4 _ rfl;have s5:=hSw.2.cell 5 _ rfl;go_simp) hS ?_;refine ag 8 (.pointer (some ⟨w.heap.size,6,none⟩)) rfl (by kernel_rfl) (fun _ _ _ h=>h) rfl (fun W hSw=>by go_simp) hS ?_;refine ag 9 (.int .i64 (pl:Nat)) rfl (by kernel_rfl) (fun _ _ _ h=>h) rfl (fun W hSw=>by have s6:=hSw.2.cell 6 _ rfl;go_simp) hS ?_;refine ag 12 (.pointer (some ⟨w.heap.size,0,none⟩)) rfl (by kernel_rfl) (fun _ _ _ h=>h) rfl (fun W hSw=>by go_simp) hS ?_;refine ag 13 (.pointer (some ⟨w.heap.size,5,none⟩)) rfl (by kernel_rfl) (fun _ _ _ h=>h) rfl (fun W hSw=>by go_simp) hS ?_;refine ag 14 (.string nm) rfl (by kernel_rfl) (fun _ _ _ h=>h) rfl (fun W hSw=>by have s5:=hSw.2.cell 5 _ rfl;go_simp) hS ?_;have T1:=af ((ae T0).drew);generalize W0.drew=W1 at *
 refine ah 0 (by kernel_rfl) rfl fun K hK=>?_;go_simp;have Bd:Below W1.heap.size W1 (W1.alloc (.cells #[.int .i64 20] 3)):=(Below.refl _ _).alloc (Nat.le_refl _) _;have T2:=af ((ae T1).later Bd);have R2:Hid (bC (W1.alloc (.cells #[.int .i64 20] 3)) (some ⟨W1.heap.size,0,none⟩) (bU [20])):=vj _ _;refine Shut.out hK _ _ (ae T2) (fun hS=>?_);clear hK K Bd T1;obtain⟨g,hg⟩:∃x,W1.heap.size=x:=⟨_,rfl⟩;obtain⟨W2,hW2⟩:∃x,W1.alloc (.cells #[.int .i64 20] 3)=x:=⟨_,rfl⟩;rw[hW2]at T2 hS;rw[hg,hW2]at R2;rw[hg,hW2];refine ah 1 (by kernel_rfl) rfl fun K hK=>?_;go_simp;go_at_call 76;refine(ae CW g W2 (ae R2)).mono ?_;rintro e W3 ⟨rfl,Bd⟩;have T3:=af ((ae T2).later Bd);refine Shut.out hK _ _ (ae T3) (fun hS=>?_);clear hK K Bd T2;refine ag 2 (.string ((⟨#[80,75,1,2]⟩:ByteArray)++A0)) rfl (by kernel_rfl) (fun _ _ _ h=>h) rfl (fun W hSw=>by go_simp<;>omega) hS ?_;refine ah 5 (by kernel_rfl) rfl fun K hK=>?_;go_simp;go_at_call 120;refine(ae CT W3).mono ?_;rintro e W4 ⟨rfl,Bd⟩;have T4:=af ((ae T3).later Bd);refine Shut.out hK _ _ (ae T4) (fun hS=>?_);clear hK K Bd T3;refine ag 6 (.string ((⟨#[80,75,1,2]⟩:ByteArray)++A0++A1)) rfl (by kernel_rfl) (fun _ _ _ h=>h) rfl (fun W hSw=>by go_simp<;>omega) hS ?_;refine ag 7 (.string ((⟨#[80,75,1,2]⟩:ByteArray)++A0++A1++(⟨#[0,0,0,0,0,0,0,0,0,0]⟩:ByteArray))) rfl (by kernel_rfl) (fun _ _ _ h=>h) rfl (fun W hSw=>by go_simp<;>omega) hS ?_;refine ah 10 (by kernel_rfl) rfl fun K hK=>?_;go_simp;go_at_call 77;refine(ae CL W4).mono ?_;rintro e W5 ⟨rfl,Bd⟩;have T5:=af ((ae T4).later Bd);refine Shut.out hK _ _ (ae T5) (fun hS=>?_);clear hK K Bd T4;refine ag 11 (.string ((⟨#[80,75,1,2]⟩:ByteArray)++A0++A1++(⟨#[0,0,0,0,0,0,0,0,0,0]⟩:ByteArray)++A2)) rfl (by kernel_rfl) (fun _ _ _ h=>h) rfl (fun W hSw=>by go_simp<;>omega) hS ?_;refine ag 15 (.string ((⟨#[80,75,1,2]⟩:ByteArray)++A0++A1++(⟨#[0,0,0,0,0,0,0,0,0,0]⟩:ByteArray)++A2++nm)) rfl (by kernel_rfl) (fun _ _ _ h=>h) rfl (fun W hSw=>by go_simp<;>omega) hS ?_;refine ah 16 (by kernel_rfl) rfl fun K hK=>?_;go_simp;refine Shut.out hK _ _ (ae T5) (fun hS=>?_);clear hK K;refine wpAnyH_done (by kernel_rfl) ?_ _;clear hS;generalize hAA:(⟨#[80,75,1,2]⟩:ByteArray)++A0++A1++(⟨#[0,0,0,0,0,0,0,0,0,0]⟩:ByteArray)++A2++nm=AA;go_wp2;go_ret;exact⟨by rw[←hAA];rfl,(ae T5).1⟩
def sA(w:World)(a:Option Addr)(n:Nat)(f:Nat->List Value):Prop:=0<n->∃g,a=some ⟨g,0,none⟩/\g<w.heap.size/\∀i,i<n->∀j u,(f i)[j]?=some u->w.cell? ⟨g,i*7+j,none⟩=some u
theorem sA.later{w w':World}{a:Option Addr}{n:Nat}{f:Nat->List Value}(h:sA w a n f)(hb:Below w.heap.size w w'):sA w' a n f:=by
 intro h0;obtain⟨g,e,hg,hc⟩:=h h0;exact⟨g,e,Nat.lt_of_lt_of_le hg hb.size,fun i hi j u hu=>(hb.cell (p:=⟨g,i*7+j,none⟩) hg).trans (hc i hi j u hu)⟩
theorem rI{α:Type}{T:TypeId}{f:α->List Value}(hf:∀x,(f x).length=7){w:World}{base cap n:Nat}{a:Option Addr}{l:List α}(d:α)(hn:l.length=n)(h:be T 7 f w base (.slice a n cap) l):sA w a n fun i=>f (l.getD i d):=by
 intro h0;obtain⟨g,rfl⟩:=h.somes (by omega);refine⟨g,rfl,h.below.2,fun i hi j u hu=>?_⟩;have hj:j<7:=by
  rw[←hf (l.getD i d)];exact(List.getElem?_eq_some_iff.mp hu).1
 rw[(be.at hf d hn h i j hi hj).1];exact hu
def sH(l:List En)(k:Nat):En×Nat:=(l.getD k default,(aH (l.take k)).1.size)
def hdL(l:List En)(n:Nat):List (En×Nat):=(List.range n).map (sH l)
theorem nc(l:List En)(n:Nat):(hdL l n).length=n:=by simp[hdL]
theorem Gm(l:List En)(n:Nat):hdL l (n+1)=hdL l n++[sH l n]:=by simp[hdL,List.range_succ]
theorem J9(l:List En)(n i:Nat)(d:En×Nat)(h:i<n):(hdL l n).getD i d=sH l i:=by simp[hdL,List.getD,h]
theorem F4(L:ByteArray)(many long pl:Nat):L++(⟨#[80,75,5,6]⟩:ByteArray)++aZ ([0,0,many,many].flatMap (leS 2))++aZ (leS 4 long)++aZ (leS 4 pl)++aZ ([0].flatMap (leS 2))=L++dY many long pl:=by
 unfold dY;simp only[ByteArray.append_assoc]
theorem AP(a:Option Addr)(cap n:Nat)(l:List En)(w:World)(hn:l.length=n)(h:sA w a n fun i=>mX (sH l i))(hm:n<=6)(hs:∀i,i<n->jN (l.getD i default)=true) :
  Calls Tryz.prog 48 #[.slice a n cap,.int .i64 ((aH l).1.size:Nat)] w fun e w'=>e = .returned (.string ((aH l).2++dY n (aH l).2.size (aH l).1.size))/\Below w.heap.size w w':=by
 have HZ:=af (lK l (fun i hi=>hs i (by omega)));have hz:=ae HZ n (by omega);rw[List.take_of_length_le (by omega)]at hz;have hP:(aH l).1.size<4294967296:=by omega
 have hL:(aH l).2.size<4294967296:=by omega
 have hLI:((aH l).2.size:Int)<=600:=by omega
 have Hn:=af hn;have HS:=af hs;have HR:=af h;have CW4:Hid (∀g W,bC W (some ⟨g,0,none⟩) (bU [0,0,n,n])->Calls Tryz.prog 76 #[.slice (some ⟨g,0,none⟩) 4 4] W fun e w'=>e = .returned (.string (aZ ([0,0,n,n].flatMap (leS 2))))/\Below W.heap.size W w'):=fun g W h=>cU (some ⟨g,0,none⟩) 4 4 [0,0,n,n] W rfl h (by decide) (by intro x hx;simp at hx;omega);have CW1:Hid (∀g W,bC W (some ⟨g,0,none⟩) (bU [0])->Calls Tryz.prog 76 #[.slice (some ⟨g,0,none⟩) 1 1] W fun e w'=>e = .returned (.string (aZ ([0].flatMap (leS 2))))/\Below W.heap.size W w'):=fun g W h=>cU (some ⟨g,0,none⟩) 1 1 [0] W rfl h (by decide) (by decide);have CLL:Hid (∀W,Calls Tryz.prog 77 #[.int .i64 ((aH l).2.size:Int)] W fun e w'=>e = .returned (.string (aZ (leS 4 (aH l).2.size)))/\Below W.heap.size W w'):=fun W=>cT _ W hL;have CLP:Hid (∀W,Calls Tryz.prog 77 #[.int .i64 ((aH l).1.size:Int)] W fun e w'=>e = .returned (.string (aZ (leS 4 (aH l).1.size)))/\Below W.heap.size W w'):=fun W=>cT _ W hP;have z1:((aZ ([0,0,n,n].flatMap (leS 2))).size:Int)<=100:=by rw[ce];simp[az]
 have z2:((aZ ([0].flatMap (leS 2))).size:Int)<=100:=by rw[ce];simp[az]
 have z3:((aZ (leS 4 (aH l).2.size)).size:Int)<=100:=by rw[ce,az];omega
 have z4:((aZ (leS 4 (aH l).1.size)).size:Int)<=100:=by rw[ce,az];omega
 have HE:=af (F4 (aH l).2 n (aH l).2.size (aH l).1.size);generalize (aH l).2++dY n (aH l).2.size (aH l).1.size=RES at *
 generalize aZ ([0,0,n,n].flatMap (leS 2))=A1 at *
 generalize aZ ([0].flatMap (leS 2))=A2 at *
 generalize aZ (leS 4 (aH l).2.size)=A3 at *
 generalize aZ (leS 4 (aH l).1.size)=A4 at *
 obtain⟨PL,hPL⟩:∃x,(aH l).1.size=x:=⟨_,rfl⟩;obtain⟨LI,hLI'⟩:∃x,(aH l).2=x:=⟨_,rfl⟩;rw[hPL]at CLP hP;rw[hLI']at CLL HE hLI hL;have HLI:=af hLI';rw[hPL];clear hn h hs hz hP hL hPL hLI';go_enter Tryz.func48,Tryz.ntmps48;go_wp2_with fail
 go_loopw [5,7,10] (fun o _ i wr=>∃k:Nat,k<=n/\i = .int .i64 k/\o = .string (aH (l.take k)).2/\Below w.heap.size w wr) (fun _ _ i _=>n-(intOf i).toNat)
 case atStart=>exact⟨0,Nat.zero_le _,rfl,rfl,Below.refl _ _⟩
 case round=>
  obtain⟨k,hk,rfl,rfl,hbel⟩:=hrel;by_cases hlt:k<n
  ·
   obtain⟨g,rfl,hg,hcc⟩:=(ae HR).later hbel (by omega);have c0:=hcc k hlt 0 _ rfl;have c1:=hcc k hlt 1 _ rfl;have c2:=hcc k hlt 2 _ rfl;have c3:=hcc k hlt 3 _ rfl;have c4:=hcc k hlt 4 _ rfl;have c5:=hcc k hlt 5 _ rfl;have c6:=hcc k hlt 6 _ rfl;simp only[sH]at c0 c1 c2 c3 c4 c5 c6;rw[Nat.add_zero]at c0;have hst:Hid ((aH (l.take (k+1))).2=(aH (l.take k)).2++heE (l.getD k default) (aH (l.take k)).1.size):=by show _=_;rw[gN l k (by have:=ae Hn;omega)];rfl
   have hsz:=ae HZ k (by have:=ae Hn;omega);have hszI:((aH (l.take k)).2.size:Int)<=600:=by omega
   have hplI:(aH (l.take k)).1.size<4294967296:=by omega
   have HEn:=ae HS k hlt;obtain⟨f1,f2,f3⟩:=cM (n:=(l.getD k default).n) (t:=(l.getD k default).t) HEn;have hN:=(nK f3).2.2;have hhe:=wH (l.getD k default) (aH (l.take k)).1.size;have hheI:((heE (l.getD k default) (aH (l.take k)).1.size).size:Int)<=100:=by omega
   have hcr:aQ 0 (l.getD k default).t.data.toList<4294967296:=jk _ _ (by omega);have hfz:=jl (l.getD k default).t;have hbz:(bj (l.getD k default).t).size<=100000:=by unfold bj;split<;>omega
   have hwz:eW (l.getD k default).t<=8:=by unfold eW;split<;>omega
   have hN2:eN (l.getD k default)<4294967296:=by unfold eN;omega
   have HP:=af (fun W=>pg (eW (l.getD k default).t) (eN (l.getD k default)) (aQ 0 (l.getD k default).t.data.toList) (bj (l.getD k default).t).size (l.getD k default).t.size (aH (l.take k)).1.size (l.getD k default).n W (by omega) hN2 hcr (by omega) (by omega) (by omega) hplI);have HX:Hid (lT (eW (l.getD k default).t) (eN (l.getD k default)) (aQ 0 (l.getD k default).t.data.toList) (bj (l.getD k default).t).size (l.getD k default).t.size (l.getD k default).n (aH (l.take k)).1.size=heE (l.getD k default) (aH (l.take k)).1.size):=rfl;rw[ae HX]at HP;have HB:=af (And.intro hbel hk);clear hcc HEn f1 f2 f3 hN hhe hsz hplI hcr hfz hbz hwz hN2 hbel hk HX;generalize eW (l.getD k default).t=v0 at *
   generalize eN (l.getD k default)=v1 at *
   generalize aQ 0 (l.getD k default).t.data.toList=v2 at *
   generalize (bj (l.getD k default).t).size=v3 at *
   generalize (l.getD k default).t.size=v4 at *
   generalize (l.getD k default).n=v5 at *
   generalize heE (l.getD k default) (aH (l.take k)).1.size=HE1 at *
   generalize (aH (l.take k)).2=L1 at *
   generalize (aH (l.take k)).1.size=P1 at *
   have hA:Hid (Below wr.heap.size wr (wr.alloc (.cells #[.int .i64 (v0:Nat),.int .i64 (v1:Nat),.int .i64 (v2:Nat),.int .i64 (v3:Nat),.int .i64 (v4:Nat),.string v5,.int .i64 (P1:Nat)] 91))):=(Below.refl _ _).alloc (Nat.le_refl _) _;go_wp2_with fail;refine(ae HP _).mono ?_;rintro e x1 ⟨rfl,hb1⟩;have HB2:=af (aj (ae HB).1 (aj (ae hA) hb1));clear hb1 hA;go_wp2;go_roundw
   case rel=>exact⟨k+1,by have:=(ae HB).2;omega,by go_num,by rw[ae hst],ae HB2⟩
   case measure=>simp[intOf];omega
  · have hkn:l.take k=l:=List.take_of_length_le (by rw[ae Hn];omega);rw[hkn,ae HLI];have HB:=af hbel;clear hbel hkn;have hA:Hid (Below wr.heap.size wr (wr.alloc (.cells #[.int .i64 0,.int .i64 0,.int .i64 (n:Nat),.int .i64 (n:Nat)] 3))):=(Below.refl _ _).alloc (Nat.le_refl _) _;go_wp2_with fail;refine(ae CW4 _ _ (wC wr 0 0 n n)).mono ?_;rintro e x1 ⟨rfl,hb1⟩;have HB1:=af (aj (ae HB) (aj (ae hA) hb1));clear hb1 hA HB;go_wp2_with fail;refine(ae CLL _).mono ?_;rintro e x2 ⟨rfl,hb2⟩;have HB2:=af (aj (ae HB1) hb2);clear hb2 HB1;go_wp2_with fail;refine(ae CLP _).mono ?_;rintro e x3 ⟨rfl,hb3⟩;have HB3:=af (aj (ae HB2) hb3);clear hb3 HB2;have hA3:Hid (Below x3.heap.size x3 (x3.alloc (.cells #[.int .i64 0] 3))):=(Below.refl _ _).alloc (Nat.le_refl _) _;go_wp2_with fail;refine(ae CW1 _ _ (vj x3 0)).mono ?_;rintro e x4 ⟨rfl,hb4⟩;have HB4:=af (aj (ae HB3) (aj (ae hA3) hb4));clear hb4 hA3 HB3;go_wp2;go_ret;exact⟨by rw[←ae HE];rfl,ae HB4⟩
structure Hq where
 how:Nat
 st:Nat
 crc:Nat
 pk:Nat
 lg:Nat
 nm:ByteArray
 pl:Nat
def wj(q:Hq):List Value:=[.int .i64 (q.how:Nat),.int .i64 (q.st:Nat),.int .i64 (q.crc:Nat),.int .i64 (q.pk:Nat),.int .i64 (q.lg:Nat),.string q.nm,.int .i64 (q.pl:Nat)]
theorem F2(e:Hq):(wj e).length=7:=rfl
theorem F3(e:Hq):∀u∈wj e,u.oneCell'=true:=by
 intro u hu;simp only[wj,List.mem_cons,List.not_mem_nil,or_false]at hu;rcases hu with rfl|rfl|rfl|rfl|rfl|rfl|rfl<;>rfl
def cQ(q:Hq):ByteArray:=lT q.how q.st q.crc q.pk q.lg q.nm q.pl
def okQ(q:Hq):Prop:=q.how<65536/\q.st<4294967296/\q.crc<4294967296/\q.pk<4294967296/\q.lg<4294967296/\q.nm.size<=54/\q.pl<4294967296
def dK(f:Nat->Hq):Nat->ByteArray
 | 0=>⟨#[]⟩
 | k+1=>dK f k++cQ (f k)
theorem rl(f:Nat->Hq):∀k,(∀i,i<k->okQ (f i))->(dK f k).size<=100*k
 | 0,_=>Nat.zero_le _
 | k+1,h=>by
  have ih:=rl f k (fun i hi=>h i (by omega));have h1:=(h k (by omega)).2.2.2.2.2.1;have h2:(cQ (f k)).size=46+(f k).nm.size:=jh _ _ _ _ _ _ _;rw[dK,ByteArray.size_append];omega
theorem yS(a:Option Addr)(cap n P:Nat)(f:Nat->Hq)(w:World)(h:sA w a n fun i=>wj (f i))(hm:n<=6)(hs:∀i,i<n->okQ (f i))(hP:P<4294967296) :
  Calls Tryz.prog 48 #[.slice a n cap,.int .i64 (P:Nat)] w fun e w'=>e = .returned (.string (dK f n++dY n (dK f n).size P))/\Below w.heap.size w w':=by
 have hmI:(n:Int)<=6:=by omega
 have HZ:=af (fun k (hk:k<=n)=>rl f k (fun i hi=>hs i (by omega)));have hz:=ae HZ n (by omega);have hL:(dK f n).size<4294967296:=by omega
 have hLI:((dK f n).size:Int)<=600:=by omega
 have HS:=af hs;have HR:=af h;have CW4:Hid (∀g W,bC W (some ⟨g,0,none⟩) (bU [0,0,n,n])->Calls Tryz.prog 76 #[.slice (some ⟨g,0,none⟩) 4 4] W fun e w'=>e = .returned (.string (aZ ([0,0,n,n].flatMap (leS 2))))/\Below W.heap.size W w'):=fun g W h=>cU (some ⟨g,0,none⟩) 4 4 [0,0,n,n] W rfl h (by decide) (by intro x hx;simp at hx;omega);have CW1:Hid (∀g W,bC W (some ⟨g,0,none⟩) (bU [0])->Calls Tryz.prog 76 #[.slice (some ⟨g,0,none⟩) 1 1] W fun e w'=>e = .returned (.string (aZ ([0].flatMap (leS 2))))/\Below W.heap.size W w'):=fun g W h=>cU (some ⟨g,0,none⟩) 1 1 [0] W rfl h (by decide) (by decide);have CLL:Hid (∀W,Calls Tryz.prog 77 #[.int .i64 ((dK f n).size:Int)] W fun e w'=>e = .returned (.string (aZ (leS 4 (dK f n).size)))/\Below W.heap.size W w'):=fun W=>cT _ W hL;have CLP:Hid (∀W,Calls Tryz.prog 77 #[.int .i64 (P:Int)] W fun e w'=>e = .returned (.string (aZ (leS 4 P)))/\Below W.heap.size W w'):=fun W=>cT _ W hP;have z1:((aZ ([0,0,n,n].flatMap (leS 2))).size:Int)<=100:=by rw[ce];simp[az]
 have z2:((aZ ([0].flatMap (leS 2))).size:Int)<=100:=by rw[ce];simp[az]
 have z3:((aZ (leS 4 (dK f n).size)).size:Int)<=100:=by rw[ce,az];omega
 have z4:((aZ (leS 4 P)).size:Int)<=100:=by rw[ce,az];omega
 have HE:=af (F4 (dK f n) n (dK f n).size P);generalize (dK f n)++dY n (dK f n).size P=RES at *
 generalize aZ ([0,0,n,n].flatMap (leS 2))=A1 at *
 generalize aZ ([0].flatMap (leS 2))=A2 at *
 generalize aZ (leS 4 (dK f n).size)=A3 at *
 generalize aZ (leS 4 P)=A4 at *
 obtain⟨LI,hLI'⟩:∃x,(dK f n)=x:=⟨_,rfl⟩;rw[hLI']at CLL HE hLI hL;have HLI:=af hLI';clear h hs hz hP hL hLI';go_enter Tryz.func48,Tryz.ntmps48;go_wp2_with fail
 go_loopw [5,7,10] (fun o _ i wr=>∃k:Nat,k<=n/\i = .int .i64 k/\o = .string (dK f k)/\Below w.heap.size w wr) (fun _ _ i _=>n-(intOf i).toNat)
 case atStart=>exact⟨0,Nat.zero_le _,rfl,rfl,Below.refl _ _⟩
 case round=>
  obtain⟨k,hk,rfl,rfl,hbel⟩:=hrel;by_cases hlt:k<n
  ·
   obtain⟨g,rfl,hg,hcc⟩:=(ae HR).later hbel (by omega);have c0:=hcc k hlt 0 _ rfl;have c1:=hcc k hlt 1 _ rfl;have c2:=hcc k hlt 2 _ rfl;have c3:=hcc k hlt 3 _ rfl;have c4:=hcc k hlt 4 _ rfl;have c5:=hcc k hlt 5 _ rfl;have c6:=hcc k hlt 6 _ rfl;rw[Nat.add_zero]at c0;have hst:Hid (dK f (k+1)=dK f k++cQ (f k)):=rfl;have hsz:=ae HZ k (by omega);have hszI:((dK f k).size:Int)<=600:=by omega
   obtain⟨o0,o1,o2,o3,o4,o5,o6⟩:=ae HS k hlt;have hhe:(cQ (f k)).size=46+(f k).nm.size:=jh _ _ _ _ _ _ _;have hheI:((cQ (f k)).size:Int)<=100:=by omega
   have HP:=af (fun W=>pg (f k).how (f k).st (f k).crc (f k).pk (f k).lg (f k).pl (f k).nm W o0 o1 o2 o3 o4 (by omega) o6);have HX:Hid (lT (f k).how (f k).st (f k).crc (f k).pk (f k).lg (f k).nm (f k).pl=cQ (f k)):=rfl;rw[ae HX]at HP;have HB:=af (And.intro hbel hk);clear hcc o0 o1 o2 o3 o4 o5 o6 hhe hsz hbel hk HX;generalize cQ (f k)=HE1 at *
   generalize (f k).how=v0 at *
   generalize (f k).st=v1 at *
   generalize (f k).crc=v2 at *
   generalize (f k).pk=v3 at *
   generalize (f k).lg=v4 at *
   generalize (f k).nm=v5 at *
   generalize (f k).pl=P1 at *
   generalize dK f k=L1 at *
   have hA:Hid (Below wr.heap.size wr (wr.alloc (.cells #[.int .i64 (v0:Nat),.int .i64 (v1:Nat),.int .i64 (v2:Nat),.int .i64 (v3:Nat),.int .i64 (v4:Nat),.string v5,.int .i64 (P1:Nat)] 91))):=(Below.refl _ _).alloc (Nat.le_refl _) _;go_wp2_with fail;refine(ae HP _).mono ?_;rintro e x1 ⟨rfl,hb1⟩;have HB2:=af (aj (ae HB).1 (aj (ae hA) hb1));clear hb1 hA;go_wp2;go_roundw
   case rel=>exact⟨k+1,by have:=(ae HB).2;omega,by go_num,by rw[ae hst],ae HB2⟩
   case measure=>simp[intOf];omega
  ·
   have hkn:k=n:=by omega
   subst hkn;rw[ae HLI];have HB:=af hbel;clear hbel;have hA:Hid (Below wr.heap.size wr (wr.alloc (.cells #[.int .i64 0,.int .i64 0,.int .i64 (k:Nat),.int .i64 (k:Nat)] 3))):=(Below.refl _ _).alloc (Nat.le_refl _) _;go_wp2_with fail;refine(ae CW4 _ _ (wC wr 0 0 k k)).mono ?_;rintro e x1 ⟨rfl,hb1⟩;have HB1:=af (aj (ae HB) (aj (ae hA) hb1));clear hb1 hA HB;go_wp2_with fail;refine(ae CLL _).mono ?_;rintro e x2 ⟨rfl,hb2⟩;have HB2:=af (aj (ae HB1) hb2);clear hb2 HB1;go_wp2_with fail;refine(ae CLP _).mono ?_;rintro e x3 ⟨rfl,hb3⟩;have HB3:=af (aj (ae HB2) hb3);clear hb3 HB2;have hA3:Hid (Below x3.heap.size x3 (x3.alloc (.cells #[.int .i64 0] 3))):=(Below.refl _ _).alloc (Nat.le_refl _) _;go_wp2_with fail;refine(ae CW1 _ _ (vj x3 0)).mono ?_;rintro e x4 ⟨rfl,hb4⟩;have HB4:=af (aj (ae HB3) (aj (ae hA3) hb4));clear hb4 hA3 HB3;go_wp2;go_ret;exact⟨by rw[←ae HE];rfl,ae HB4⟩
theorem Tryz.infoHd:(Tryz.prog.info? 91).map (fun i=>(i.zero,i.size,i.bytes))=some (some (.agg #[.int .i64 0,.int .i64 0,.int .i64 0,.int .i64 0,.int .i64 0,.string ⟨#[]⟩,.int .i64 0]),7,64):=by kernel_rfl
abbrev Ms:=be (α:=En×Nat) 91 7 mX
theorem Blk.grown{w w':World}{b:Nat}{vs:List Value}{row:Option Nat}(h:Blk w b vs)(hg:w.grownBy w' row)(hr:some b≠row):Blk w' b vs:=
 ⟨Nat.lt_of_lt_of_le h.1 hg.size,fun i v e=>⟨(World.cell?_of_block (hg.block b h.1 hr)).trans (h.2 i v e).1,(World.frozen?_of_block (hg.block b h.1 hr)).trans (h.2 i v e).2⟩⟩
theorem pE(a:Option Addr)(cap n:Nat)(l:List En)(w:World)(hn:l.length=n)(h:sA w a n fun i=>tf (l.getD i default))(hm:n<=6)(hs:∀i,i<n->jN (l.getD i default)=true) :
  Calls Tryz.prog 24 #[.slice a n cap] w fun e w'=>e = .returned (.string ((aH l).1++(aH l).2++dY n (aH l).2.size (aH l).1.size))/\Below w.heap.size w w':=by
 have hmI:(n:Int)<=6:=by omega
 have HZ:=af (lK l (fun i hi=>hs i (by omega)));have Hn:=af hn;have Hm:=af hm;have HS:=af hs;have HR:=af h;have CEnd:=af (fun W b c (h:sA W b n fun i=>mX (sH l i))=>AP b c n l W hn h hm hs);have hz:=ae HZ n (by omega);rw[List.take_of_length_le (by omega)]at hz;have HZE:Hid (((aH l).2++dY n (aH l).2.size (aH l).1.size).size<=1000):=by
  show _<=_;rw[ByteArray.size_append,oe];omega
 have hz1:((aH l).1.size:Int)<=2400:=by omega
 have HAs:Hid ((aH l).1++(aH l).2++dY n (aH l).2.size (aH l).1.size=(aH l).1++((aH l).2++dY n (aH l).2.size (aH l).1.size)):=ByteArray.append_assoc;rw[ae HAs];clear hn h hs hm hz HAs;obtain⟨i0,hi,hy0,hy1,hy2⟩:=info_parts Tryz.infoHd;go_enter Tryz.func24,Tryz.ntmps24;go_wp2_with fail
 go_loopw [3,4,6,9] (fun o q _ i wr=>∃k:Nat,k<=n/\i = .int .i64 k/\o = .string (aH (l.take k)).1/\Ms wr w.heap.size q (hdL l k)/\Below w.heap.size w wr) (fun _ _ _ i _=>n-(intOf i).toNat)
 case atStart=>exact⟨0,Nat.zero_le _,rfl,rfl,be.nil _ _,Below.refl _ _⟩
 case round=>
  obtain⟨k,hk,rfl,rfl,hq,hbel⟩:=hrel;by_cases hlt:k<n
  ·
   obtain⟨g,rfl,hg,hcc⟩:=(ae HR).later hbel (by omega);have c0:=hcc k hlt 0 _ rfl;have c1:=hcc k hlt 1 _ rfl;have c2:=hcc k hlt 2 _ rfl;have c3:=hcc k hlt 3 _ rfl;have c4:=hcc k hlt 4 _ rfl;have c5:=hcc k hlt 5 _ rfl;have c6:=hcc k hlt 6 _ rfl;rw[Nat.add_zero]at c0;have hst:Hid ((aH (l.take (k+1))).1=(aH (l.take k)).1++loE (l.getD k default)):=by show _=_;rw[gN l k (by have:=ae Hn;omega)];rfl
   have hsn:=af (Gm l k);have hsz:=ae HZ k (by have:=ae Hn;omega);have hszI:((aH (l.take k)).1.size:Int)<=2400:=by omega
   have HEn:=ae HS k hlt;obtain⟨f1,f2,f3⟩:=cM (n:=(l.getD k default).n) (t:=(l.getD k default).t) HEn;have hN:=(nK f3).2.2;have hlo:=(xo HEn).2;have hloI:((loE (l.getD k default)).size:Int)<=400:=by omega
   have hcr:aQ 0 (l.getD k default).t.data.toList<4294967296:=jk _ _ (by omega);have hfz:=jl (l.getD k default).t;have hbz:(bj (l.getD k default).t).size<=100000:=by unfold bj;split<;>omega
   have hwz:eW (l.getD k default).t<=8:=by unfold eW;split<;>omega
   have hN2:eN (l.getD k default)<4294967296:=by unfold eN;omega
   have HP:=af (fun W=>oY (eW (l.getD k default).t) (eN (l.getD k default)) (aQ 0 (l.getD k default).t.data.toList) (bj (l.getD k default).t).size (l.getD k default).t.size (l.getD k default).n (bj (l.getD k default).t) W (by omega) hN2 hcr (by omega) (by omega) (by omega) hbz);have HX:Hid (bJ (eW (l.getD k default).t) (eN (l.getD k default)) (aQ 0 (l.getD k default).t.data.toList) (bj (l.getD k default).t).size (l.getD k default).t.size (l.getD k default).n++bj (l.getD k default).t=loE (l.getD k default)):=rfl;rw[ae HX]at HP;have HK:=af hk;have HQ:=af hq;have HBel:=af hbel;clear hcc HEn f1 f2 f3 hN hsz hlo hcr hfz hbz hwz hN2 hk HX hq hbel;have HEnc:Hid (mX (sH l k)=[.int .i64 (eW (l.getD k default).t:Nat),.int .i64 (eN (l.getD k default):Nat),.int .i64 (aQ 0 (l.getD k default).t.data.toList:Nat),.int .i64 ((bj (l.getD k default).t).size:Nat),.int .i64 ((l.getD k default).t.size:Nat),.string (l.getD k default).n,.int .i64 ((aH (l.take k)).1.size:Nat)]):=rfl;have HOne:=af (C6 (sH l k));generalize hv0:eW (l.getD k default).t=v0 at *
   generalize eN (l.getD k default)=v1 at *
   generalize aQ 0 (l.getD k default).t.data.toList=v2 at *
   generalize (bj (l.getD k default).t).size=v3 at *
   generalize (l.getD k default).t.size=v4 at *
   generalize (l.getD k default).n=v5 at *
   generalize bj (l.getD k default).t=v6 at *
   generalize loE (l.getD k default)=LO at *
   generalize (aH (l.take k)).1=F1 at *
   rw[ae HEnc]at HOne;have hA:Hid (Below wr.heap.size wr (wr.alloc (.cells #[.int .i64 (v0:Nat),.int .i64 (v1:Nat),.int .i64 (v2:Nat),.int .i64 (v3:Nat),.int .i64 (v4:Nat),.string v5,.string v6] 60))):=(Below.refl _ _).alloc (Nat.le_refl _) _;have hlen1:Hid (k+1<=maxLen/\(k+1)*64<=140737488355328):=by
    show _/\_;have:=ae Hm;unfold maxLen;omega
   have hq1:=be.own (nc l k) ((ae HQ).later (ae hA) (Nat.le_refl _));have hbel1:=aj (ae HBel) (ae hA);have hbs1:=hbel1.size;have HQ0:=af (be.own (nc l k) (ae HQ));have hP:=af (aS wr #[.int .i64 (v0:Nat),.int .i64 (v1:Nat),.int .i64 (v2:Nat),.int .i64 (v3:Nat),.int .i64 (v4:Nat),.string v5,.string v6] 60);clear HQ HBel;obtain⟨W1,hW1⟩:∃x,wr.alloc (.cells #[.int .i64 (v0:Nat),.int .i64 (v1:Nat),.int .i64 (v2:Nat),.int .i64 (v3:Nat),.int .i64 (v4:Nat),.string v5,.string v6] 60)=x:=⟨_,rfl⟩;rw[hW1]at hA hq1 hbel1 hbs1 hP;have hap:Hid (∀j,Value.ownBlock u4=some j->j<wr.heap.size):=fun j hj=>(World.ownsRow.lt (ae HQ0) j hj).2;have p0:=(ae hP).cell 0 _ rfl;have p1:=(ae hP).cell 1 _ rfl;have p2:=(ae hP).cell 2 _ rfl;have p3:=(ae hP).cell 3 _ rfl;have p4:=(ae hP).cell 4 _ rfl;have p5:=(ae hP).cell 5 _ rfl;go_wp2_with (at_builtin;refine wpList_append_own _ rfl _ _ 89 rfl w.heap.size 91 i0 (.agg #[.int .i64 0,.int .i64 0,.int .i64 0,.int .i64 0,.int .i64 0,.string ⟨#[]⟩,.int .i64 0]) 7 64 Tryz.underlying89 hi hy0 hy1 hy2 rfl (by decide) _ _ _ rfl (World.ownsRow.alloc hq1 _) ⟨W1.heap.size,0,none⟩ 1 1 [.int .i64 (v0:Nat),.int .i64 (v1:Nat),.int .i64 (v2:Nat),.int .i64 (v3:Nat),.int .i64 (v4:Nat),.string v5,.int .i64 (F1.size:Nat)] rfl rfl (gF W1 _ _) (ae HOne) (ae hlen1).1 (ae hlen1).2 (aB hbs1 _) ?_;intro v' x2 hown hgrow hnil;clear hnil;have hP2:=af (Blk.grown (Blk.later (ae hP) ((Below.refl _ _).alloc (Nat.le_refl _) _) (ae hP).1) hgrow (fun e=>absurd (ae hap _ e.symm) (Nat.lt_irrefl _)));have r0:=(ae hP2).cell 0 _ rfl;have r1:=(ae hP2).cell 1 _ rfl;have r2:=(ae hP2).cell 2 _ rfl;have r3:=(ae hP2).cell 3 _ rfl;have r4:=(ae hP2).cell 4 _ rfl;have r5:=(ae hP2).cell 5 _ rfl;have r6:=(ae hP2).cell 6 _ rfl);refine(ae HP _).mono ?_;rintro e x3 ⟨rfl,hb3⟩;have hb2:=aK (v:=u4) hgrow hq1 (Nat.le_refl _) hbs1 hbel1;have hq2:Ms x2 w.heap.size v' (hdL l k++[sH l k]):=be.snoc (nc l k) (by rw[ae HEnc];exact hown);rw[←ae hsn]at hq2;have HQ3:=af (hq2.later hb3 (Nat.le_refl _));have HB3:=af (aj hb2 hb3);clear hown hgrow hq1 hq2 hb2 hb3 hP2 r0 r1 r2 r3 r4 r5 r6 p0 p1 p2 p3 p4 p5 hbel1 hbs1 hP hA hW1;go_wp2;go_roundw
   case rel=>exact⟨k+1,by have:=ae HK;omega,by go_num,by rw[ae hst],ae HQ3,ae HB3⟩
   case measure=>simp[intOf];omega
  ·
   have hkn:k=n:=by omega
   subst hkn;rw[List.take_of_length_le (by rw[ae Hn];omega)];obtain⟨b,c,rfl,hcap,_⟩:=hq.formN (nc l k);have HW:=af (rI C4 (default,0) (nc l k) hq);have HB:=af hbel;clear hq hbel;have HW2:Hid (sA wr b k fun i=>mX (sH l i)):=by
    intro h0;obtain⟨g,e,hg,hc⟩:=ae HW h0;exact⟨g,e,hg,fun i hi j u hu=>hc i hi j u (by show(mX ((hdL l k).getD i _))[j]?=_;rw[J9 l k i _ hi];exact hu)⟩
   have hE:=ae HZE;have hEI:(((aH l).2++dY k (aH l).2.size (aH l).1.size).size:Int)<=1000:=by omega
   clear HW hE HZE HZ HS HR;generalize hEN:(aH l).2++dY k (aH l).2.size (aH l).1.size=EN at *
   generalize hF1:(aH l).1=F1 at *
   have HEN:=af (And.intro hEN hF1);clear hEN hF1;go_wp2_with fail;refine(ae CEnd _ _ _ (ae HW2)).mono ?_;rintro e x1 ⟨rfl,hb1⟩;have HB1:=af (aj (ae HB) hb1);clear hb1;go_wp2;go_ret;exact⟨by rw[←(ae HEN).1,←(ae HEN).2];rfl,ae HB1⟩
theorem qR(a:Option Addr)(cap:Nat)(l:List En)(n:Nat)(hn:l.length=n)(m:Int)(w:World)(h:lZ w a l)(hl:(n:Int)<=1048576)(hcap:(n:Int)<=(cap:Int))
  (hs:∀i,i<n->(l.getD i default).n.size<=1048576/\((l.getD i default).t.size:Int)<=9223372036854775807) (hm:w.cell? ⟨2,0,none⟩=some (.int .i64 m)) (hg:pG w) (hO:dk w) :
  Calls Tryz.prog 8 #[.slice a n cap] w fun e w'=>e = .returned (.string (im l))/\Below w.heap.size w w':=by
 have CZ:=af (sL a cap l n hn m w h hl hcap hs hm hg);cases hk:fq l
 ·
  have HP:Hid (im l=⟨#[]⟩):=by simp[Hid,im,hk]
  rw[hk]at CZ;clear h hs hm hg hO;go_enter Tryz.func8,Tryz.ntmps8;go_wp2_with fail;refine(ae CZ).mono ?_;rintro e x1 ⟨rfl,hb1⟩;have HB1:=af hb1;clear hb1;go_wp2;go_ret;exact⟨by rw[ae HP];rfl,ae HB1⟩
 ·
  obtain⟨hal,h6⟩:=jG hk;have HP:Hid (im l=(aH l).1++(aH l).2++dY n (aH l).2.size (aH l).1.size):=by
   show _=_;rw[im,if_pos hk,hn]
  have HAL:Hid (∀i,i<n->jN (l.getD i default)=true):=fun i hi=>hal i (by omega);have HN:=af hn;have H6:Hid (n<=6):=by show _<=_;omega
  have HR:=af h;have HO:=af hO;rw[hk]at CZ;clear h hs hm hg hO hal h6 hn;go_enter Tryz.func8,Tryz.ntmps8;go_wp2_with fail;refine(ae CZ).mono ?_;rintro e x1 ⟨rfl,hb1⟩;have HB1:=af hb1;clear hb1 CZ;go_wp2_with fail;refine(zu a cap n l _ (ae HN) ((ae HR).later (ae HB1)) (ae H6) (ae HAL) ((ae HO).later (ae HB1))).mono ?_;rintro e x2 ⟨v,rfl,hq,hb2⟩;obtain⟨b,c,rfl,_,_⟩:=hq.formN (ae HN);have HB2:=af (aj (ae HB1) hb2);have HW:=af (rI C8 default (ae HN) hq);clear hq hb2 HB1;go_wp2_with fail;refine(pE b c n l _ (ae HN) (ae HW) (ae H6) (ae HAL)).mono ?_;rintro e x3 ⟨rfl,hb3⟩;have HB3:=af (aj (ae HB2) hb3);rw[←ae HP];clear hb3 HB2 HW;go_wp2;go_ret;exact⟨rfl,ae HB3⟩
end Go.Proofs.YtkpfkgoiaicgbaaGreatDoor
