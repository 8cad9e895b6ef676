/- Of what the proof is made: 2 texts, one behind the other. -/
import Derived.Test.YtkpfkgoiaicgbaaGreatDoorM29
import Derived.Lib.QuietBelow
set_option linter.unusedSimpArgs false
set_option linter.unusedVariables false
set_option maxHeartbeats 1600000
namespace Go.Proofs.YtkpfkgoiaicgbaaGreatDoor
open Go.RowKit
theorem lZ.take{w:World}{a:Option Addr}{l:List En}(h:lZ w a l)(k:Nat):lZ w a (l.take k):=by
 intro h0;have h1:0<l.length:=by rw[List.length_take]at h0;omega
 obtain⟨g,o,e,hg,hc⟩:=h h1;refine⟨g,o,e,hg,fun i hi=>?_⟩;rw[List.length_take]at hi;have e1:(l.take k).getD i default=l.getD i default:=by
  simp only[List.getD];rw[List.getElem?_take_of_lt (by omega)]
 rw[e1];exact hc i (by omega)
theorem lH(l:List En)(k i:Nat)(hi:i<k):(l.take k).getD i default=l.getD i default:=by
 simp only[List.getD];rw[List.getElem?_take_of_lt hi]
def gp(l:List En)(i:Nat):Int:=cB (l.take i) (l.getD i default)
theorem KQ(l:List En)(e:En):cB l e=0∨cB l e=1∨cB l e=3∨cB l e=4:=by
 unfold cB;split<;>(try split)<;>(try split)<;>simp
theorem vC(a:Option Addr)(cap:Nat)(l:List En)(n:Nat)(hn:l.length=n)(m:Int)(w:World)(h:lZ w a l)(hl:(n:Int)<=1048576)(hcap:(n:Int)<=(cap:Int))
  (hs:∀i,i<n->(l.getD i default).n.size<=1048576/\((l.getD i default).t.size:Int)<=9223372036854775807) (hm:w.cell? ⟨2,0,none⟩=some (.int .i64 m)) :
  Calls Tryz.prog 46 #[.slice a n cap] w fun e w'=>(∃c:Int,e = .returned (eo c)/\(c=0<->∀i,i<n->gp l i=0)/\(c=0∨c=1∨c=3∨c=4))/\Below w.heap.size w w':=by
 have hmix:Tryz.prog.follows .mixedOrders=true:=by kernel_rfl
 have HS:=af hs;have HR:=af h;have HM:=af hm;have hmb:=af (World.block_lt_of_cell? _ _ hm);have CM:=af (fun W (hb:Below w.heap.size w W)=>(hb.cell (p:=⟨2,0,none⟩) (ae hmb)).trans (ae HM));have HN:=af hn;clear h hs hm hn;go_enter Tryz.func46,Tryz.ntmps46;go_wp2_with fail
 go_loopw [3,4,5,8] (fun _ _ _ i wr=>∃k:Nat,k<=n/\i = .int .i64 k/\(∀j,j<k->gp l j=0)/\Below w.heap.size w wr) (fun _ _ _ i _=>n-(intOf i).toNat)
 case atStart=>exact⟨0,Nat.zero_le _,rfl,fun j hj=>absurd hj (by omega),Below.refl _ _⟩
 case round=>
  obtain⟨k,hk,rfl,hall,hbel⟩:=hrel;have HALL:=af hall;have HBel:=af hbel;clear hall hbel;by_cases hkn:k<n
  ·
   have hkI:(k:Int)<(n:Int):=by omega
   have hkc:(k:Int)<=(cap:Int):=by omega
   obtain⟨g,o,rfl,hg,hc⟩:=(ae HR).later (ae HBel) (by have:=ae HN;omega);obtain⟨c0,c1,c2,c3,c4,c5,c6,c7⟩:=hc k (by have:=ae HN;omega);have HKN:=af hkn;have HLK:Hid ((l.take k).length=k):=by show _=_;rw[List.length_take,ae HN];omega
   have HZ:=af (fun W (hW:Below w.heap.size w W)=>pF (some ⟨g,o,none⟩) cap (l.take k) k (ae HLK) (l.getD k default) m W (((ae HR).later hW).take k) (by omega)
    (fun i hi=>by rw[lH l k i hi];have:=(ae HS i (by omega)).1;omega) (ae HS k hkn).1 (ae HS k hkn).2 (ae CM W hW))
   have HIN:=af (KQ (l.take k) (l.getD k default));have HC0:Hid (cB (l.take k) (l.getD k default)=gp l k):=rfl;have HNX:Hid (gp l k=0->∀j,j<k+1->gp l j=0):=by
    intro e j hj;by_cases hjk:j=k
    · rw[hjk];exact e
    · exact ae HALL j (by omega)
   clear hc hk HALL hkn;generalize l.getD k default=en at *
   by_cases hc0:cB (l.take k) en=0
   ·
    have hv:eo (cB (l.take k) en) = .nilIface:=by rw[hc0];rfl
    rw[hv]at HZ;have HX:=af (ae HNX ((ae HC0).symm.trans hc0));clear hv hc0 HC0 HNX HIN;go_wp2_with fail;obtain⟨W4,hW4⟩:∃W,W=wr.alloc (.cells #[.string en.n,.int .i64 en.y,.int .i64 en.mo,.int .i64 en.d,.int .i64 en.h,.int .i64 en.mi,.int .i64 en.s,.string en.t] 51):=⟨_,rfl⟩;rw[←hW4];have HE4:Hid (Ent W4 wr.heap.size en.n en.y en.mo en.d en.h en.mi en.s en.t):=by rw[hW4];exact og wr en.n en.y en.mo en.d en.h en.mi en.s en.t 51
    have HB4:Hid (Below w.heap.size w W4):=by rw[hW4];exact(ae HBel).alloc (ae HBel).size _
    clear hW4;obtain⟨⟨u0,u1,u2,u3,u4,u5,u6,u7⟩,_,_⟩:=ae HE4;have k0:=cell_regrown u0;have k1:=cell_regrown u1;have k2:=cell_regrown u2;have k3:=cell_regrown u3;have k4:=cell_regrown u4;have k5:=cell_regrown u5;have k6:=cell_regrown u6;have k7:=cell_regrown u7;have cZ:=fun d os=>Calls.regrown_of (w:=W4) (d:=d) (os:=os) (ae HZ _ ((ae HB4).trans ((below_regrown W4 d os).mono (ae HB4).size)));clear u0 u1 u2 u3 u4 u5 u6 u7 HE4;refine wp_region_quiet_below hmix (by kernel_rfl) ?_;repeat (quiet_step (exact cZ _ _))
    refine wpQuiet_nil ?_;intro zw hw';obtain⟨⟨dq,osq⟩,hw2⟩:=hw';have HZW:=below_regrown W4 dq osq;rw[←hw2]at HZW;have BZ:=af (aj (ae HB4) HZW);clear hw2 HZW k0 k1 k2 k3 k4 k5 k6 k7 cZ HB4;go_wp2;go_roundw
    case rel=>exact⟨k+1,by have:=ae HKN;omega,by go_num,ae HX,ae BZ⟩
    case measure=>have:=ae HKN;simp[intOf];omega
   ·
    have hv:eo (cB (l.take k) en) = .iface 124 (.agg #[.int .i64 (cB (l.take k) en)]):=by unfold eo;rw[if_neg hc0]
    have HF:=af hv.symm;rw[hv]at HZ;have HNZ:Hid (¬ ∀i,i<n->gp l i=0):=fun e=>hc0 ((ae HC0).trans (e k (ae HKN)));have HNE:=af hc0;clear hv hc0 HC0 HNX;generalize cB (l.take k) en=c at *
    go_wp2_with fail;obtain⟨W4,hW4⟩:∃W,W=wr.alloc (.cells #[.string en.n,.int .i64 en.y,.int .i64 en.mo,.int .i64 en.d,.int .i64 en.h,.int .i64 en.mi,.int .i64 en.s,.string en.t] 51):=⟨_,rfl⟩;rw[←hW4];have HE4:Hid (Ent W4 wr.heap.size en.n en.y en.mo en.d en.h en.mi en.s en.t):=by rw[hW4];exact og wr en.n en.y en.mo en.d en.h en.mi en.s en.t 51
    have HB4:Hid (Below w.heap.size w W4):=by rw[hW4];exact(ae HBel).alloc (ae HBel).size _
    clear hW4;obtain⟨⟨u0,u1,u2,u3,u4,u5,u6,u7⟩,_,_⟩:=ae HE4;have k0:=cell_regrown u0;have k1:=cell_regrown u1;have k2:=cell_regrown u2;have k3:=cell_regrown u3;have k4:=cell_regrown u4;have k5:=cell_regrown u5;have k6:=cell_regrown u6;have k7:=cell_regrown u7;have cZ:=fun d os=>Calls.regrown_of (w:=W4) (d:=d) (os:=os) (ae HZ _ ((ae HB4).trans ((below_regrown W4 d os).mono (ae HB4).size)));clear u0 u1 u2 u3 u4 u5 u6 u7 HE4;refine wp_region_quiet_below hmix (by kernel_rfl) ?_;repeat (quiet_step (exact cZ _ _))
    refine wpQuiet_nil ?_;intro zw hw';obtain⟨⟨dq,osq⟩,hw2⟩:=hw';have HZW:=below_regrown W4 dq osq;rw[←hw2]at HZW;have BZ:=af (aj (ae HB4) HZW);clear hw2 HZW k0 k1 k2 k3 k4 k5 k6 k7 cZ HB4;go_wp2;go_ret;refine⟨⟨c,?_,⟨fun e=>absurd e (ae HNE),fun e=>absurd e (ae HNZ)⟩,ae HIN⟩,ae BZ⟩;rw[←ae HF];rfl
  ·
   obtain rfl:k=n:=by omega
   go_wp2;go_ret;exact⟨⟨0,rfl,⟨fun _=>ae HALL,fun _=>rfl⟩,.inl rfl⟩,ae HBel⟩
theorem Fi(l:List En)(x:ByteArray):pI l x=false<->∀j,j<l.length->bE (l.getD j default).n.data.toList x.data.toList=false:=by
 refine⟨fun h j hj=>?_,sV⟩;cases e:bE (l.getD j default).n.data.toList x.data.toList
 · rfl
 · rw[vE hj e]at h;cases h
theorem Es(l:List En)(e:En):cB l e=0<->jN e=true/\pI l e.n=false/\l.length<6:=by
 unfold cB;cases h1:jN e
 · simp
 ·
  cases h2:pI l e.n
  ·
   by_cases h3:6<=l.length
   · simp[h3]
   · simp[h3];omega
  · simp
theorem kZ{l:List En}{i:Nat}(hi:i<l.length):gp l i=0<->jN (l.getD i default)=true/\(∀j,j<i->bE (l.getD j default).n.data.toList (l.getD i default).n.data.toList=false)/\i<6:=by
 have hl:(l.take i).length=i:=by rw[List.length_take];omega
 unfold gp;rw[Es,Fi,hl];constructor
 · rintro⟨h1,h2,h3⟩;exact⟨h1,fun j hj=>by have:=h2 j hj;rwa[lH l i j hj]at this,h3⟩
 · rintro⟨h1,h2,h3⟩;exact⟨h1,fun j hj=>by rw[lH l i j hj];exact h2 j hj,h3⟩
theorem Ji(a:List UInt8):di a a=false:=by
 cases e:di a a
 · rfl
 · have:=(List.isPrefixOf_iff_prefix.1 e).length_le;rw[List.length_append]at this;simp only[List.length_cons,List.length_nil]at this;omega
theorem qv{a b:List UInt8}(h:bE a b=false):¬ a=b/\di b a=false/\di a b=false:=by
 simp only[bE,Bool.or_eq_false_iff,beq_eq_false_iff_ne,ne_eq]at h;exact⟨h.1,h.2.1,h.2.2⟩
theorem lv(l:List En)(i:Nat):Hh l i=true<->jN (l.getD i default)=true/\atN l (l.getD i default).n=(i:Int)/\wD l i=true:=by
 simp[Hh]
theorem Cl{l:List En}{i j:Nat}(hi:i<l.length)(hj:j<i)(e:(l.getD j default).n.data.toList=(l.getD i default).n.data.toList):¬ atN l (l.getD i default).n=(i:Int):=by
 intro h;unfold atN at h
 split at h
 ·
  rename_i q hq;have hq2:q=i:=by omega
  subst hq2;rw[List.findIdx?_eq_some_iff_getElem]at hq;obtain⟨_,_,h3⟩:=hq;have h4:=h3 j hj;have hj':j<l.length:=by omega
  simp only[List.getD,List.getElem?_eq_getElem hj',Option.getD_some]at e;simp only[beq_iff_eq]at h4;exact h4 (by simpa[List.getD]using e)
 · omega
theorem oP(l:List En):fq l=true<->∀i,i<l.length->gp l i=0:=by
 constructor
 · intro h i hi;simp only[fq,Bool.and_eq_true,decide_eq_true_eq,List.all_eq_true]at h;obtain⟨h1,h6⟩:=h;obtain⟨e1,e2,e3⟩:=(lv l i).1 (h1 i (List.mem_range.2 hi));refine(kZ hi).2 ⟨e1,fun j hj=>?_,by omega⟩;obtain⟨_,_,f3⟩:=(lv l j).1 (h1 j (List.mem_range.2 (by omega)));simp only[wD,List.all_eq_true,Bool.not_eq_true']at e3 f3;have u1:=e3 j (List.mem_range.2 (by omega));have u2:=f3 i (List.mem_range.2 hi);simp only[bE,Bool.or_eq_false_iff,beq_eq_false_iff_ne,ne_eq];exact⟨fun e=>Cl hi hj e e2,u1,u2⟩
 ·
  intro h;have h6:l.length<=6:=by
   rcases Nat.lt_or_ge 6 l.length with h7|h7
   · have:=((kZ h7).1 (h 6 h7)).2.2;omega
   · exact h7
  rw[Ln (fun i hi=>?_)]
  · simpa using h6
  ·
   obtain⟨c1,c2,_⟩:=(kZ hi).1 (h i hi);refine(lv l i).2 ⟨c1,JJ hi (fun j hj e=>(qv (c2 j hj)).1 (eq.1 e)) rfl,Gh (fun k hk=>?_)⟩;rcases Nat.lt_trichotomy k i with hki|hki|hki
   · exact(qv (c2 k hki)).2.1
   · rw[hki];exact Ji _
   · exact(qv (((kZ hk).1 (h k hk)).2.1 i hki)).2.2
end Go.Proofs.YtkpfkgoiaicgbaaGreatDoor
