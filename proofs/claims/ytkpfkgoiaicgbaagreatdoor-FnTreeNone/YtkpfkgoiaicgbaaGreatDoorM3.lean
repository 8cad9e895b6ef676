/- Of what the proof is made: 2 texts, one behind the other. -/
import Derived.Lib.Split
import Derived.Lib.SplitLaws
import Derived.Lib.IndexLaws
import Derived.KernelRfl
import Derived.Test.YtkpfkgoiaicgbaaGreatDoorProg
import Derived.Conc.LoneSelect
import Derived.Conc.AtomicLaws2
import Derived.Conc.MarkLaws
import Derived.Conc.Own5
import Derived.Laws.Rows
import Derived.Laws.World
import Derived.Laws.LoneSync
set_option linter.unusedSimpArgs false
set_option linter.unusedVariables false
set_option maxHeartbeats 8000000
namespace Go.Proofs.YtkpfkgoiaicgbaaGreatDoor
open Go Go.RowKit
def okB(b:UInt8):Bool:=decide (97<=b.toNat)&&decide (b.toNat<=122) || (decide (48<=b.toNat)&&decide (b.toNat<=57) || (b.toNat == 46 || (b.toNat == 45 || b.toNat == 95)))
def dS(p:List UInt8):Bool:=p.all okB&&(decide (1<=p.length)&&(decide (p.length<=10)&&(!(p == [46])&&!(p == [46,46]))))
def cG:List UInt8->List UInt8->List (List UInt8)
 | cur,[]=>[cur]
 | cur,b :: l=>if b=47 then cur :: cG [] l else cG (cur++[b]) l
def lL(l:List UInt8):List (List UInt8):=cG [] l
def f8(l:List UInt8):Bool:=(lL l).all dS&&decide ((lL l).length<=4)
def ahead(cur:List UInt8):List (List UInt8)->List (List UInt8)
 | []=>[cur]
 | h :: t=>(cur++h) :: t
theorem ma:∀(l cur:List UInt8),cG cur l=ahead cur (cG [] l)
 | [],cur=>by simp[cG,ahead]
 | b :: l,cur=>by
  unfold cG;by_cases h:b=47
  · simp[h,ahead]
  ·
   rw[if_neg h,if_neg h,ma l (cur++[b]),ma l ([]++[b])];cases hc:cG [] l with
   | nil=>simp[ahead]
   | cons h t=>simp[ahead]
theorem Bf(l cur:List UInt8):cG cur l≠[]:=by
 induction l generalizing cur with
 | nil=>simp[cG]
 | cons b l ih=>unfold cG;split<;>simp[ih]
theorem k9:∀(l cur:List UInt8) (b:UInt8),cG cur (l++[b])=if b=47 then cG cur l++[[]]else(cG cur l).dropLast++[(cG cur l).getLastD []++[b]]
 | [],cur,b=>by
  by_cases h:b=47<;>simp[cG,h]
 | c :: l,cur,b=>by
  rw[List.cons_append];unfold cG;by_cases h:c=47
  ·
   rw[if_pos h,if_pos h,k9 l [] b];have hne:=Bf l []
   split
   · simp
   ·
    cases hc:cG [] l with
    | nil=>exact absurd hc hne
    | cons x t=>simp
  · rw[if_neg h,if_neg h,k9 l (cur++[c]) b]
theorem mR:∀(l cur:List UInt8),(cG cur l).length<=l.length+1
 | [],cur=>by simp[cG]
 | b :: l,cur=>by
  unfold cG
  split
  · have:=mR l [];simp;omega
  · have:=mR l (cur++[b]);simp;omega
theorem index_one(c b:UInt8)(l:List UInt8)(h:¬ b=c):Lib.index (b :: l) [c]=if Lib.index l [c] == -1 then -1 else Lib.index l [c]+1:=by
 rw[Lib.index];have:([c].isPrefixOf (b :: l))=false:=by simp only[List.isPrefixOf,Bool.and_true,beq_eq_false_iff_ne,ne_eq];exact fun e=>h e.symm
 rw[this];simp
theorem qS(c:UInt8)(l:List UInt8):Lib.index (c :: l) [c]=0:=by
 rw[Lib.index];simp[List.isPrefixOf]
theorem o9(c:UInt8):∀(l:List UInt8),Lib.count l [c]≠0->∃k:Nat,Lib.index l [c]=k
 | [],h=>by
  rw[Lib.count_one]at h;simp at h
 | b :: l,h=>by
  by_cases e:b=c
  · subst e;exact⟨0,qS b l⟩
  ·
   rw[Lib.count_cons_ne b c l e]at h;obtain⟨k,hk⟩:=o9 c l h;refine⟨k+1,?_⟩;rw[index_one c b l e,hk];have:¬ ((k:Int) == -1)=true:=by simp
   rw[if_neg this];omega
theorem yj(c b:UInt8)(l:List UInt8)(h:¬ b=c)(n:Nat)(hn:n=Lib.count l [c]):Lib.splitK [c] 0 n (b :: l)=ahead [b] (Lib.splitK [c] 0 n l):=by
 cases n with
 | zero=>simp[Lib.splitK,ahead]
 | succ n=>
  obtain⟨k,hk⟩:=o9 c l (by omega);have e1:Lib.index (b :: l) [c]=((k+1:Nat):Int):=by
   rw[index_one c b l h,hk];have:¬ ((k:Int) == -1)=true:=by simp
   rw[if_neg this];omega
  have n1:¬ (Lib.index (b :: l) [c] == -1)=true:=by rw[e1];simp;omega
  have n2:¬ (Lib.index l [c] == -1)=true:=by rw[hk];simp
  rw[Lib.splitK,if_neg n1,e1,Lib.splitK,if_neg n2,hk];simp[ahead]
theorem oM:∀(l:List UInt8),Lib.splitK [47] 0 (Lib.count l [47]) l=cG [] l
 | []=>by
  have:Lib.count [] [47]=0:=by rw[Lib.count_one];rfl
  rw[this];simp[Lib.splitK,cG]
 | b :: l=>by
  by_cases h:b=47
  · subst h;rw[Lib.count_cons_eq,Nat.add_comm,Lib.splitK,qS];simp[cG,oM l]
  · rw[Lib.count_cons_ne b 47 l h,yj 47 b l h _ rfl,oM l,cG,if_neg h,ma l ([]++[b])];simp
def xS:List UInt8:=[97,98,99,100,101,102,103,104,105,106,107,108,109,110,111,112,113,114,115,116,117,118,119,120,121,122,48,49,50,51,52,53,54,55,56,57,46,45,95]
theorem Ii:((List.range 256).all fun n=>decide (Lib.indexByte xS n.toUInt8<0) == !okB n.toUInt8)=true:=by decide +kernel
theorem KI(b:UInt8):decide (Lib.indexByte xS b<0)=!okB b:=by
 have:=List.all_eq_true.1 Ii b.toNat (List.mem_range.2 b.toNat_lt);simpa using this
end Go.Proofs.YtkpfkgoiaicgbaaGreatDoor
namespace Go.Proofs.YtkpfkgoiaicgbaaGreatDoor
open Go.Conc Go.RowKit
theorem Me:(Tryz.f56.name == "runtime.NumGoroutine")=false:=by kernel_rfl
theorem Md:(Tryz.f92.name == "runtime.NumGoroutine")=false:=by kernel_rfl
theorem MR:(Tryz.f84.name == "runtime.NumGoroutine")=false:=by kernel_rfl
theorem MU:Extern.findNext Tryz.f84=none:=by kernel_rfl
theorem MO:Extern.find Tryz.f84=some (fun _=>do mark .disable;pure Extern.Race.none_):=by kernel_rfl
theorem Nb:(Tryz.f85.name == "runtime.NumGoroutine")=false:=by kernel_rfl
theorem Nf:Extern.findNext Tryz.f85=none:=by kernel_rfl
theorem M8:Extern.find Tryz.f85=some (fun _=>do mark .enable;pure Extern.Race.none_):=by kernel_rfl
theorem MQ:(Tryz.f96.name == "runtime.NumGoroutine")=false:=by kernel_rfl
theorem MS:Extern.findNext Tryz.f96=none:=by kernel_rfl
theorem MN:Extern.find Tryz.f96=some (Extern.Race.marked .acquire):=by kernel_rfl
theorem Nc:(Tryz.f139.name == "runtime.NumGoroutine")=false:=by kernel_rfl
theorem Ng:Extern.findNext Tryz.f139=none:=by kernel_rfl
theorem M9:Extern.find Tryz.f139=some (Extern.Atomic.loadT (.int .u64)):=by kernel_rfl
theorem Nh:(Tryz.prog.info? 110).map (fun i=>decide (i.size=0))=some false:=by kernel_rfl
theorem M7:∃i,Tryz.prog.info? 113=some i:=by
 have h:(Tryz.prog.info? 113).isSome=true:=by kernel_rfl
 exact Option.isSome_iff_exists.1 h
theorem Na(w:World):(Instr.makeChan 100 (.int .i64 0)).run Tryz.prog w = .ok (.chan (some w.heap.size)) (w.alloc (.chan 0 #[] false 0 0 false)):=by
 obtain⟨i,hi⟩:=M7;simpa using run_makeChan (P:=Tryz.prog) (w:=w) Tryz.underlying100 hi .i64 0 (by omega) (by simp)
theorem pal{Q:World->Prop}{U:World}{o:Obj}(h:∀X,(∃o,X=U.alloc o)->Q X):Q (U.alloc o):=h _ ⟨_,rfl⟩
theorem Il(W:World)(cs:Array Value)(v:Value)(t:TypeId)(h0:cs[0]?=some v):(W.alloc (.cells cs t)).cell? ⟨W.heap.size,0,none⟩=some v/\(W.alloc (.cells cs t)).frozen? ⟨W.heap.size,0,none⟩=false:=by
 have h:=heap_alloc_new W (.cells cs t);constructor
 · simp only[World.cell?,h];exact h0
 · simp only[World.frozen?,h];rfl
set_option maxRecDepth 100000 in
theorem rL(w:World):Calls Tryz.prog 31 #[.slice none 0 0] w fun e w'=>e = .returned (.slice (some ⟨w.heap.size+3,0,none⟩) 0 0)/\Below w.heap.size w w':=by
 refine calls_of_loneTo fun cs=>?_;have e:Frame.enter Tryz.prog 31 #[.slice none 0 0] .normal=(base 31).at ⟨#[.slice none 0 0,undef,undef,undef,undef,undef,undef,undef,undef,undef,undef,undef,undef,undef,undef,undef,undef,undef,undef,undef,undef,undef,undef,undef,undef,undef,undef,undef,undef,undef,undef,undef,undef,undef,undef,undef,undef,undef],[]⟩ [.code (Tryz.f31.body.getD .skip)]:=by
  simp[Frame.enter,Frame.at,Tryz.func31,base,Tryz.f31]
 rw[e];have hmc:=Na;have hb0:((w.alloc (.chan 0 #[] false 0 0 false)).alloc (.cells #[.chan none] 100)).cell? ⟨w.heap.size+1,0,none⟩=some (.chan none)/\((w.alloc (.chan 0 #[] false 0 0 false)).alloc (.cells #[.chan none] 100)).frozen? ⟨w.heap.size+1,0,none⟩=false:=by
  have:=Il (w.alloc (.chan 0 #[] false 0 0 false)) #[.chan none] (.chan none) 100 rfl;simpa using this
 have hb1:=hb0.1;have hb2:=hb0.2;refine LoneTo.goes (n:=200) ?_;simp only[Tryz.f31,Option.getD_some]
 s_c stepG_seq
 s_reg
 s_op
 s_c stepG_region_end
 s_c stepG_seq
 s_reg
 s_op
 s_op
 s_op
 s_op
 s_op
 s_c stepG_region_end
 s_c stepG_seq
 s_reg
 s_op
 s_c stepG_region_end
 s_c stepG_seq
 s_c stepG_seq
 s_reg
 s_op
 s_op
 s_op
 s_c stepG_region_end
 s_c stepG_block
 s_c stepG_loop
 s_c stepG_seq
 s_reg
 s_op
 s_c stepG_region_end
 s_c stepG_seq
 s_cond false
 s_exit
 have hcw:=Il (((w.alloc (.chan 0 #[] false 0 0 false)).alloc (.cells #[.chan none] 100)).setCell ⟨w.heap.size+1,0,none⟩ (.chan (some w.heap.size))) #[.int .u64 0,.int .u32 0] (.int .u64 0) 110 rfl;have hbs:=World.cell?_setCell_same _ _ (.chan (some w.heap.size)) hb1;have hch:(((w.alloc (.chan 0 #[] false 0 0 false)).alloc (.cells #[.chan none] 100)).setCell ⟨w.heap.size+1,0,none⟩ (.chan (some w.heap.size))).heap[w.heap.size]?=some (.chan 0 #[] false 0 0 false):=by
  rw[Below.heap_setCell _ _ _ _ (by show w.heap.size≠w.heap.size+1;omega)];exact(((Below.refl _ _).alloc (Nat.le_refl _) (.cells #[.chan none] 100)).block w.heap.size (by simp)).trans (heap_alloc_new w _)
 have hBl:Below w.heap.size w (((w.alloc (.chan 0 #[] false 0 0 false)).alloc (.cells #[.chan none] 100)).setCell ⟨w.heap.size+1,0,none⟩ (.chan (some w.heap.size))):=
  (((Below.refl _ _).alloc (Nat.le_refl _) _).alloc (by simp) _).setCell (by simp) _
 have hsz:(((w.alloc (.chan 0 #[] false 0 0 false)).alloc (.cells #[.chan none] 100)).setCell ⟨w.heap.size+1,0,none⟩ (.chan (some w.heap.size))).heap.size=w.heap.size+2:=by simp
 generalize ((w.alloc (.chan 0 #[] false 0 0 false)).alloc (.cells #[.chan none] 100)).setCell ⟨w.heap.size+1,0,none⟩ (.chan (some w.heap.size))=V0 at *
 have hA:=(Below.refl V0.heap.size V0).alloc (Nat.le_refl _) (.cells #[.int .u64 0,.int .u32 0] 110);have hbx:=(hA.cell (p:=⟨w.heap.size+1,0,none⟩) (by show w.heap.size+1<_;omega)).trans hbs;have hcc:=(hA.block w.heap.size (by omega)).trans hch;have hB1:=hBl.alloc (by omega) (.cells #[.int .u64 0,.int .u32 0] 110);have hz1:(V0.alloc (.cells #[.int .u64 0,.int .u32 0] 110)).heap.size=w.heap.size+3:=by simp;omega
 have hw0:=hcw.1;rw[hsz]at hw0;clear hcw hbs hch hBl hA hb0 hb1 hb2 e hsz;generalize V0.alloc (.cells #[.int .u64 0,.int .u32 0] 110)=V at *
 s_c stepG_seq
 s_reg
 s_call Tryz.func56 Me Tryz.f56
 s_c stepG_seq
 s_cond true
 s_reg
 s_c (stepG_mark0 .disable (by simp) rfl rfl (by decide) rfl Tryz.func84 MR rfl MU MO)
 s_c stepG_region_end
 s_c stepG_block
 s_c stepG_loop
 s_c stepG_block
 s_c stepG_seq
 s_reg
 s_op
 s_op
 s_op
 s_call Tryz.func92 Md Tryz.f92
 s_c stepG_seq
 s_reg
 s_op
 s_c stepG_region_end
 s_c stepG_seq
 s_reg
 s_op
 s_op
 s_op
 s_c (stepG_load_atomic (ad:=⟨w.heap.size+2,0,none⟩) (v:=0) rfl rfl (by decide) rfl Tryz.func139 Nc rfl Ng .u64 M9 rfl hw0)
 s_op
 s_c stepG_region_end
 s_c stepG_ret'
 s_leave1 Tryz.func92
 s_op
 s_c stepG_region_end
 s_c stepG_seq
 s_reg
 s_op
 s_op
 s_op
 s_op
 s_c stepG_region_end
 s_c stepG_seq
 s_reg
 s_op
 s_op
 s_op
 s_op
 s_c stepG_region_end
 s_c stepG_seq
 s_c stepG_seq
 s_reg
 s_op
 s_op
 s_c stepG_region_end
 s_cond true
 s_c stepG_seq
 s_cond true
 s_c stepG_seq
 s_reg
 s_c (stepG_mark0 .enable (by simp) rfl rfl (by decide) rfl Tryz.func85 Nb rfl Nf M8)
 s_c stepG_region_end
 s_reg
 s_op
 s_in
 refine goes_oper_k rfl rfl (by decide) (fun K hK=>?_);have hcv:=run_convert_to_unsafe (P:=Tryz.prog) Tryz.underlying136 Tryz.underlying138 Nh hw0;go_simp;refine hK _ _ ⟨trivial,?_⟩;clear hK K hcv
 s_c (stepG_markAt .acquire (by simp) rfl rfl (by decide) rfl Tryz.func96 MQ rfl MS MN (ad:=⟨w.heap.size+2,0,none⟩) (by simp[Act.eval]))
 s_c stepG_region_end
 s_c stepG_seq
 s_c stepG_seq
 s_reg
 s_op
 s_op
 s_op
 s_op
 s_op
 s_op
 s_op
 s_op
 s_in;rw[stepG_unwanted rfl rfl];simp only[goes_go];refine⟨trivial,?_⟩;walk_nrm
 s_in;rw[stepG_unwanted rfl rfl];simp only[goes_go];refine⟨trivial,?_⟩;walk_nrm
 s_op
 s_c stepG_region_end
 s_cond false
 s_c stepG_skip
 s_c stepG_ret'
 s_leave0 Tryz.func56
 s_c stepG_region_end
 s_c stepG_seq
 s_reg
 s_op
 s_in
 refine goes_oper_k rfl rfl (by decide) (fun K hK=>?_);have hcl:=fun ats ty=>run_close_open (P:=Tryz.prog) (w:=V) ats ty hcc;go_simp;refine hK _ _ ⟨trivial,?_⟩;clear hK K hcl;have hc2:=heap_setChan V w.heap.size 0 #[] true 0 0 false (by omega);have hB2:=below_setChan hB1 (Nat.le_refl w.heap.size) 0 #[] true 0 0 false;have hz2:=size_setChan V w.heap.size 0 #[] true 0 0 false;have hx2:(V.setChan w.heap.size 0 #[] true 0 0 false).cell? ⟨w.heap.size+1,0,none⟩=some (.chan (some w.heap.size)):=by
  rw[←hbx];simp only[World.cell?,World.setChan];rw[Array.getElem?_setIfInBounds_ne (by omega)]
 rw[hz1]at hz2;clear hbx hcc hB1 hz1 hw0;unfold World.setChan at hc2 hB2 hz2 hx2;generalize ({ V with heap:=V.heap.setIfInBounds w.heap.size (.chan 0 #[] true 0 0 false) } : World)=U at *
 have hwr:(IntKind.i64.wrap 0).toNat=0:=by decide
 have HX3:∀o,(U.alloc o).cell? ⟨w.heap.size+1,0,none⟩=some (.chan (some w.heap.size)):=fun o=>(((Below.refl U.heap.size U).alloc (Nat.le_refl _) o).cell (p:=⟨w.heap.size+1,0,none⟩) (by show w.heap.size+1<_;omega)).trans hx2;have HC3:∀o,(U.alloc o).heap[w.heap.size]?=some (.chan 0 #[] true 0 0 false):=fun o=>(((Below.refl U.heap.size U).alloc (Nat.le_refl _) o).block w.heap.size (by omega)).trans hc2;have HB3:∀o,Below w.heap.size w (U.alloc o):=fun o=>hB2.alloc (by omega) o;clear hx2 hc2 hB2
 s_c stepG_region_end
 s_c stepG_seq
 s_reg
 s_op
 s_op
 s_op
 s_op
 refine pal (Q:=fun X=>Goes Tryz.prog true Eq DAny _ _ _ X) (fun X hX=>?_);obtain⟨o,hX⟩:=hX;have hx3:=HX3 o;have hc3:=HC3 o;have hB3:=HB3 o;rw[←hX]at hx3 hc3 hB3;clear HX3 HC3 HB3 hX
 s_c stepG_region_end
 s_c stepG_seq
 s_c stepG_seq
 s_reg
 s_op
 s_c stepG_region_end
 s_c stepG_block
 s_c stepG_loop
 s_c stepG_seq
 s_reg
 s_stop
 refine LoneTo.step (step_lone_recv_shut true (c:=w.heap.size) (cap:=0) (s:=0) (r:=0) (tm:=false) (stepG_comm (cases:=#[rcase w.heap.size (.agg #[.int .i64 0,.int .i64 0,.int .i64 0,.int .i64 0,.int .i64 0,.int .i64 0,.string ⟨#[]⟩,.string ⟨#[]⟩])]) (blocking:=true) (shape:=.recv true) (w':=X) rfl rfl (by decide) (by simp[go_sem,rcase])) hc3) ?_;rw[Frame.finish_at];simp only[got]
 walk_nrm
 refine LoneTo.goes (n:=60) ?_
 s_op
 s_c stepG_region_end
 s_c stepG_seq
 s_cond false
 s_exit
 s_c stepG_seq
 s_reg
 s_op
 s_op
 s_c stepG_region_end
 s_c stepG_ret'
 s_stop
 refine LoneTo.done ⟨.returned (.slice (some ⟨w.heap.size+3,0,none⟩) 0 0),_,rfl,⟨rfl,?_⟩,rfl,rfl,rfl,rfl,_,Tryz.func31,by simp[results,Tryz.f31,Frame.at]⟩;exact hB3
end Go.Proofs.YtkpfkgoiaicgbaaGreatDoor
