/- Texts of the proof, put together: AltRen2. -/
import Derived.Test.YtckhafpejefbbaaGreatDoorB23
import Derived.Test.YtckhafpejefbbaaGreatDoorB13

set_option maxRecDepth 100000
set_option maxHeartbeats 4000000
namespace Go.Proofs.YtckhafpejefbbaaGreatDoor
open Go.RowKit Go.Shelf
attribute [local go_sem] ztn zq0 zto zx4 zq1 zq2 zq3
def Tw.T.bat:Tw.T->Nat
 | .fn _ _ _ k _=>k
 | .lett _ _ _ _ k _ _=>k
 | _=>0
theorem ztp {x:TN} {A:Addr} (h:x.bind=some A) {w:World} {hi:Nat} (hr:Rep w 0 hi x.t x.v):∃k o c t,A=⟨k,o,none⟩/\w.heap[k]? = some (.cells c t (0,0))/\zh9.contains t=true/\c[o]? = some (ug x.t.bname)/\c[o+1]? = some (.int .i64 x.t.bat):=by
 obtain ⟨t,v⟩:=x
 cases t with
 | fn fr to bn bat b =>
  obtain ⟨v1,⟨k,_,_,rfl,hb⟩,_⟩:=hr
  simp only [TN.bind,zsI] at h
  subst h
  exact ⟨k,2,_,_,rfl,hb,by decide,rfl,rfl⟩
 | lett fr to rc bn bat d b =>
  obtain ⟨v1,v2,⟨k,_,_,rfl,hb⟩,_⟩:=hr
  simp only [TN.bind,zsI] at h
  subst h
  exact ⟨k,3,_,_,rfl,hb,by decide,rfl,rfl⟩
 | _=>simp [TN.bind] at h
def zcb (cs:List (Nat×Nat×List UInt8)):List Value:=cs.flatMap fun c=>[.int .i64 c.1,.int .i64 c.2.1,ug c.2.2]
theorem zkr (cs:List (Nat×Nat×List UInt8)):(zcb cs).length=cs.length * 3:=by
 induction cs with
 | nil=>rfl
 | cons c cs ih=>simp only [zcb,List.flatMap_cons,List.length_append,List.length_cons,List.length_nil] at ih ⊢; omega
theorem zq4:∀(cs:List (Nat×Nat×List UInt8)) (i:Nat) (h:i<cs.length),(zcb cs)[i * 3]? = some (.int .i64 cs[i].1)/\(zcb cs)[i * 3+1]? = some (.int .i64 cs[i].2.1)/\(zcb cs)[i * 3+2]? = some (ug cs[i].2.2)
 | c::cs,0,_=>⟨rfl,rfl,rfl⟩
 | c::cs,i+1,h=>by
  have:=zq4 cs i (by simpa using h)
  rw [show (i+1) * 3=(i * 3)+3 by omega,show i * 3+3+1=(i * 3+1)+3 by omega,show i * 3+3+2=(i * 3+2)+3 by omega]
  exact this
theorem zy6 {w:World} {B:Nat} {v:Value} {cs:List (Nat×Nat×List UInt8)} (h0:cs ≠ []) (h:w.ownsRow B 145 3 v cs.length (zcb cs)):∃g cap,v = .slice (some ⟨g,0,none⟩) cs.length cap/\B<=g/\g<w.heap.size/\ChAt w g cs:=by
 rcases h.2 with ⟨_,e⟩ | ⟨g,cap,cur,rfl,hg,hb,h1,h2,h3,h4⟩
 ·exact absurd (List.length_eq_zero_iff.1 e) h0
 ·refine ⟨g,cap,rfl,hg,(zgE.1 hb).1,fun i hi => ?_⟩
  have key:∀j,j<cs.length * 3->w.cell? ⟨g,j,none⟩=(zcb cs)[j]? := fun j hj=>by
   rw [cell_of_row _ _ _ _ _ _ hb,<-h4,List.getElem?_take_of_lt hj]
   simp
  obtain ⟨a,b,c⟩:=zq4 cs i hi
  exact ⟨(key _ (by omega)).trans a,(key _ (by omega)).trans b,(key _ (by omega)).trans c⟩
theorem zep (w:World) (o o':Obj):((w.alloc o).alloc o').heap[w.heap.size+1]? = some o'/\((w.alloc o).alloc o').heap[w.heap.size]? = some o:=by
 have h:=zad (w.alloc o) o'
 rw [World.size_alloc] at h
 exact ⟨h,(Below.heap_alloc _ _ _ (by simp)).trans (zad w o)⟩
theorem yfa {w:World} {b:Nat} {v:Value} {t:TypeId} (hb:w.heap[b]? = some (.cells #[v] t (0,0))) (v':Value) (o:Obj):((w.setCell ⟨b,0,none⟩ v').alloc o).heap[b]? = some (.cells #[v'] t (0,0))/\((w.setCell ⟨b,0,none⟩ v').alloc o).heap[w.heap.size]? = some o:=by
 have hs:(w.setCell ⟨b,0,none⟩ v').heap.size=w.heap.size:=by unfold World.setCell; simp
 refine ⟨(Below.heap_alloc _ _ _ (by rw [hs]; exact (zgE.1 hb).1)).trans ?_,?_⟩
 ·unfold World.setCell
  simp only
  rw [Array.getElem?_modify]
  simp [hb]
 ·have:=zad (w.setCell ⟨b,0,none⟩ v') o
  rw [hs] at this
  exact this
theorem ybm {w w':World} (h:w.grownBy w' none) {b:Nat} (hb:w.heap.size<=b) (v:Value):w.grownBy (w'.setCell ⟨b,0,none⟩ v) none:=by
 have k:=grownBy_setCell' w' b v
 exact ⟨k.os.trans h.os,k.tape.trans h.tape,k.output.trans h.output,Nat.le_trans h.size k.size,fun i hi _=>(k.block i (Nat.lt_of_lt_of_le hi h.size) (fun e=>by cases e; omega)).trans (h.block i hi (by simp))⟩
def zhv (x:TN) (name:List UInt8) (U:List NB):List (Nat×Nat×List UInt8):=(x.t.bat,x.t.bat+x.t.bname.length,name)::U.map fun b=>(b.fr,b.to,name)
theorem znf (x:TN) (name:List UInt8) (U:List NB):(zhv x name U).length=U.length+1:=by simp [zhv]
theorem zx5 (x:TN) (name:ByteArray) (U:List NB) (y:NB):zcb (zhv x name.data.toList (U ++ [y]))=zcb (zhv x name.data.toList U) ++ [.int .i64 y.fr,.int .i64 y.to,.string name]:=by
 simp only [zhv,zcb,List.map_append,List.flatMap_cons,List.flatMap_append,List.map_cons,List.map_nil,List.flatMap_nil,List.append_nil,List.append_assoc]
theorem zvf (hB:Said.Builder) {w:World} {hi:Nat} {t:Tw.T} {tv:Value} {LN:List TN} {LB:List NB} {s name:ByteArray} {a:Int} {x:TN} {A:Addr} (hn:NDL w hi t tv LN) (hnear:∀x∈LN,x.t.near) (hit:hitL a LN=some x) (hA:x.bind=some A) (hnm:name.size<=300) (hgood:Tw.isNm name.data.toList=true) (hc:¬(name.data.toList≠x.t.bname/\x.t.captN name.data.toList))
    (hnl:NL w hi x.t x.v .nil LB) (hL:LB.length<=300) (hok:ChOk s.size 0 (zhv x name.data.toList (zbq A LB))) (hs:s.size<=300) (hbb:x.t.bat+x.t.bname.length<=1000000) :
    Calls Tryz.prog 39 #[.string s,tv,.int .i64 a,.string name] w fun e w'=>e = .returned (.tuple #[.string ⟨(Tw.chgR 0 s.data.toList (zhv x name.data.toList (zbq A LB))).toArray⟩,.int .i64 0])/\w.grownBy w' none:=by
  have hxr:=hn.rep.2 x (List.mem_of_find?_eq_some hit)
  obtain ⟨TX,nx,hxv⟩:=hxr.iface
  obtain ⟨T0,n0,rfl⟩:=hn.iface
  obtain ⟨k,o,c,tt,rfl,hkb,hkt,hc0,hc1⟩:=ztp hA hxr
  refine (callsIn_wide (n:=3)).1 ?_
  refine callsIn_of_wp_marks Tryz.func39 rfl trivial ?_
  simp only [Tryz.ntmps39,List.size_toArray,List.length_cons,List.length_nil,Nat.reduceAdd,Nat.reduceSub,Array.replicate_succ,Array.replicate_zero,List.push_toArray,List.append_toArray,List.nil_append,List.cons_append]
  gi_wp2_with fail
  refine ⟨trivial,?_⟩
  have n0:=zad w (.cells #[.string name] 9)
  have G0:w.grownBy (w.alloc (.cells #[.string name] 9)) none:=zwA _ _ none
  refine (callsIn_wide.2 (zek (hn.kp (Kp.of_grown G0)) hnear a)).mono ?_
  rintro e1 w1 ⟨rfl,hg1⟩
  rw [hit]
  have n1:=zbG hg1 n0
  have c1:=(zag n1).1
  have G1:=bV (zaa G0 hg1)
  have HX:=bV (ziz (hxr.kp (Kp.of_grown (uh G1))) hA name.data.toList)
  rw [show ug name.data.toList = .string name from rfl] at HX
  have HXV:=bV hxv
  simp only [zny,hxv] at HX ⊢
  have N1:=bV n1
  clear G0 hg1 n0 n1
  gi_wp2_with fail
  refine ⟨trivial,?_⟩
  refine (callsIn_wide.2 (zme name w1 hnm)).mono ?_
  rintro e1 w2 ⟨rfl,rfl⟩
  rw [hgood]
  gi_wp2_with fail
  refine ⟨trivial,?_⟩
  refine (callsIn_wide.2 (uh HX)).mono ?_
  rintro e1 w2 ⟨⟨cb,rfl,hcb⟩,hg2⟩
  obtain rfl:cb=false:=by
    cases cb
    · rfl
    · exact absurd (hcb.1 rfl) hc
  have G2:=bV (zaa (uh G1) hg2)
  have n2:=zbG hg2 (uh N1)
  have c2:=(zag n2).1
  have N2:=bV n2
  have k2:=bV (zbG G2.out hkb)
  have HO:=bV (zjh (hxr.kp (Kp.of_grown (uh G2))) w2)
  simp only [hxv,hA] at HO
  have HS:Hid (∀W:World,w2.grownBy W none->Calls Tryz.prog 67 #[.pointer (some ⟨k,o,none⟩)] W fun e w'=>e = .returned (.agg #[.int .i64 x.t.bat,.int .i64 ((x.t.bat+x.t.bname.length:Nat):Int)])/\W.grownBy w' none) :=
    bV fun W hW=>zvb (zbG hW (uh k2)) hc0 hc1 hbb
  clear hg2 HX G1 N1 n2 c1 hcb hxv
  gi_wp2_with fail
  refine ⟨trivial,?_⟩
  refine (callsIn_wide.2 (uh HO)).mono ?_
  rintro e1 w3 ⟨rfl,rfl⟩
  gi_wp2_with fail
  have hmx:Tryz.prog.follows .mixedOrders=true:=by kernel_rfl
  have hz2:w.heap.size<w2.heap.size:=(zgE.1 (uh N2)).1
  refine wpIn_mono (Q:=Exit.then (fun a' W=>∃bx g u30 u31 u32 u33 u34,a' = {tmps:=#[.string s,.iface T0 (.pointer (some ⟨n0,0,none⟩)),.int .i64 a,.string name,undef,undef,undef,.pointer (some ⟨w.heap.size,0,none⟩),.string ⟨#[]⟩,.int .i64 0,.iface TX (.pointer (some ⟨nx,0,none⟩)),.pointer (some ⟨k,o,none⟩),.pointer (some ⟨bx,0,none⟩),undef,.iface T0 (.pointer (some ⟨n0,0,none⟩)),.int .i64 a,.iface TX (.pointer (some ⟨nx,0,none⟩)),.bool false,.iface TX (.pointer (some ⟨nx,0,none⟩)),.bool false,.bool false,.string name,.bool true,.bool false,.bool false,.iface TX (.pointer (some ⟨nx,0,none⟩)),.string name,.bool false,.iface TX (.pointer (some ⟨nx,0,none⟩)),.pointer (some ⟨k,o,none⟩),u30,u31,u32,u33,u34,undef,undef,undef,undef,undef,undef,undef,undef,undef,undef,undef,undef,undef,undef,undef,undef],defers:=[]}/\bx≠g/\w2.heap.size<=bx/\w2.heap.size<=g/\W.heap[bx]? = some (.cells #[.slice (some ⟨g,0,none⟩) 1 1] 146 (0,0))/\W.heap[g]? = some (.cells #[.int .i64 x.t.bat,.int .i64 ((x.t.bat:Int)+(x.t.bname.length:Int)),.string name] 145 (0,0))/\w2.grownBy W none) (fun _ _ _=>False)) ?_ ?_
  · gi_region_with (first
      | (refine ⟨trivial,?_⟩; gi_at_call 67; refine (callsIn_wide.2 (uh HS _ (by first | exact zac (zab _) | exact zac (zae (zab _) _)))).mono ?_; clear HS; rintro e1 w3 ⟨rfl,hg3⟩
         have g3:w2.grownBy w3 none:=zaa (by first | exact zac (zab _) | exact zac (zae (zab _) _)) hg3
         have hz3:w.heap.size<w3.heap.size:=Nat.lt_of_lt_of_le hz2 g3.size
         have c3:=(zag ((g3.block _ hz2 (by simp)).trans (uh N2))).1
         try (
           have nb3:=(hg3.block w2.heap.size (show w2.heap.size<(w2.alloc (.cells #[.slice none 0 0] 146)).heap.size by simp) (by simp)).trans (zad w2 (.cells #[.slice none 0 0] 146))
           have hzb:w2.heap.size<w3.heap.size:=(zgE.1 nb3).1
           obtain ⟨cb3,fb3⟩:=zag nb3)))
    all_goals (
      have hs3:=g3.size
      first
        | exact ⟨w3.heap.size+1,w3.heap.size,_,_,_,_,_,rfl,by omega,by omega,hs3,(zep w3 _ _).1,(zep w3 _ _).2,zaa g3 (zae (zae (zab _) _) _)⟩
        | exact ⟨w3.heap.size,w3.heap.size+1,_,_,_,_,_,rfl,by omega,hs3,by omega,(zep w3 _ _).2,(zep w3 _ _).1,zaa g3 (zae (zae (zab _) _) _)⟩
        | exact ⟨w2.heap.size,w3.heap.size,_,_,_,_,_,rfl,by omega,znL _,hs3,(yfa nb3 _ _).1,(yfa nb3 _ _).2,zae (ybm g3 (znL _) _) _⟩)
  · rintro e a' W h
    cases e with
    | normal =>
      obtain ⟨bx,g,u30,u31,u32,u33,u34,rfl,hbg,hb2,hg2,hbx,hgb,hgr⟩:=h
      clear HS HO c2 k2
      have n3:=(hgr.block _ hz2 (by simp)).trans (uh N2)
      have G3:=zaa G2.out hgr
      gi_wp2_with fail
      refine ⟨trivial,?_⟩
      refine (callsIn_wide.2 (znb W ⟨TX,nx,rfl⟩ ⟨k,o,none⟩)).mono ?_
      rintro e1 w4 ⟨rfl,rfl⟩
      gi_wp2_with fail
      obtain ⟨W4,hW4⟩:∃W4,(W.alloc (.cells #[.iface TX (.pointer (some ⟨nx,0,none⟩))] 68)).alloc (.cells #[.pointer (some ⟨k,o,none⟩)] 79)=W4:=⟨_,rfl⟩
      have g4:W.grownBy W4 none:=by rw [<-hW4]; exact zae (zae (zab _) _) _
      have r4:W4.heap[W.heap.size]? = some (.cells #[.iface TX (.pointer (some ⟨nx,0,none⟩))] 68 (0,0)):=by rw [<-hW4]; exact (zep W _ _).2
      have s4:W4.heap[W.heap.size+1]? = some (.cells #[.pointer (some ⟨k,o,none⟩)] 79 (0,0)):=by rw [<-hW4]; exact (zep W _ _).1
      have g24:w2.grownBy W4 none:=zaa hgr g4
      have kp4:Kp w W4:=Kp.of_grown (zaa G2.out g24)
      have nl4:=hnl.kp kp4
      rw [uh HXV] at nl4
      have blk4:BinBlk W4 ⟨k,o,none⟩:=⟨c,tt,kp4 _ _ _ _ hkb hkt,hkt⟩
      have bx4:Boxed W4 bx 146 (.slice (some ⟨g,0,none⟩) 1 1):=zbG g4 hbx
      have gb4:=zbG g4 hgb
      have hcells:=fun z hz=>NL.block hnl z hz
      have HCE:=bV hcells
      have nw:=uh N2
      rw [hW4]
      clear hW4 hnl hcells hbx hgb
      refine zhp (p:=38) (d1:=13) rfl (enters_of Tryz.func59 (by kernel_rfl) rfl) (zti r4 s4 nl4 blk4) (fun h k=>h.trans k) zlj (Below.refl _ _)
        (fun pre X=>(∃v,Boxed X bx 146 v/\X.ownsRow w2.heap.size 145 3 v (pre.length+1) (zcb (zhv x name.data.toList (pre.map (·.1))))/\True)/\Below w2.heap.size w2 X)
        (fun _ _ _=>False) ?own ?ownx ?start ?assign ?body ?done ?stop
      case own =>
        rintro s X Y row ⟨h1,h2⟩ hg hr
        exact ⟨holdsRow_own (β := List (UIn ⟨k,o,none⟩ LB)) w2.heap.size bx 146 145 3 (fun pre=>pre.length+1) (fun pre=>zcb (zhv x name.data.toList (pre.map (·.1)))) (fun _ _=>True) s X Y row h1 hg (fun r e=>(hr r e).2),
          ⟨hg.os.trans h2.os,hg.tape.trans h2.tape,hg.output.trans h2.output,Nat.le_trans h2.size hg.size,fun i hi=>(hg.block i (by have:=h2.size; omega) (fun e=>by have:=(hr i e.symm).1; have:=g24.size; omega)).trans (h2.block i hi)⟩⟩
      case ownx=>rintro c s X Y row h; exact h.elim
      case start =>
        refine ⟨⟨_,bx4,⟨by rw [zkr,znf]; rfl,.inr ⟨g,1,_,rfl,hg2,gb4,znL _,by decide,rfl,?_⟩⟩,trivial⟩,⟨g24.os,g24.tape,g24.output,g24.size,fun i hi=>g24.block i hi (by simp)⟩⟩
        simp only [zhv,zcb,List.map_nil,List.flatMap_cons,List.flatMap_nil,List.append_nil,List.length_nil]
        rw [Int.natCast_add]
        rfl
      case assign =>
        intro l x X K hK
        simp only [zsA,zsZ,zsS] at hK ⊢
        gi_wp2
        exact hK
      case body =>
        rintro lr pre ⟨y,hy⟩ X hlr hrec ⟨⟨v,hv,hrow,_⟩,hbel⟩ hlt
        obtain ⟨g5,cap5,rfl⟩:=ownsRow_succ hrow
        have hyb:=uh HCE y (List.mem_filter.1 hy).1
        have hyX:=(hbel.block _ (Nat.lt_of_lt_of_le (zgE.1 hyb).1 G2.out.size)).trans (zbG G2.out hyb)
        obtain ⟨y0,y1,y2,_,_,_⟩:=zaf hyX
        have cN:=(zag ((hbel.block _ hz2).trans nw)).1
        have cv:=hv.cell
        have hzy:y.nb<X.heap.size:=(zgE.1 hyX).1
        have hzn:w.heap.size<X.heap.size:=Nat.lt_of_lt_of_le hz2 hbel.size
        have hzb:=hv.lt
        have hic:(Tryz.prog.info? 145).map (fun i=>(i.zero,i.size,i.bytes))=some (some (.agg #[.int .i64 0,.int .i64 0,.string ⟨#[]⟩]),3,32):=by kernel_rfl
        obtain ⟨i0,hi0,hz0,hz1,hz3⟩:=info_parts hic
        have HROW:=bV hrow
        have HBEL:=bV hbel
        have HV:=bV hv
        simp only [zsA,zsZ,zsS]
        clear hrow hbel hv
        gi_wp2_with fail
        have hmx:Tryz.prog.follows .mixedOrders=true:=by kernel_rfl
        gi_region_with_o (first
          | (refine zlx _ _ _ 146 rfl w2.heap.size 145 i0 (.agg #[.int .i64 0,.int .i64 0,.string ⟨#[]⟩]) 3 32 Tryz.underlying146 hi0 hz0 hz1 hz3 rfl (by decide) _ _ _ rfl (World.ownsRow.alloc (w:=X) (uh HROW) _) ⟨X.heap.size,0,none⟩ 1 1 [.int .i64 y.fr,.int .i64 y.to,.string name] rfl rfl (zcl X _ _ _ _) (by intro u hu; simp at hu; rcases hu with rfl | rfl | rfl <;> rfl) (by unfold maxLen; omega) (by omega) (by have:=HBEL.out.size; simp; omega) ?_; intro v' w5 hown' hgrow
             have hgrow':(X.alloc (.cells #[.int .i64 y.fr,.int .i64 y.to,.string name] 145)).grownBy w5 (Value.slice (some ⟨g5,0,none⟩) (pre.length+1) cap5).ownBlock:=⟨hgrow.os,hgrow.tape,hgrow.output,hgrow.size,hgrow.block⟩
             obtain ⟨g6,cap6,rfl⟩:=ownsRow_succ hown'
             have hap:=Boxed.appended (uh HV) (by decide) (uh HROW) HBEL.out.size hb2 hown' hgrow'
             have hc1:=hap.1.cell
             have hf1:=hap.1.frozen))
        all_goals exact ⟨hap.2.2.2.1.from _,zel (uh HV) (uh HROW) hgrow' (by decide) (by decide),⟨_,hap.2.1,by simp only [List.map_append,List.map_cons,List.map_nil,List.length_append,List.length_cons,List.length_nil,Nat.zero_add]; rw [zx5]; exact hap.2.2.1,trivial⟩,(uh HBEL).trans hap.2.2.2.2⟩
      case done =>
        rintro D xs X hD hxs ⟨⟨v,hv,hrow,_⟩,hbel⟩ hK
        have hlx:(zbq ⟨k,o,none⟩ LB).length=xs.length:=by rw [<-hxs]; simp
        rw [hxs] at hrow
        have hrl:=znf x name.data.toList (zbq ⟨k,o,none⟩ LB)
        rw [hlx] at hrl
        rw [<-hrl] at hrow
        obtain ⟨g7,cap7,rfl,_,hg7,hch⟩:=zy6 (by simp [zhv]) hrow
        have cv:=hv.cell
        have hul:xs.length<=300:=by
          rw [<-hlx]
          exact Nat.le_trans (List.length_filter_le _ _) hL
        have HCH:=bV (zpb hB (cap:=cap7) hs hch hg7 hok (by rw [hrl]; omega) (by
          intro c hc
          have:name.data.toList.length=name.size:=Array.length_toList
          simp only [zhv,zmC,List.mem_map] at hc
          rcases hc with rfl | ⟨_,_,rfl⟩ <;> simp only <;> omega))
        rw [hrl] at HCH
        have HBEL:=bV hbel
        have HK:=bV hK
        clear hrow hv hbel hch hxs hok
        gi_wp2_with fail
        refine ⟨trivial,?_⟩
        refine (callsIn_wide.2 (uh HCH)).mono ?_
        rintro e1 X2 ⟨rfl,hgX⟩
        have hK2:X2.heap[D]? = some (.deferred (some [])):=zbG hgX (uh HK)
        gi_wp2_with fail
        refine ⟨by simp,.inl ⟨_,_,rfl,run_takeDeferred hK2,?_⟩⟩
        obtain ⟨out,hout⟩:∃out:ByteArray,(⟨(Tw.chgR 0 s.data.toList (zhv x name.data.toList (zbq ⟨k,o,none⟩ LB))).toArray⟩:ByteArray)=out:=⟨_,rfl⟩
        rw [hout]
        refine ⟨.tuple #[.string out,.int .i64 0],?_,rfl,?_⟩
        · simp [results,Tryz.results39,go_sem]
        · have hput:=grownBy_putObj' X2 D (.deferred none)
          have hb:=HBEL.out
          have hz:=G2.out.size
          have hz4:=g24.size
          refine ⟨hput.os.trans (hgX.os.trans (hb.os.trans G2.out.os)),hput.tape.trans (hgX.tape.trans (hb.tape.trans G2.out.tape)),hput.output.trans (hgX.output.trans (hb.output.trans G2.out.output)),by have:=hput.size; have:=hgX.size; have:=hb.size; omega,fun i hi _ => ?_⟩
          have hi2:i<w2.heap.size:=by omega
          have hiX:i<X.heap.size:=by have:=hb.size; omega
          exact (hput.block i (by have:=hgX.size; omega) (fun e=>by cases e; omega)).trans ((hgX.block i hiX (by simp)).trans ((hb.block i hi2).trans (G2.out.block i hi (by simp))))
      case stop=>intro D c pre X hD hpre h; exact h.elim
    | _=>exact h.elim
end Go.Proofs.YtckhafpejefbbaaGreatDoor
