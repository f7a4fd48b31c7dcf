/- Texts of the proof, put together: Parse, Parse2. -/
import Derived.Test.YtckhafpejefbbaaGreatDoorB03
import Derived.Test.YtckhafpejefbbaaGreatDoorB04
import Derived.BigQuiet
import Derived.RegionTactic
import Derived.BigRegion

set_option maxRecDepth 100000
set_option maxHeartbeats 4000000
namespace Go.Proofs.YtckhafpejefbbaaGreatDoor
open Go.RowKit
structure PCtx (w:World) (bp gt cap:Nat) (cur:Array Value) (s:ByteArray) (ts:List Tw.Tok) (st:Tw.PS):Prop where
 parser:w.heap[bp]? = some (.cells #[.string s,.slice (some ⟨gt,0,none⟩) ts.length cap,.int .i64 st.next,.int .i64 st.depth,.bool st.stuck,.int .i64 st.fault] 179 (0,0))
 row:w.heap[gt]? = some (.cells cur 176 (0,0))
 ne:gt≠bp
 cells:cur.toList.take (ts.length * 3)=zbs ts
 len:ts.length<=cap
 capm:cap<=maxLen
 size:s.size<=300
 many:ts.length<=301
 nxt:st.next<=301
 dep:st.depth<=301
theorem zrj (ts:List Tw.Tok) (j:Nat) (t:Tw.Tok) (h:ts[j]? = some t) :
  (zbs ts)[j * 3]? = some (.int .i64 t.sort)/\(zbs ts)[j * 3+1]? = some (.int .i64 t.fr)/\(zbs ts)[j * 3+2]? = some (.int .i64 t.to):=by
 induction ts generalizing j with
 | nil=>simp at h
 | cons a ts ih =>
  cases j with
  | zero=>simp at h; subst h; simp [zbs,znu]
  | succ j =>
   have:=ih j (by simpa using h)
   simp only [zbs,znu]
   rw [show (j+1) * 3=j * 3+1+1+1 from by omega]
   simpa using this
theorem PCtx.tok {w:World} {bp gt cap:Nat} {cur:Array Value} {s:ByteArray} {ts:List Tw.Tok} {st:Tw.PS} (h:PCtx w bp gt cap cur s ts st) {j:Nat} {t:Tw.Tok} (hj:ts[j]? = some t) :
  w.cell? ⟨gt,j * 3,none⟩=some (.int .i64 t.sort)/\w.cell? ⟨gt,j * 3+1,none⟩=some (.int .i64 t.fr)/\w.cell? ⟨gt,j * 3+2,none⟩=some (.int .i64 t.to):=by
 obtain ⟨a,b,c⟩:=zrj ts j t hj
 have hlt:j<ts.length:=(zlE.1 hj).1
 rw [<-h.cells,List.getElem?_take,if_pos (by omega)] at a b c
 refine ⟨?_,?_,?_⟩
 ·rw [cell_of_row w gt _ cur _ _ h.row]; simpa using a
 ·rw [cell_of_row w gt _ cur _ _ h.row]; simpa using b
 ·rw [cell_of_row w gt _ cur _ _ h.row]; simpa using c
theorem PCtx.p {w:World} {bp gt cap:Nat} {cur:Array Value} {s:ByteArray} {ts:List Tw.Tok} {st:Tw.PS} (h:PCtx w bp gt cap cur s ts st) :
  w.cell? ⟨bp,0,none⟩=some (.string s)/\w.cell? ⟨bp,1,none⟩=some (.slice (some ⟨gt,0,none⟩) ts.length cap)/\w.cell? ⟨bp,2,none⟩=some (.int .i64 st.next)/\w.cell? ⟨bp,3,none⟩=some (.int .i64 st.depth)/\w.cell? ⟨bp,4,none⟩=some (.bool st.stuck)/\w.cell? ⟨bp,5,none⟩=some (.int .i64 st.fault):=by
 refine ⟨?_,?_,?_,?_,?_,?_⟩ <;> (rw [cell_of_row w bp _ _ _ _ h.parser]; rfl)
theorem zwh {w:World} {bp gt cap:Nat} {cur:Array Value} {s:ByteArray} {ts:List Tw.Tok} {st:Tw.PS} (h:PCtx w bp gt cap cur s ts st) (hs:st.stuck=false) {t:Tw.Tok} (ht:ts[st.next]? = some t) :
  Calls Tryz.prog 155 #[.pointer (some ⟨bp,0,none⟩)] w fun e w'=>e = .returned (.agg #[.int .i64 t.sort,.int .i64 t.fr,.int .i64 t.to])/\w.grownBy w' none:=by
 obtain ⟨t0,t1,t2⟩:=h.tok ht
 obtain ⟨p0,p1,p2,p3,p4,p5⟩:=h.p
 have hlt:st.next<ts.length:=(zlE.1 ht).1
 rw [hs] at p4
 have hbp:bp<w.heap.size:=(zgE.1 h.parser).1
 have hgt:gt<w.heap.size:=(zgE.1 h.row).1
 have c164:Tryz.prog.cellsOf 176=3:=by kernel_rfl
 have hix:(st.next:Int)<(ts.length:Int):=by omega
 go_enter Tryz.func155,Tryz.ntmps155
 go_wp2_with fail
 go_region
 go_wp2_with fail
 refine bodyPost_ret (v:=.agg #[.int .i64 t.sort,.int .i64 t.fr,.int .i64 t.to]) (by simp [results,Tryz.results155,go_sem]) rfl ⟨rfl,?_⟩
 go_light
 exact ⟨rfl,rfl,rfl,by simp,fun k hk _=>Below.heap_alloc w _ k hk⟩
theorem zt7 {w:World} {bp gt cap:Nat} {cur:Array Value} {s:ByteArray} {ts:List Tw.Tok} {st:Tw.PS} (h:PCtx w bp gt cap cur s ts st) (hs:st.stuck=true) {t:Tw.Tok} (ht:ts[ts.length-1]? = some t) :
  Calls Tryz.prog 155 #[.pointer (some ⟨bp,0,none⟩)] w fun e w'=>e = .returned (.agg #[.int .i64 t.sort,.int .i64 t.fr,.int .i64 t.to])/\w.grownBy w' none:=by
 have hlt:ts.length-1<ts.length:=(zlE.1 ht).1
 have hm:=h.many
 obtain ⟨t0,t1,t2⟩:=h.tok ht
 obtain ⟨p0,p1,p2,p3,p4,p5⟩:=h.p
 rw [hs] at p4
 have hbp:bp<w.heap.size:=(zgE.1 h.parser).1
 have hgt:gt<w.heap.size:=(zgE.1 h.row).1
 have c164:Tryz.prog.cellsOf 176=3:=by kernel_rfl
 obtain ⟨n,hn⟩:∃n,ts.length=n+1:=⟨ts.length-1,by omega⟩
 rw [hn] at p1 t0 t1 t2 hlt
 simp only [Nat.add_sub_cancel] at t0 t1 t2
 have hix:(n:Int)<((n+1:Nat):Int):=by omega
 have hn2:n<=300:=by omega
 clear hlt ht hn hm h hs p0 p2 p3 p5
 go_enter Tryz.func155,Tryz.ntmps155
 go_wp2_with fail
 go_region
 go_wp2_with fail
 refine bodyPost_ret (v:=.agg #[.int .i64 t.sort,.int .i64 t.fr,.int .i64 t.to]) (by simp [results,Tryz.results155,go_sem]) rfl ⟨rfl,?_⟩
 go_light
 exact ⟨rfl,rfl,rfl,by simp,fun k hk _=>Below.heap_alloc w _ k hk⟩
theorem zbo {w:World} {bp gt cap:Nat} {cur:Array Value} {s:ByteArray} {ts:List Tw.Tok} {st:Tw.PS} (h:PCtx w bp gt cap cur s ts st) {t:Tw.Tok} (ht:Tw.tokS ts st=some t) :
  Calls Tryz.prog 155 #[.pointer (some ⟨bp,0,none⟩)] w fun e w'=>e = .returned (.agg #[.int .i64 t.sort,.int .i64 t.fr,.int .i64 t.to])/\w.grownBy w' none:=by
 unfold Tw.tokS at ht
 split at ht
 ·exact zt7 h ‹_› ht
 ·exact zwh h (by rename_i hh; simpa [Bool.not_eq_true] using hh) ht
def Keep (bp:Nat) (w w':World):Prop:=w.grownBy w' (some bp)
theorem Keep.refl (bp:Nat) (w:World):Keep bp w w:=⟨rfl,rfl,rfl,znL _,fun _ _ _=>rfl⟩
theorem Keep.trans {bp:Nat} {a b c:World} (h:Keep bp a b) (k:Keep bp b c):Keep bp a c :=
 ⟨k.os.trans h.os,k.tape.trans h.tape,k.output.trans h.output,Nat.le_trans h.size k.size,fun i hi hr=>(k.block i (Nat.lt_of_lt_of_le hi h.size) hr).trans (h.block i hi hr)⟩
theorem Keep.of_none {bp:Nat} {w w':World} (h:w.grownBy w' none):Keep bp w w':=⟨h.os,h.tape,h.output,h.size,fun i hi _=>h.block i hi (by simp)⟩
theorem Keep.drew {bp:Nat} {a w:World} (h:Keep bp a w):Keep bp a w.drew:=⟨h.os,h.tape,h.output,h.size,h.block⟩
theorem Keep.alloc {bp:Nat} {a w:World} (h:Keep bp a w) (o:Obj):Keep bp a (w.alloc o) :=
 h.trans ⟨rfl,rfl,rfl,by simp,fun k hk _=>Below.heap_alloc w o k hk⟩
theorem Keep.set {bp:Nat} {a w:World} (h:Keep bp a w) (j:Nat) (v:Value):Keep bp a (w.setCell ⟨bp,j,none⟩ v) :=
 h.trans ⟨rfl,rfl,rfl,by simp,fun k _ hr=>heap_setCell_other w ⟨bp,j,none⟩ k v (fun e=>hr (by simp [e]))⟩
theorem Keep.setNew {bp:Nat} {a w:World} (h:Keep bp a w) (b j:Nat) (v:Value) (hb:a.heap.size<=b):Keep bp a (w.setCell ⟨b,j,none⟩ v) :=
 ⟨h.os,h.tape,h.output,by simpa using h.size,fun k hk hr=>by rw [heap_setCell_other w ⟨b,j,none⟩ k v (by simp; omega)]; exact h.block k hk hr⟩
section
variable {w w' : World} {bp gt cap : Nat} {cur : Array Value} {s : ByteArray} {ts : List Tw.Tok} {st : Tw.PS}
theorem PCtx.zeo (h:PCtx w bp gt cap cur s ts st):bp<w.heap.size:=(zgE.1 h.parser).1
theorem PCtx.zff (h:PCtx w bp gt cap cur s ts st):gt<w.heap.size:=(zgE.1 h.row).1
theorem PCtx.kept (h:PCtx w bp gt cap cur s ts st) (g:w.grownBy w' none):PCtx w' bp gt cap cur s ts st :=
 {h with parser:=by rw [g.block bp h.zeo (by simp)]; exact h.parser,row:=by rw [g.block gt h.zff (by simp)]; exact h.row}
theorem PCtx.fz (h:PCtx w bp gt cap cur s ts st) (j:Nat):w.frozen? ⟨bp,j,none⟩=false:=frozen_of_row w bp j _ _ h.parser
theorem PCtx.drew (h:PCtx w bp gt cap cur s ts st):PCtx w.drew bp gt cap cur s ts st := {h with}
theorem PCtx.alloc (h:PCtx w bp gt cap cur s ts st) (o:Obj):PCtx (w.alloc o) bp gt cap cur s ts st:=h.kept (zwA w o none)
theorem PCtx.setNext (h:PCtx w bp gt cap cur s ts st) (n:Nat) (hn:n<=301):PCtx (w.setCell ⟨bp,2,none⟩ (.int .i64 n)) bp gt cap cur s ts {st with next:=n} :=
 {h with parser:=by rw [heap_setCell_same w bp 2 _ _ _ h.parser]; rfl,nxt:=hn,row:=by rw [heap_setCell_other _ _ _ _ (by simpa using h.ne)]; exact h.row}
theorem PCtx.setDepth (h:PCtx w bp gt cap cur s ts st) (n:Nat) (hn:n<=301):PCtx (w.setCell ⟨bp,3,none⟩ (.int .i64 n)) bp gt cap cur s ts {st with depth:=n} :=
 {h with parser:=by rw [heap_setCell_same w bp 3 _ _ _ h.parser]; rfl,dep:=hn,row:=by rw [heap_setCell_other _ _ _ _ (by simpa using h.ne)]; exact h.row}
theorem PCtx.setStuck (h:PCtx w bp gt cap cur s ts st) (b:Bool):PCtx (w.setCell ⟨bp,4,none⟩ (.bool b)) bp gt cap cur s ts {st with stuck:=b} :=
 {h with parser:=by rw [heap_setCell_same w bp 4 _ _ _ h.parser]; rfl,row:=by rw [heap_setCell_other _ _ _ _ (by simpa using h.ne)]; exact h.row}
theorem PCtx.setFault (h:PCtx w bp gt cap cur s ts st) (n:Nat):PCtx (w.setCell ⟨bp,5,none⟩ (.int .i64 n)) bp gt cap cur s ts {st with fault:=n} :=
 {h with parser:=by rw [heap_setCell_same w bp 5 _ _ _ h.parser]; rfl,row:=by rw [heap_setCell_other _ _ _ _ (by simpa using h.ne)]; exact h.row}
theorem zf7 (a b c:Int) (w:World):Sem.run Tryz.prog (Instr.field 176 (.agg #[.int .i64 a,.int .i64 b,.int .i64 c]) 0) w = .ok (.int .i64 a) w:=by kernel_rfl
theorem zsp (a b c:Int) (w:World):Sem.run Tryz.prog (Instr.field 176 (.agg #[.int .i64 a,.int .i64 b,.int .i64 c]) 1) w = .ok (.int .i64 b) w:=by kernel_rfl
theorem zsq (a b c:Int) (w:World):Sem.run Tryz.prog (Instr.field 176 (.agg #[.int .i64 a,.int .i64 b,.int .i64 c]) 2) w = .ok (.int .i64 c) w:=by kernel_rfl
theorem zpx (h:PCtx w bp gt cap cur s ts st) {st':Tw.PS} (hf:Tw.zh6 ts st=some st') :
    Calls Tryz.prog 160 #[.pointer (some ⟨bp,0,none⟩)] w fun e w'=>e = .returned (.tuple #[])/\Keep bp w w'/\PCtx w' bp gt cap cur s ts st':=by
  obtain ⟨p0,p1,p2,p3,p4,p5⟩:=h.p
  unfold Tw.zh6 at hf
  cases hs:st.stuck
  · rw [hs] at hf p4
    simp only [Bool.false_eq_true,if_false] at hf
    obtain ⟨t,ht,hst⟩:=zbE.1 hf
    simp only [zsI] at hst
    subst hst
    clear hf p0 p1 p2 p3 p5
    have HH:Hid (PCtx w bp gt cap cur s ts st):=h
    have HT:Hid (Tw.tokS ts st=some t):=ht
    clear h ht hs
    have fd:=zsp
    go_enter Tryz.func160,Tryz.ntmps160
    go_wp2_with (go_at_call 155; refine (zbo HH.out HT.out).mono ?_; rintro e w1 ⟨rfl,hg⟩
                 have h1:Hid (PCtx w1 bp gt cap cur s ts st):=HH.out.kept hg
                 have hk1:Hid (Keep bp w w1):=Keep.of_none hg
                 clear hg
                 have c5:=h1.out.p.2.2.2.2.2
                 have f5:=h1.out.fz 5
                 have c4:=h1.out.p.2.2.2.2.1
                 have f4:=h1.out.fz 4)
    go_end0
    exact ⟨rfl,(hk1.out.set 5 _).set 4 _,(h1.out.setFault _).setStuck _⟩
  · rw [hs] at hf p4
    simp at hf
    subst hf
    go_enter Tryz.func160,Tryz.ntmps160
    go_wp2_with fail
    go_end0
    exact ⟨rfl,Keep.refl _ _,h⟩
end
open Go.RowKit
section
variable {w w' : World} {bp gt cap : Nat} {cur : Array Value} {s : ByteArray} {ts : List Tw.Tok} {st : Tw.PS}
theorem zaf {w:World} {b:Nat} {x y z:Value} {t:TypeId} (h:w.heap[b]? = some (.cells #[x,y,z] t (0,0))) :
  w.cell? ⟨b,0,none⟩=some x/\w.cell? ⟨b,1,none⟩=some y/\w.cell? ⟨b,2,none⟩=some z/\w.frozen? ⟨b,0,none⟩=false/\w.frozen? ⟨b,1,none⟩=false/\w.frozen? ⟨b,2,none⟩=false:=by
 refine ⟨?_,?_,?_,frozen_of_row _ _ _ _ _ h,frozen_of_row _ _ _ _ _ h,frozen_of_row _ _ _ _ _ h⟩ <;> (rw [cell_of_row w b _ _ _ _ h]; rfl)
theorem zad (w:World) (o:Obj):(w.alloc o).heap[w.heap.size]? = some o:=heap_alloc_new w o
theorem Keep.at {bp:Nat} {w w':World} (h:Keep bp w w') {b:Nat} {o:Obj} (hb:w.heap[b]? = some o) (hne:b≠bp):w'.heap[b]? = some o:=by
 rw [h.block b (zgE.1 hb).1 (by simpa using hne)]; exact hb
theorem zin {w:World} {b:Nat} {o:Obj} (hb:w.heap[b]? = some o) (o':Obj):(w.alloc o').heap[b]? = some o:=by
 rw [Below.heap_alloc w o' b (zgE.1 hb).1]; exact hb
theorem PCtx.setOther (h:PCtx w bp gt cap cur s ts st) (b j:Nat) (v:Value) (h1:b≠bp) (h2:b≠gt):PCtx (w.setCell ⟨b,j,none⟩ v) bp gt cap cur s ts st :=
 {h with parser:=by rw [heap_setCell_other _ _ _ _ (by simpa using h1.symm)]; exact h.parser,row:=by rw [heap_setCell_other _ _ _ _ (by simpa using h2.symm)]; exact h.row}
theorem zb4 (h:PCtx w bp gt cap cur s ts st) (sort:Int) {t:Tw.Tok} {st':Tw.PS} (hf:Tw.zbe ts sort st=some (t,st')) :
    Calls Tryz.prog 82 #[.pointer (some ⟨bp,0,none⟩),.int .i64 sort] w fun e w'=>e = .returned (.agg #[.int .i64 t.sort,.int .i64 t.fr,.int .i64 t.to])/\Keep bp w w'/\PCtx w' bp gt cap cur s ts st':=by
  unfold Tw.zbe at hf
  obtain ⟨t1,ht,hst⟩:=zbE.1 hf
  clear hf
  have HH:Hid (PCtx w bp gt cap cur s ts st):=h
  have HT:Hid (Tw.tokS ts st=some t1):=ht
  have hbp:=h.zeo
  have hgt:=h.zff
  clear h ht
  have fd:=zf7
  by_cases he:t1.sort=sort
  · rw [if_pos he] at hst
    have hb:(t1.sort != sort)=false:=by simp [he]
    have HE:Hid (t1.sort=sort):=he
    clear he
    by_cases hz:sort=0
    · rw [if_pos hz] at hst
      simp only [zsI,zpI] at hst
      obtain ⟨rfl,rfl⟩:=hst
      have hb2:(sort != 0)=false:=by simp [hz]
      clear hz
      go_enter Tryz.func82,Tryz.ntmps82
      go_wp2_with (first
        | (go_at_call 155; refine (zbo (HH.out.alloc _) HT.out).mono ?_; rintro e w1 ⟨rfl,hg⟩
           have h1:Hid (PCtx w1 bp gt cap cur s ts st):=(HH.out.alloc _).kept hg
           have hk1:Hid (Keep bp w w1):=((Keep.refl bp w).alloc _).trans (Keep.of_none hg)
           have hs1:w.heap.size<w1.heap.size:=by have:=hg.size; simp at this; omega
           have l4:Hid (w1.heap[w.heap.size]? = some (.cells #[.int .i64 0,.int .i64 0,.int .i64 0] 176 (0,0))):=(hg.block _ (by simp) (by simp)).trans (zad w _)
           obtain ⟨a40,a41,a42,f40,f41,f42⟩:=zaf l4.out
           obtain ⟨p0,p1,p2,p3,p4,p5⟩:=h1.out.p
           have f2:=h1.out.fz 2
           have hbp1:bp<w1.heap.size:=by omega
           clear hg p0 p1 p3 p4 p5))
      refine bodyPost_ret (v:=.agg #[.int .i64 t1.sort,.int .i64 t1.fr,.int .i64 t1.to]) (by simp [results,Tryz.results82,go_sem,a40,a41,a42,hs1]) rfl ⟨rfl,?_,?_⟩
      · go_light
        exact (((hk1.out.setNew _ _ _ (znL _)).setNew _ _ _ (znL _)).setNew _ _ _ (znL _)).alloc _
      · go_light
        exact (((h1.out.setOther _ _ _ (by omega) (by omega)).setOther _ _ _ (by omega) (by omega)).setOther _ _ _ (by omega) (by omega)).alloc _
    · rw [if_neg hz] at hst
      split at hst
      rotate_left
      · cases hst
      rename_i hnx
      simp only [zsI,zpI] at hst
      obtain ⟨rfl,rfl⟩:=hst
      have hb2:(sort != 0)=true:=by simp [hz]
      clear hz
      go_enter Tryz.func82,Tryz.ntmps82
      go_wp2_with (first
        | (go_at_call 155; refine (zbo (HH.out.alloc _) HT.out).mono ?_; rintro e w1 ⟨rfl,hg⟩
           have h1:Hid (PCtx w1 bp gt cap cur s ts st):=(HH.out.alloc _).kept hg
           have hk1:Hid (Keep bp w w1):=((Keep.refl bp w).alloc _).trans (Keep.of_none hg)
           have hs1:w.heap.size<w1.heap.size:=by have:=hg.size; simp at this; omega
           have l4:Hid (w1.heap[w.heap.size]? = some (.cells #[.int .i64 0,.int .i64 0,.int .i64 0] 176 (0,0))):=(hg.block _ (by simp) (by simp)).trans (zad w _)
           obtain ⟨a40,a41,a42,f40,f41,f42⟩:=zaf l4.out
           obtain ⟨p0,p1,p2,p3,p4,p5⟩:=h1.out.p
           have f2:=h1.out.fz 2
           have hbp1:bp<w1.heap.size:=by omega
           clear hg p0 p1 p3 p4 p5))
      refine bodyPost_ret (v:=.agg #[.int .i64 t1.sort,.int .i64 t1.fr,.int .i64 t1.to]) (by simp [results,Tryz.results82,go_sem,a40,a41,a42,hs1]) rfl ⟨rfl,?_,?_⟩
      · go_light
        exact ((((hk1.out.set 2 _).setNew _ _ _ (znL _)).setNew _ _ _ (znL _)).setNew _ _ _ (znL _)).alloc _
      · go_light
        exact ((((h1.out.setNext (st.next+1) (by omega)).setOther _ _ _ (by omega) (by omega)).setOther _ _ _ (by omega) (by omega)).setOther _ _ _ (by omega) (by omega)).alloc _
  · rw [if_neg he] at hst
    obtain ⟨st1,hf1,hst2⟩:=zbE.1 hst
    clear hst
    simp only [zsI,zpI] at hst2
    obtain ⟨rfl,rfl⟩:=hst2
    have HF:Hid (Tw.zh6 ts st=some st1):=hf1
    have hb:(t1.sort != sort)=true:=by simp [he]
    clear hf1 he
    go_enter Tryz.func82,Tryz.ntmps82
    go_wp2_with (first
      | (go_at_call 155; refine (zbo (HH.out.alloc _) HT.out).mono ?_; rintro e w1 ⟨rfl,hg⟩
         have h1:Hid (PCtx w1 bp gt cap cur s ts st):=(HH.out.alloc _).kept hg
         have hk1:Hid (Keep bp w w1):=((Keep.refl bp w).alloc _).trans (Keep.of_none hg)
         have hs1:w.heap.size<w1.heap.size:=by have:=hg.size; simp at this; omega
         have l4:Hid (w1.heap[w.heap.size]? = some (.cells #[.int .i64 0,.int .i64 0,.int .i64 0] 176 (0,0))):=(hg.block _ (by simp) (by simp)).trans (zad w _)
         obtain ⟨a40,a41,a42,f40,f41,f42⟩:=zaf l4.out
         obtain ⟨p0,p1,p2,p3,p4,p5⟩:=h1.out.p
         have f2:=h1.out.fz 2
         have hbp1:bp<w1.heap.size:=by omega
         clear hg p0 p1 p3 p4 p5)
      | (go_at_call 160; refine (zpx (h1.out.alloc _) HF.out).mono ?_; rintro e w2 ⟨rfl,hk2,h2⟩
         have h2':Hid (PCtx w2 bp gt cap cur s ts st1):=h2
         have hk2':Hid (Keep bp w w2):=(hk1.out.alloc _).trans hk2
         have l42:=zaf (hk2.at (zin l4.out _) (by omega))
         have l52:=zaf (hk2.at (zad w1 _) (by omega))
         clear a40 a41 a42 f40 f41 f42
         obtain ⟨a40,a41,a42,f40,f41,f42⟩:=l42
         obtain ⟨a50,a51,a52,f50,f51,f52⟩:=l52
         clear h2 hk2 l4))
    refine bodyPost_ret (v:=.agg #[.int .i64 t1.sort,.int .i64 t1.fr,.int .i64 t1.to]) (by simp [results,Tryz.results82,go_sem,a40,a41,a42]) rfl ⟨rfl,?_,?_⟩
    · go_light
      exact ((hk2'.out.setNew _ _ _ (znL _)).setNew _ _ _ (znL _)).setNew _ _ _ (znL _)
    · go_light
      exact ((h2'.out.setOther _ _ _ (by omega) (by omega)).setOther _ _ _ (by omega) (by omega)).setOther _ _ _ (by omega) (by omega)
end
end Go.Proofs.YtckhafpejefbbaaGreatDoor
