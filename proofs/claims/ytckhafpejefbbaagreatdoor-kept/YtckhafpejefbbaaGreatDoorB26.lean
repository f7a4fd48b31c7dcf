/- Texts of the proof, put together: AltRen3. -/
import Derived.Test.YtckhafpejefbbaaGreatDoorB25

set_option maxRecDepth 100000
set_option maxHeartbeats 4000000
namespace Go.Proofs.YtckhafpejefbbaaGreatDoor
open Go.RowKit
theorem zpt (t:Tw.T):t.bat=t.bpl:=by cases t <;> rfl
theorem Tw.za2 {n:Tw.T}:∀ {t:Tw.T},n∈t.binds->n.places.Sublist t.places/\∀s∈n.spans,s∈t.spans
 | .name ..,h | .int ..,h | .truth ..,h | .side ..,h=>by cases h
 | .bracket _ _ i,h=>za2 (t:=i) h
 | .pair _ _ a b,h=>by
  rcases zmA.1 h with h | h
  ·exact ⟨(za2 h).1.trans (List.sublist_append_left _ _),fun s hs=>List.mem_append_left _ ((za2 h).2 s hs)⟩
  ·exact ⟨(za2 h).1.trans (List.sublist_append_right _ _),fun s hs=>List.mem_append_right _ ((za2 h).2 s hs)⟩
 | .call _ _ a b,h=>by
  rcases zmA.1 h with h | h
  ·exact ⟨(za2 h).1.trans (List.sublist_append_left _ _),fun s hs=>List.mem_append_left _ ((za2 h).2 s hs)⟩
  ·exact ⟨(za2 h).1.trans (List.sublist_append_right _ _),fun s hs=>List.mem_append_right _ ((za2 h).2 s hs)⟩
 | .binary _ _ _ a b,h=>by
  rcases zmA.1 h with h | h
  ·exact ⟨(za2 h).1.trans (List.sublist_append_left _ _),fun s hs=>List.mem_append_left _ ((za2 h).2 s hs)⟩
  ·exact ⟨(za2 h).1.trans (List.sublist_append_right _ _),fun s hs=>List.mem_append_right _ ((za2 h).2 s hs)⟩
 | .cond _ _ a b c,h=>by
  rcases zmA.1 h with h | h
  ·exact ⟨(za2 h).1.trans (List.sublist_append_left _ _),fun s hs=>List.mem_append_left _ ((za2 h).2 s hs)⟩
  ·rcases zmA.1 h with h | h
   ·exact ⟨(za2 h).1.trans ((List.sublist_append_left _ _).trans (List.sublist_append_right _ _)),fun s hs=>List.mem_append_right _ (List.mem_append_left _ ((za2 h).2 s hs))⟩
   ·exact ⟨(za2 h).1.trans ((List.sublist_append_right _ _).trans (List.sublist_append_right _ _)),fun s hs=>List.mem_append_right _ (List.mem_append_right _ ((za2 h).2 s hs))⟩
 | .fn _ _ _ _ a,h=>by
  rcases zmC.1 h with rfl | h
  ·exact ⟨List.Sublist.refl _,fun s hs=>hs⟩
  ·exact ⟨(za2 h).1.trans (List.sublist_cons_self _ _),fun s hs=>List.mem_cons_of_mem _ ((za2 h).2 s hs)⟩
 | .lett _ _ _ _ _ a b,h=>by
  rcases zmC.1 h with rfl | h
  ·exact ⟨List.Sublist.refl _,fun s hs=>hs⟩
  ·rcases zmA.1 h with h | h
   ·exact ⟨(za2 h).1.trans ((List.sublist_append_left _ _).trans (List.sublist_cons_self _ _)),fun s hs=>List.mem_cons_of_mem _ (List.mem_append_left _ ((za2 h).2 s hs))⟩
   ·exact ⟨(za2 h).1.trans ((List.sublist_append_right _ _).trans (List.sublist_cons_self _ _)),fun s hs=>List.mem_cons_of_mem _ (List.mem_append_right _ ((za2 h).2 s hs))⟩
theorem Tw.zda:∀t:Tw.T,(t.binds.map Tw.T.bpl).Sublist t.places
 | .name .. => List.nil_sublist _
 | .int .. | .truth .. | .side .. => List.Sublist.refl _
 | .bracket _ _ i=>zda i
 | .pair _ _ a b=>by simp only [T.binds,List.map_append]; exact (zda a).append (zda b)
 | .call _ _ a b=>by simp only [T.binds,List.map_append]; exact (zda a).append (zda b)
 | .binary _ _ _ a b=>by simp only [T.binds,List.map_append]; exact (zda a).append (zda b)
 | .cond _ _ a b c=>by simp only [T.binds,List.map_append]; exact (zda a).append ((zda b).append (zda c))
 | .fn _ _ _ _ a=>(zda a).cons_cons _
 | .lett _ _ _ _ _ a b=>by simp only [T.binds,List.map_cons,List.map_append]; exact ((zda a).append (zda b)).cons_cons _
theorem ze6 (x:TN) (L:List TN):zdr (x::L)=if x.bind.isSome then x::zdr L else zdr L:=by
 simp only [zdr,List.filter_cons]
theorem NDL.binds {w:World} {hi:Nat}:∀ {t:Tw.T} {v:Value} {L:List TN},NDL w hi t v L->(zdr L).map (·.t)=t.binds
 | .name ..,_,_,⟨_,e⟩=>by subst e; rfl
 | .int ..,_,_,⟨_,e⟩=>by subst e; rfl
 | .truth ..,_,_,⟨_,e⟩=>by subst e; rfl
 | .side ..,_,_,⟨_,e⟩=>by subst e; rfl
 | .bracket ..,_,_,⟨_,_,_,n1,e⟩=>by
  subst e
  rw [ze6,if_neg (by simp [TN.bind]),NDL.binds n1]
  rfl
 | .pair ..,_,_,⟨_,_,_,_,_,n1,n2,e⟩=>by
  subst e
  rw [ze6,if_neg (by simp [TN.bind]),zd0,List.map_append,NDL.binds n1,NDL.binds n2]
  rfl
 | .call ..,_,_,⟨_,_,_,_,_,n1,n2,e⟩=>by
  subst e
  rw [ze6,if_neg (by simp [TN.bind]),zd0,List.map_append,NDL.binds n1,NDL.binds n2]
  rfl
 | .binary ..,_,_,⟨_,_,_,_,_,n1,n2,e⟩=>by
  subst e
  rw [ze6,if_neg (by simp [TN.bind]),zd0,List.map_append,NDL.binds n1,NDL.binds n2]
  rfl
 | .cond ..,_,_,⟨_,_,_,_,_,_,_,n1,n2,n3,e⟩=>by
  subst e
  rw [ze6,if_neg (by simp [TN.bind]),zd0,zd0,List.map_append,List.map_append,NDL.binds n1,NDL.binds n2,NDL.binds n3]
  rfl
 | .fn ..,_,_,⟨_,_,⟨b,_,_,hv,_⟩,n1,e⟩=>by
  subst e
  subst hv
  rw [ze6,if_pos (by simp [TN.bind]),List.map_cons,NDL.binds n1]
  rfl
 | .lett ..,_,_,⟨_,_,_,_,⟨b,_,_,hv,_⟩,n1,n2,e⟩=>by
  subst e
  subst hv
  rw [ze6,if_pos (by simp [TN.bind]),zd0,List.map_cons,List.map_append,NDL.binds n1,NDL.binds n2]
  rfl
theorem NL.len {w:World} {hi:Nat}:∀ {t:Tw.T} {v:Value} {e:Tw.BEn} {L:List NB},NL w hi t v e L->L.length<=t.places.length
 | .name ..,_,_,_,⟨_,_,rfl⟩=>by simp [Tw.T.places]
 | .int ..,_,_,_,⟨_,rfl⟩=>znL _
 | .truth ..,_,_,_,⟨_,rfl⟩=>znL _
 | .side ..,_,_,_,⟨_,rfl⟩=>znL _
 | .bracket _ _ i,_,_,_,⟨_,_,r1⟩=>NL.len (t:=i) r1
 | .pair ..,_,_,_,⟨_,_,_,_,_,r1,r2,rfl⟩=>by have:=NL.len r1; have:=NL.len r2; simp [Tw.T.places]; omega
 | .call ..,_,_,_,⟨_,_,_,_,_,r1,r2,rfl⟩=>by have:=NL.len r1; have:=NL.len r2; simp [Tw.T.places]; omega
 | .binary ..,_,_,_,⟨_,_,_,_,_,r1,r2,rfl⟩=>by have:=NL.len r1; have:=NL.len r2; simp [Tw.T.places]; omega
 | .cond ..,_,_,_,⟨_,_,_,_,_,_,_,r1,r2,r3,rfl⟩=>by have:=NL.len r1; have:=NL.len r2; have:=NL.len r3; simp [Tw.T.places]; omega
 | .fn ..,_,_,_,⟨_,_,_,r1⟩=>by have:=NL.len r1; simp [Tw.T.places]; omega
 | .lett ..,_,_,_,⟨_,_,_,_,_,_,r1,r2,rfl⟩=>by have:=NL.len r1; have:=NL.len r2; simp [Tw.T.places]; omega
theorem zy7 {N:Nat}:∀ {L:List Nat} {d:Nat},L.Pairwise (· < ·)->(∀f∈L,d<=f/\f<N)->d<=N->L.length+d<=N
 | [],d,_,_,h=>by simpa using h
 | f::L,d,hp,hb,_=>by
  obtain ⟨h1,h2⟩:=hb f (by simp)
  have hp':=List.pairwise_cons.1 hp
  have:=zy7 (d:=f+1) hp'.2 (fun g hg=>⟨hp'.1 g hg,(hb g (by simp [hg])).2⟩) h2
  simp only [List.length_cons]
  omega
structure Opened (l:List UInt8) (t:Tw.T) (body:List Tw.Tok):Prop where
 lex:Tw.Lex 0 l body
 text:Tw.Text l body t
 len:l.length<=300
theorem Opened.nd {l:List UInt8} {t:Tw.T} {body:List Tw.Tok} (h:Opened l t body):t.places.Nodup:=h.text.inc.imp (fun h=>Nat.ne_of_lt h)
theorem Opened.sp {l:List UInt8} {t:Tw.T} {body:List Tw.Tok} (h:Opened l t body):SpOk t:=fun s hs=>(h.text.ok h.lex s hs).1
theorem Opened.small {l:List UInt8} {t:Tw.T} {body:List Tw.Tok} (h:Opened l t body):t.places.length<=300:=by
 have:=zy7 (N:=l.length) (d:=0) h.text.inc (fun f hf=>by
  rw [Tw.zbi] at hf
  obtain ⟨s,hs,rfl⟩:=List.mem_map.1 hf
  obtain ⟨k,hk,_,k1,k2,_⟩:=h.text.span s hs
  have:=((h.lex.toks).1 k hk).lt
  have:=((h.lex.toks).1 k hk).high
  omega) (by omega)
 have:=h.len
 omega
theorem Opened.bind {l:List UInt8} {t:Tw.T} {body:List Tw.Tok} (h:Opened l t body) {n:Tw.T} (hn:n∈t.binds):(n.bpl,n.bpl+n.bname.length,n.bname)∈t.spans/\n.bpl+n.bname.length<=300:=by
 have HP:=Tw.zb2 (Tw.zbj t h.nd n hn)
 obtain ⟨to,hs⟩:=HP.span n.bpl (by simp)
 obtain ⟨a,b⟩:=h.text.ok h.lex _ hs
 simp only at a b
 have:=h.len
 exact ⟨by rw [<-a]; exact hs,by omega⟩
theorem zx6 {x:TN} {w:World} {hi:Nat} (hr:Rep w 0 hi x.t x.v) {a:Int} (h:x.t.holds a=true):x.bind.isSome=true/\(x.t.bpl:Int)<=a/\a<(x.t.bpl:Int)+x.t.bname.length:=by
 obtain ⟨t,v⟩:=x
 cases t with
 | fn fr to n k b =>
  obtain ⟨v1,⟨b,_,_,rfl,_⟩,_⟩:=hr
  simp only [Tw.T.holds,Bool.and_eq_true,decide_eq_true_eq] at h
  exact ⟨by simp [TN.bind],h.1,h.2⟩
 | lett fr to rc n k d b =>
  obtain ⟨v1,v2,⟨b,_,_,rfl,_⟩,_⟩:=hr
  simp only [Tw.T.holds,Bool.and_eq_true,decide_eq_true_eq] at h
  exact ⟨by simp [TN.bind],h.1,h.2⟩
 | _=>simp [Tw.T.holds] at h
theorem zvj {x:TN} (h:x.bind.isSome=true) {a:Int} (h1:(x.t.bpl:Int)<=a) (h2:a<(x.t.bpl:Int)+x.t.bname.length):x.t.holds a=true:=by
 obtain ⟨t,v⟩:=x
 cases t with
 | fn fr to n k b=>simp only [Tw.T.holds,Bool.and_eq_true,decide_eq_true_eq]; exact ⟨h1,h2⟩
 | lett fr to rc n k d b=>simp only [Tw.T.holds,Bool.and_eq_true,decide_eq_true_eq]; exact ⟨h1,h2⟩
 | _=>simp [TN.bind] at h
theorem zji {α : Type} {f : α -> Nat}:∀ {L:List α},(L.map f).Nodup->∀ {x y : α},x∈L->y∈L->f x=f y->x=y
 | [],_,_,_,h,_,_=>by cases h
 | a::L,hn,x,y,hx,hy,e=>by
  have hn':=List.nodup_cons.1 hn
  rcases zmC.1 hx with rfl | hx'
  ·rcases zmC.1 hy with rfl | hy'
   ·rfl
   ·exact absurd (List.mem_map.2 ⟨y,hy',e.symm⟩) hn'.1
  ·rcases zmC.1 hy with rfl | hy'
   ·exact absurd (List.mem_map.2 ⟨x,hx',e⟩) hn'.1
   ·exact zji hn'.2 hx' hy' e
theorem zpu {l:List UInt8} {t:Tw.T} {body:List Tw.Tok} (h:Opened l t body) {w:World} {hi:Nat} {v:Value} {L:List TN} (hn:NDL w hi t v L) {x:TN} (hx:x∈zdr L) {a:Int} (h1:(x.t.bpl:Int)<=a) (h2:a<(x.t.bpl:Int)+x.t.bname.length):hitL a L=some x:=by
 obtain ⟨hxL,hxb⟩:=List.mem_filter.1 hx
 have hxh:=zvj hxb h1 h2
 have hb:=hn.binds
 cases hz:hitL a L with
 | none =>
  have:=List.find?_eq_none.1 hz x hxL
  exact absurd hxh this
 | some z =>
  have hzL:=List.mem_of_find?_eq_some hz
  have hzh:z.t.holds a=true:=List.find?_some (p:=fun x:TN=>x.t.holds a) hz
  obtain ⟨hzb,z1,z2⟩:=zx6 (hn.rep.2 z hzL) hzh
  have hzB:z∈zdr L:=List.mem_filter.2 ⟨hzL,hzb⟩
  have mx:x.t∈t.binds:=by rw [<-hb]; exact List.mem_map_of_mem hx
  have mz:z.t∈t.binds:=by rw [<-hb]; exact List.mem_map_of_mem hzB
  obtain ⟨kx,hkx,_,x3,x4,_⟩:=h.text.span _ (h.bind mx).1
  obtain ⟨kz,hkz,_,z3,z4,_⟩:=h.text.span _ (h.bind mz).1
  simp only at x3 x4 z3 z4
  have e:z.t.bpl=x.t.bpl:=by
   rcases Tw.zf4 h.lex hkx hkz with q | q | q
   ·omega
   ·omega
   ·subst q; omega
  have hnd:((zdr L).map (fun x=>x.t.bpl)).Nodup:=by
   have:(zdr L).map (fun x=>x.t.bpl)=t.binds.map Tw.T.bpl:=by rw [<-hb,List.map_map]; rfl
   rw [this]
   exact h.nd.sublist (Tw.zda t)
  rw [zji hnd hzB hx e]
theorem zvk {N dx:Nat} {y:List UInt8}:∀ {S:List Nat} {d:Nat},S.Pairwise (fun f g=>f+dx<=g)->(∀f∈S,d<=f/\f+dx<=N)->d<=N->ChOk N d (Tw.chs dx y S)
 | [],d,_,_,h=>h
 | f::S,d,hp,hb,_=>by
  have hp':=List.pairwise_cons.1 hp
  obtain ⟨h1,h2⟩:=hb f (by simp)
  exact ⟨h1,Nat.le_add_right _ _,by omega,zvk (d:=f+dx) hp'.2 (fun g hg=>⟨hp'.1 g hg,(hb g (by simp [hg])).2⟩) h2⟩
theorem zvl (hB:Said.Builder) {w:World} {hi:Nat} {tv:Value} {s name:ByteArray} {t:Tw.T} {body:List Tw.Tok} (hrep:Rep w 0 hi t tv) (ho:Opened s.data.toList t body) {n:Tw.T} (hn:n∈t.binds) {a:Int} (h1:(n.bpl:Int)<=a) (h2:a<(n.bpl:Int)+n.bname.length) (Y:Tw.Nm name.data.toList) (hc:¬(name.data.toList≠n.bname/\n.captN name.data.toList)) :
  Calls Tryz.prog 39 #[.string s,tv,.int .i64 a,.string name] w fun e w'=>e = .returned (.tuple #[.string ⟨(Tw.chgR 0 s.data.toList (Tw.chs n.bname.length name.data.toList (n.bpl::n.useS))).toArray⟩,.int .i64 0])/\w.grownBy w' none:=by
 obtain ⟨LN,hN⟩:=NDL.of_rep hrep
 have hb:=hN.binds
 rw [<-hb] at hn
 obtain ⟨x,hx,rfl⟩:=List.mem_map.1 hn
 rw [hb] at hn
 have hit:=zpu ho hN hx h1 h2
 have hxb:=(List.mem_filter.1 hx).2
 have hxL:=(List.mem_filter.1 hx).1
 have hxr:=hN.rep.2 x hxL
 obtain ⟨A,hA⟩:=Option.isSome_iff_exists.1 hxb
 obtain ⟨LB,hLB⟩:=NL.of_rep .nil hxr
 have hsub:=Tw.za2 hn
 have hnd:x.t.places.Nodup:=ho.nd.sublist hsub.1
 have hsp:SpOk x.t:=fun s hs=>ho.sp s (hsub.2 s hs)
 obtain ⟨M,hM⟩:=NDL.of_rep hxr
 have hxM:(⟨x.t,x.v⟩:TN)∈M:=by
  obtain ⟨t,v⟩:=x
  cases t with
  | fn=>obtain ⟨_,_,_,_,rfl⟩:=hM; exact List.mem_cons_self
  | lett=>obtain ⟨_,_,_,_,_,_,_,rfl⟩:=hM; exact List.mem_cons_self
  | _=>simp [TN.bind] at hA
 have hu:=zdg w hi x.t hLB hM hsp hnd hxM hA (fun z=>by simp [Tw.BEn.look])
 have hR:=Tw.zkt ho.text ho.lex (Tw.zbj t ho.nd x.t hn)
 have hbn:=(ho.bind hn).2
 have hSp:(x.t.bpl::x.t.useS).Pairwise (fun f g=>f+x.t.bname.length<=g):=by
  refine List.Pairwise.imp_of_mem (fun {f g} hf hg hfg => ?_) hR.1
  obtain ⟨a,ha,rfl,_,a2⟩:=hR.2 f hf
  obtain ⟨b,hb,rfl,_,b2⟩:=hR.2 g hg
  have:=((ho.lex.toks).1 a ha).lt
  have:=((ho.lex.toks).1 b hb).lt
  rcases Tw.zf4 ho.lex ha hb with h | h | h
  ·omega
  ·omega
  ·subst h; omega
 have hsz:s.data.toList.length=s.size:=Array.length_toList
 have hren:zhv x name.data.toList (zbq A LB)=Tw.chs x.t.bname.length name.data.toList (x.t.bpl::x.t.useS):=by
  have e:(zbq A LB).map (fun b=>(b.fr,b.to,name.data.toList))=((zbq A LB).map useF).map fun q=>(q.1,q.2,name.data.toList):=by rw [List.map_map]; rfl
  simp only [zhv,Tw.chs,List.map_cons]
  rw [e,hu,List.map_map,zpt]
  rfl
 have hl:=ho.len
 rw [hsz] at hl
 have hnear:∀z∈LN,z.t.near:=fun z hz=>by
  cases hzb:z.bind with
  | none =>
   have hzr:=hN.rep.2 z hz
   obtain ⟨zt,zv⟩:=z
   cases zt with
   | fn=>obtain ⟨_,⟨b,_,_,rfl,_⟩,_⟩:=hzr; simp [TN.bind] at hzb
   | lett=>obtain ⟨_,_,⟨b,_,_,rfl,_⟩,_⟩:=hzr; simp [TN.bind] at hzb
   | _=>exact trivial
  | some B =>
   have hzm:z.t∈t.binds:=by rw [<-hb]; exact List.mem_map_of_mem (List.mem_filter.2 ⟨hz,by rw [hzb]; rfl⟩)
   have:=(ho.bind hzm).2
   obtain ⟨zt,zv⟩:=z
   cases zt with
   | fn=>simp only [Tw.T.bpl,Tw.T.bname,Tw.T.near] at this ⊢; omega
   | lett=>simp only [Tw.T.bpl,Tw.T.bname,Tw.T.near] at this ⊢; omega
   | _=>exact trivial
 have hnl:name.size<=300:=by
  have:=Y.len
  have e:name.data.toList.length=name.size:=Array.length_toList
  omega
 have key:=zvf hB hN hnear hit hA hnl Y.isNm hc hLB (Nat.le_trans hLB.len (Nat.le_trans hsub.1.length_le ho.small)) (by
  rw [hren]
  refine zvk hSp (fun f hf=>⟨Nat.zero_le _,?_⟩) (Nat.zero_le _)
  obtain ⟨k,hk,rfl,_,k2⟩:=hR.2 f hf
  have:=((ho.lex.toks).1 k hk).high
  omega) hl (by rw [zpt]; omega)
 rw [hren] at key
 exact key
end Go.Proofs.YtckhafpejefbbaaGreatDoor
