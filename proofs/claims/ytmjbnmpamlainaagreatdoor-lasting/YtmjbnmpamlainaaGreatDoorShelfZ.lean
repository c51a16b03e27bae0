/- The library contracts that the walks call, laid over this dump. -/
import Derived.Test.YtmjbnmpamlainaaGreatDoorA0
import Derived.Shelf.Strings.Builder1
import Derived.Shelf.Strings.Builder2
import Derived.Shelf.Strings.OnBuilder
import Derived.Shelf.Small.Bits
import Derived.Shelf.Small.Wraps
import Derived.Shelf.Utf8.RuneCount
import Derived.Shelf.Strconv.Itoa0
import Derived.Shelf.Strconv.Itoa1
import Derived.Shelf.LaysM
import Derived.Shelf.Strconv.Itoa2
import Derived.Shelf.Strconv.Itoa3
import Derived.Shelf.Strconv.Itoa4
import Derived.Shelf.Strconv.ParseIntEmpty
import Derived.Shelf.Strconv.Clone
import Derived.Shelf.Strconv.SyntaxError
import Derived.Shelf.LaysC
import Derived.Shelf.Strconv.ToError
import Derived.Shelf.Strconv.Lower
import Derived.Shelf.Strconv.ParseUint10
import Derived.Shelf.Strconv.ParseUint10Empty
import Derived.Shelf.Strconv.ParseUint10Any
import Derived.Shelf.Strconv.ParseInt10
import Derived.Shelf.Strconv.RangeError
import Derived.Shelf.Strconv.ToErrorRange
import Derived.Shelf.Strconv.ParseUintEmpty
import Derived.Shelf.Strconv.ParseUint10b64
import Derived.Shelf.Strconv.ParseUint10b32
import Derived.Shelf.Strconv.ParseUint10b16
import Derived.Shelf.Strconv.ParseUint10b8
import Derived.Shelf.Strconv.ParseUint10At
import Derived.Shelf.Strconv.ParseInt10At64
import Derived.Shelf.Strconv.ParseInt10At32
import Derived.Shelf.Strconv.ParseInt10At16
import Derived.Shelf.Strconv.ParseInt10At8
import Derived.Shelf.Strconv.ParseInt10All
import Derived.Shelf.Strconv.ParseIntPublic10
import Derived.Shelf.Strconv.ErrVarParseInt
import Derived.Shelf.Strings.Prefix
import Derived.Shelf.Unicode.Decode
import Derived.Shelf.Strings.RuneCount
import Derived.Shelf.Unicode.DecodeSlow
import Derived.Shelf.Unicode.DecodeAny
import Derived.Ground.Names2Prog
import Derived.Shelf.Slices.Clone
import Derived.Shelf.Slices.SearchI
import Derived.Ground.SlgnProg
import Derived.Shelf.SlicesE.Clone
import Derived.Test.YtmjbnmpamlainaaGreatDoorProg
import Derived.Shelf.Small.Strs
import Derived.Shelf.SlSortCmp.NoneTotal
import Derived.Shelf.SlLaysF0
import Derived.Shelf.SlGeneric
set_option linter.defProp false
set_option maxRecDepth 100000
namespace Go.Proofs
open _root_.Go.Proofs.Tryz
open Go.Shelf
def laysC174_ren:Go.Shelf.Ren:=⟨fun|174=>179|247=>195|245=>196|287=>204|279=>205|280=>206|281=>207|282=>208|321=>210|322=>211|316=>48|171=>213|205=>212|243=>215|246=>131|283=>162|284=>163|285=>164|286=>165|129=>143|317=>188|318=>189|319=>190|320=>191|337=>200|338=>201|n=>n,fun|9=>9|3=>3|2=>2|75=>292|85=>306|4=>4|167=>332|5=>5|53=>267|175=>333|46=>218|168=>335|37=>163|0=>0|210=>342|21=>21|127=>164|145=>346|143=>344|171=>283|173=>285|212=>319|51=>265|20=>20|213=>320|232=>338|233=>339|80=>295|n=>n,fun|15=>7|16=>8|17=>4|18=>5|19=>6|n=>n⟩
def laysC174:Go.Proofs.LaysC.n174 prog laysC174_ren:={
 mixed:=by kernel_rfl
 f129:=func143.trans (congrArg some (by kernel_rfl))
 f171:=func213.trans (congrArg some (by kernel_rfl))
 f174:=func179.trans (congrArg some (by kernel_rfl))
 f205:=func212.trans (congrArg some (by kernel_rfl))
 f243:=func215.trans (congrArg some (by kernel_rfl))
 f245:=func196.trans (congrArg some (by kernel_rfl))
 f246:=func131.trans (congrArg some (by kernel_rfl))
 f247:=func195.trans (congrArg some (by kernel_rfl))
 f279:=func205.trans (congrArg some (by kernel_rfl))
 f280:=func206.trans (congrArg some (by kernel_rfl))
 f281:=func207.trans (congrArg some (by kernel_rfl))
 f282:=func208.trans (congrArg some (by kernel_rfl))
 f283:=func162.trans (congrArg some (by kernel_rfl))
 f284:=func163.trans (congrArg some (by kernel_rfl))
 f285:=func164.trans (congrArg some (by kernel_rfl))
 f286:=func165.trans (congrArg some (by kernel_rfl))
 f287:=func204.trans (congrArg some (by kernel_rfl))
 f316:=func48.trans (congrArg some (by kernel_rfl))
 f317:=func188.trans (congrArg some (by kernel_rfl))
 f318:=func189.trans (congrArg some (by kernel_rfl))
 f319:=func190.trans (congrArg some (by kernel_rfl))
 f320:=func191.trans (congrArg some (by kernel_rfl))
 f321:=func210.trans (congrArg some (by kernel_rfl))
 f322:=func211.trans (congrArg some (by kernel_rfl))
 f337:=func200.trans (congrArg some (by kernel_rfl))
 f338:=func201.trans (congrArg some (by kernel_rfl))
 t0:=underlying0
 a0:=isAgg0
 z0:=sizeOf0
 v0:=zeroValue0
 t2:=underlying2
 a2:=isAgg2
 z2:=sizeOf2
 v2:=zeroValue2
 t3:=underlying3
 a3:=isAgg3
 z3:=sizeOf3
 v3:=zeroValue3
 t4:=underlying4
 a4:=isAgg4
 z4:=sizeOf4
 v4:=zeroValue4
 t5:=underlying5
 a5:=isAgg5
 z5:=sizeOf5
 v5:=zeroValue5
 t9:=underlying9
 a9:=isAgg9
 z9:=sizeOf9
 v9:=zeroValue9
 t20:=underlying20
 a20:=isAgg20
 z20:=sizeOf20
 v20:=zeroValue20
 t21:=underlying21
 a21:=isAgg21
 z21:=sizeOf21
 v21:=zeroValue21
 t37:=underlying163
 a37:=isAgg163
 z37:=sizeOf163
 v37:=zeroValue163
 t46:=underlying218
 a46:=isAgg218
 z46:=sizeOf218
 v46:=zeroValue218
 t51:=underlying265
 a51:=isAgg265
 z51:=sizeOf265
 v51:=zeroValue265
 t53:=underlying267
 a53:=isAgg267
 z53:=sizeOf267
 v53:=zeroValue267
 t75:=underlying292
 a75:=isAgg292
 z75:=sizeOf292
 v75:=zeroValue292
 t85:=underlying306
 a85:=isAgg306
 z85:=sizeOf306
 v85:=zeroValue306
 t127:=underlying164
 a127:=isAgg164
 z127:=sizeOf164
 v127:=zeroValue164
 t143:=underlying344
 a143:=isAgg344
 z143:=sizeOf344
 v143:=zeroValue344
 t145:=underlying346
 a145:=isAgg346
 z145:=sizeOf346
 v145:=zeroValue346
 t167:=underlying332
 a167:=isAgg332
 z167:=sizeOf332
 v167:=zeroValue332
 t168:=underlying335
 a168:=isAgg335
 z168:=sizeOf335
 v168:=zeroValue335
 t171:=underlying283
 a171:=isAgg283
 z171:=sizeOf283
 v171:=zeroValue283
 t173:=underlying285
 a173:=isAgg285
 z173:=sizeOf285
 v173:=zeroValue285
 t175:=underlying333
 a175:=isAgg333
 z175:=sizeOf333
 v175:=zeroValue333
 t210:=underlying342
 a210:=isAgg342
 z210:=sizeOf342
 v210:=zeroValue342
 t212:=underlying319
 a212:=isAgg319
 z212:=sizeOf319
 v212:=zeroValue319
 t213:=underlying320
 a213:=isAgg320
 z213:=sizeOf320
 t232:=underlying338
 a232:=isAgg338
 z232:=sizeOf338
 v232:=zeroValue338
 t233:=underlying339
 a233:=isAgg339
 z233:=sizeOf339
 v233:=zeroValue339
 g15:=by kernel_rfl
 g16:=by kernel_rfl
 g17:=by kernel_rfl
 g18:=by kernel_rfl
 g19:=by kernel_rfl
 t80:=underlying295
 a80:=isAgg295
 z80:=sizeOf295
 v80:=zeroValue295
 i0:=by kernel_rfl
 i2:=by kernel_rfl
 i3:=by kernel_rfl
 i4:=by kernel_rfl
 i5:=by kernel_rfl
 i9:=by kernel_rfl
 i20:=by kernel_rfl
 i21:=by kernel_rfl
 i37:=by kernel_rfl
 i46:=by kernel_rfl
 i51:=by kernel_rfl
 i53:=by kernel_rfl
 i75:=by kernel_rfl
 i80:=by kernel_rfl
 i85:=by kernel_rfl
 i127:=by kernel_rfl
 i143:=by kernel_rfl
 i145:=by kernel_rfl
 i167:=by kernel_rfl
 i168:=by kernel_rfl
 i171:=by kernel_rfl
 i173:=by kernel_rfl
 i175:=by kernel_rfl
 i210:=by kernel_rfl
 i212:=by kernel_rfl
 i232:=by kernel_rfl
 i233:=by kernel_rfl
 m15:=by kernel_rfl
 m16:=by kernel_rfl
 m17:=by kernel_rfl
 m18:=by kernel_rfl
 m19:=by kernel_rfl
 c0:=by kernel_rfl
 c2:=by kernel_rfl
 c3:=by kernel_rfl
 c4:=by kernel_rfl
 c5:=by kernel_rfl
 c9:=by kernel_rfl
 c20:=by kernel_rfl
 c21:=by kernel_rfl
 c37:=by kernel_rfl
 c46:=by kernel_rfl
 c51:=by kernel_rfl
 c53:=by kernel_rfl
 c75:=by kernel_rfl
 c80:=by kernel_rfl
 c85:=by kernel_rfl
 c127:=by kernel_rfl
 c143:=by kernel_rfl
 c145:=by kernel_rfl
 c167:=by kernel_rfl
 c168:=by kernel_rfl
 c171:=by kernel_rfl
 c173:=by kernel_rfl
 c175:=by kernel_rfl
 c210:=by kernel_rfl
 c212:=by kernel_rfl
 c213:=by kernel_rfl
 c232:=by kernel_rfl
 c233:=by kernel_rfl }
open Go.RowKit in
def strconv_ParseInt_10_at64_ok(s:ByteArray)(a:s.size<=9223372036854775806)(v:Int)(h:Lib.parseIntB 64 s.data.toList=.ok v)(w:World):
 Calls prog 179 #[.string s,.int .i64 10,.int .i64 64] w fun e b=>e=.returned (.tuple #[.int .i64 v,.nilIface])/\(b=w\/∃t,b=Lib.bytesWorld w 5 t):=Any.strconv_ParseInt_10_at64_ok laysC174 s a v h w
open Go.RowKit in
def strconv_ParseInt_10_at64_range(s:ByteArray)(b:s.size<=281474976710656)(h:Lib.parseIntB 64 s.data.toList=.range)(a:Value)(w:World)(g:w.cell? ⟨8,0,none⟩=some a)(c:a=.nilIface\/∃f i,a=.iface f i):
 Calls prog 179 #[.string s,.int .i64 10,.int .i64 64] w fun e d=>∃N,e=.returned (.tuple #[.int .i64 (Lib.intSat 64 s.data.toList),.iface 335 (.pointer (some ⟨N,0,none⟩))])/\w.heap.size<=N/\d.heap[N]?=some (.cells #[.string ⟨#[80,97,114,115,101,73,110,116]⟩,.string s,a] 342 (0,0))/\Below w.heap.size w d:=Any.strconv_ParseInt_10_at64_range laysC174 s b h a w g c
def lays197_ren:Go.Shelf.Ren:=⟨fun|197=>106|260=>145|n=>n,fun|9=>9|21=>21|3=>3|4=>4|5=>5|105=>219|119=>302|0=>0|46=>218|139=>305|138=>304|n=>n,fun|3=>1|4=>2|n=>n⟩
def lays197:Go.Proofs.Lays.n197 prog lays197_ren:={
 mixed:=by kernel_rfl
 f197:=func106.trans (congrArg some (by kernel_rfl))
 f260:=func145.trans (congrArg some (by kernel_rfl))
 t0:=underlying0
 a0:=isAgg0
 z0:=sizeOf0
 v0:=zeroValue0
 t3:=underlying3
 a3:=isAgg3
 z3:=sizeOf3
 v3:=zeroValue3
 t4:=underlying4
 a4:=isAgg4
 z4:=sizeOf4
 v4:=zeroValue4
 t5:=underlying5
 a5:=isAgg5
 z5:=sizeOf5
 v5:=zeroValue5
 t9:=underlying9
 a9:=isAgg9
 z9:=sizeOf9
 v9:=zeroValue9
 t21:=underlying21
 a21:=isAgg21
 z21:=sizeOf21
 v21:=zeroValue21
 t46:=underlying218
 a46:=isAgg218
 z46:=sizeOf218
 v46:=zeroValue218
 t105:=underlying219
 a105:=isAgg219
 z105:=sizeOf219
 v105:=zeroValue219
 t119:=underlying302
 a119:=isAgg302
 z119:=sizeOf302
 t138:=underlying304
 a138:=isAgg304
 z138:=sizeOf304
 v138:=zeroValue304
 t139:=underlying305
 a139:=isAgg305
 z139:=sizeOf305
 v139:=zeroValue305
 g3:=by kernel_rfl
 g4:=by kernel_rfl }
open Go.RowKit Go.Lib in
def utf8_DecodeRuneInString(s:ByteArray)(w:World)(b:Lib.Utf8Tabs 1 2 w):
 Calls prog 106 #[.string s] w fun e a=>e=.returned (.tuple #[.int .i32 (Lib.decodeGo s).1,.int .i64 (Lib.decodeGo s).2])/\Below w.heap.size w a:=Any.utf8_DecodeRuneInString lays197 s w b
end Go.Proofs
namespace Go.Proofs
open _root_.Go.Proofs.Tryz
def lays156_ren:Go.Shelf.Ren:=⟨fun|156=>133|165=>166|166=>167|169=>168|240=>192|241=>193|276=>202|277=>203|n=>n,fun|31=>37|9=>9|3=>3|4=>4|0=>0|20=>20|72=>289|76=>293|70=>287|37=>163|75=>292|127=>164|164=>329|5=>5|80=>295|n=>n,fun|n=>n⟩
def lays156:Go.Proofs.Lays.n156 prog lays156_ren:={
 mixed:=by kernel_rfl
 f156:=func133.trans (congrArg some (by kernel_rfl))
 f165:=func166.trans (congrArg some (by kernel_rfl))
 f166:=func167.trans (congrArg some (by kernel_rfl))
 f169:=func168.trans (congrArg some (by kernel_rfl))
 f240:=func192.trans (congrArg some (by kernel_rfl))
 f241:=func193.trans (congrArg some (by kernel_rfl))
 f276:=func202.trans (congrArg some (by kernel_rfl))
 f277:=func203.trans (congrArg some (by kernel_rfl))
 t0:=underlying0
 a0:=isAgg0
 z0:=sizeOf0
 v0:=zeroValue0
 t3:=underlying3
 a3:=isAgg3
 z3:=sizeOf3
 v3:=zeroValue3
 t4:=underlying4
 a4:=isAgg4
 z4:=sizeOf4
 v4:=zeroValue4
 t9:=underlying9
 a9:=isAgg9
 z9:=sizeOf9
 v9:=zeroValue9
 t20:=underlying20
 a20:=isAgg20
 z20:=sizeOf20
 v20:=zeroValue20
 t31:=underlying37
 a31:=isAgg37
 z31:=sizeOf37
 v31:=zeroValue37
 t37:=underlying163
 a37:=isAgg163
 z37:=sizeOf163
 v37:=zeroValue163
 t70:=underlying287
 a70:=isAgg287
 z70:=sizeOf287
 v70:=zeroValue287
 t72:=underlying289
 a72:=isAgg289
 z72:=sizeOf289
 v72:=zeroValue289
 t75:=underlying292
 a75:=isAgg292
 z75:=sizeOf292
 v75:=zeroValue292
 t76:=underlying293
 a76:=isAgg293
 z76:=sizeOf293
 v76:=zeroValue293
 t127:=underlying164
 a127:=isAgg164
 z127:=sizeOf164
 v127:=zeroValue164
 t164:=underlying329
 a164:=isAgg329
 z164:=sizeOf329
 v164:=zeroValue329 }
def Builder_Extra_156:Builder.Extra prog lays156_ren:={
 sizeBuilder:=by kernel_rfl
 liesBuilder:=by kernel_rfl
 t5:=underlying5
 a5:=isAgg5
 z5:=sizeOf5
 v5:=zeroValue5
 infoByte:=by kernel_rfl
 cellsByte:=by kernel_rfl
 sizeByte:=by kernel_rfl
 neB5:=by decide }
open Go.RowKit in
def strings_Join_none(a:Option Addr)(c:Nat)(b:ByteArray)(w:World):
 Calls prog 133 #[.slice a 0 c,.string b] w fun e d=>e=.returned (.string ⟨#[]⟩)/\d=w:=Any.strings_Join_none lays156 Builder_Extra_156 a c b w
open Go.RowKit in
def strings_Join(g o c:Nat)(xs:List ByteArray)(a:ByteArray)(w:World)(b:∀(j:Nat) x,xs[j]?=some x->w.cell? ⟨g,o+j,none⟩=some (.string x))(h:g<w.heap.size)(k:xs.length<=140737488355328)(d:xs.length<=c)(f:(Lib.join (xs.map (·.data.toList)) a.data.toList).length<=140737488355328):
 Calls prog 133 #[.slice (some ⟨g,o,none⟩) xs.length c,.string a] w fun e i=>e=.returned (.string ⟨(Lib.join (xs.map (·.data.toList)) a.data.toList).toArray⟩)/\Below w.heap.size w i:=Any.strings_Join lays156 Builder_Extra_156 g o c xs a w b h k d f
def lays106_ren:Go.Shelf.Ren:=⟨fun|106=>69|213=>104|265=>144|n=>n,fun|9=>9|3=>3|n=>n,fun|n=>n⟩
def lays106:Go.Proofs.Lays.n106 prog lays106_ren:={
 mixed:=by kernel_rfl
 f106:=func69.trans (congrArg some (by kernel_rfl))
 f213:=func104.trans (congrArg some (by kernel_rfl))
 f265:=func144.trans (congrArg some (by kernel_rfl))
 t3:=underlying3
 a3:=isAgg3
 z3:=sizeOf3
 v3:=zeroValue3
 t9:=underlying9
 a9:=isAgg9
 z9:=sizeOf9
 v9:=zeroValue9 }
open Go.RowKit in
def strings_Compare(a b:ByteArray)(w:World):
 Calls prog 69 #[.string a,.string b] w fun e c=>e=.returned (.int .i64 (Lib.compareBytes a.data.toList b.data.toList))/\c=w:=Any.strings_Compare lays106 a b w
def lays121_ren:Go.Shelf.Ren:=⟨fun|121=>100|214=>132|n=>n,fun|4=>4|9=>9|n=>n,fun|n=>n⟩
def lays121:Go.Proofs.Lays.n121 prog lays121_ren:={
 mixed:=by kernel_rfl
 f121:=func100.trans (congrArg some (by kernel_rfl))
 f214:=func132.trans (congrArg some (by kernel_rfl))
 t4:=underlying4
 a4:=isAgg4
 z4:=sizeOf4
 v4:=zeroValue4
 t9:=underlying9
 a9:=isAgg9
 z9:=sizeOf9
 v9:=zeroValue9 }
open Go.RowKit in
def strconv_FormatBool(b:Bool)(w:World):
 Calls prog 100 #[.bool b] w fun e a=>e=.returned (.string ⟨(Lib.formatBool b).toArray⟩)/\a=w:=Any.strconv_FormatBool lays121 b w
def lays195_ren:Go.Shelf.Ren:=⟨fun|195=>267|n=>n,fun|9=>9|3=>3|0=>0|4=>4|n=>n,fun|n=>n⟩
def lays195:Go.Proofs.Lays.n195 prog lays195_ren:={
 mixed:=by kernel_rfl
 f195:=func267.trans (congrArg some (by kernel_rfl))
 t0:=underlying0
 a0:=isAgg0
 z0:=sizeOf0
 v0:=zeroValue0
 t3:=underlying3
 a3:=isAgg3
 z3:=sizeOf3
 v3:=zeroValue3
 t4:=underlying4
 a4:=isAgg4
 z4:=sizeOf4
 v4:=zeroValue4
 t9:=underlying9
 a9:=isAgg9
 z9:=sizeOf9
 v9:=zeroValue9 }
open Go.RowKit in
def utf8_RuneCountInString(s:ByteArray)(w:World)(c:s.size<9223372036854775807):
 Calls prog 267 #[.string s] w fun e b=>e=.returned (.int .i64 (Lib.runeCount s))/\∃a,b=w.iter s a:=Any.utf8_RuneCountInString lays195 s w c
def laysM173_ren:Go.Shelf.Ren:=⟨fun|173=>99|246=>131|283=>162|284=>163|285=>164|286=>165|129=>143|317=>188|318=>189|319=>190|320=>191|337=>200|338=>201|n=>n,fun|2=>2|3=>3|9=>9|4=>4|171=>283|0=>0|53=>267|37=>163|5=>5|173=>285|212=>319|51=>265|20=>20|213=>320|46=>218|232=>338|233=>339|n=>n,fun|17=>4|18=>5|19=>6|n=>n⟩
def laysM173:Go.Proofs.LaysM.n173 prog laysM173_ren:={
 mixed:=by kernel_rfl
 f129:=func143.trans (congrArg some (by kernel_rfl))
 f173:=func99.trans (congrArg some (by kernel_rfl))
 f246:=func131.trans (congrArg some (by kernel_rfl))
 f283:=func162.trans (congrArg some (by kernel_rfl))
 f284:=func163.trans (congrArg some (by kernel_rfl))
 f285:=func164.trans (congrArg some (by kernel_rfl))
 f286:=func165.trans (congrArg some (by kernel_rfl))
 f317:=func188.trans (congrArg some (by kernel_rfl))
 f318:=func189.trans (congrArg some (by kernel_rfl))
 f319:=func190.trans (congrArg some (by kernel_rfl))
 f320:=func191.trans (congrArg some (by kernel_rfl))
 f337:=func200.trans (congrArg some (by kernel_rfl))
 f338:=func201.trans (congrArg some (by kernel_rfl))
 t0:=underlying0
 a0:=isAgg0
 z0:=sizeOf0
 v0:=zeroValue0
 t2:=underlying2
 a2:=isAgg2
 z2:=sizeOf2
 v2:=zeroValue2
 t3:=underlying3
 a3:=isAgg3
 z3:=sizeOf3
 v3:=zeroValue3
 t4:=underlying4
 a4:=isAgg4
 z4:=sizeOf4
 v4:=zeroValue4
 t5:=underlying5
 a5:=isAgg5
 z5:=sizeOf5
 v5:=zeroValue5
 t9:=underlying9
 a9:=isAgg9
 z9:=sizeOf9
 v9:=zeroValue9
 t20:=underlying20
 a20:=isAgg20
 z20:=sizeOf20
 v20:=zeroValue20
 t37:=underlying163
 a37:=isAgg163
 z37:=sizeOf163
 v37:=zeroValue163
 t46:=underlying218
 a46:=isAgg218
 z46:=sizeOf218
 v46:=zeroValue218
 t51:=underlying265
 a51:=isAgg265
 z51:=sizeOf265
 v51:=zeroValue265
 t53:=underlying267
 a53:=isAgg267
 z53:=sizeOf267
 v53:=zeroValue267
 t171:=underlying283
 a171:=isAgg283
 z171:=sizeOf283
 v171:=zeroValue283
 t173:=underlying285
 a173:=isAgg285
 z173:=sizeOf285
 v173:=zeroValue285
 t212:=underlying319
 a212:=isAgg319
 z212:=sizeOf319
 v212:=zeroValue319
 t213:=underlying320
 a213:=isAgg320
 z213:=sizeOf320
 t232:=underlying338
 a232:=isAgg338
 z232:=sizeOf338
 v232:=zeroValue338
 t233:=underlying339
 a233:=isAgg339
 z233:=sizeOf339
 v233:=zeroValue339
 g17:=by kernel_rfl
 g18:=by kernel_rfl
 g19:=by kernel_rfl
 i0:=by kernel_rfl
 i2:=by kernel_rfl
 i3:=by kernel_rfl
 i4:=by kernel_rfl
 i5:=by kernel_rfl
 i9:=by kernel_rfl
 i20:=by kernel_rfl
 i37:=by kernel_rfl
 i46:=by kernel_rfl
 i51:=by kernel_rfl
 i53:=by kernel_rfl
 i171:=by kernel_rfl
 i173:=by kernel_rfl
 i212:=by kernel_rfl
 i232:=by kernel_rfl
 i233:=by kernel_rfl
 m17:=by kernel_rfl
 m18:=by kernel_rfl
 m19:=by kernel_rfl }
open Go.RowKit Go.Sort Go.Lib in
def strconv_FormatInt_10(n:Int)(f: -9223372036854775808<=n)(d:n<=9223372036854775807)(w:World)(a:Lib.TabIs prog w "internal/strconv.uint64pow10" .u64 Lib.pow10Tab):
 Calls prog 99 #[.int .i64 n,.int .i64 10] w fun e b=>e=.returned (.string ⟨(Lib.itoa n).toArray⟩)/\∃k c,b=grow (w.drewN k) c:=Any.strconv_FormatInt_10 laysM173 n f d w a
end Go.Proofs
namespace Go.Proofs
open _root_.Go.Proofs.Tryz
def laysM316_ren:Go.Shelf.Ren:=⟨fun|316=>48|n=>n,fun|9=>9|3=>3|4=>4|37=>163|0=>0|127=>164|5=>5|n=>n,fun|n=>n⟩
def laysM316:Go.Proofs.LaysM.n316 prog laysM316_ren:={
 mixed:=by kernel_rfl
 f316:=func48.trans (congrArg some (by kernel_rfl))
 t0:=underlying0
 a0:=isAgg0
 z0:=sizeOf0
 v0:=zeroValue0
 t3:=underlying3
 a3:=isAgg3
 z3:=sizeOf3
 v3:=zeroValue3
 t4:=underlying4
 a4:=isAgg4
 z4:=sizeOf4
 v4:=zeroValue4
 t9:=underlying9
 a9:=isAgg9
 z9:=sizeOf9
 v9:=zeroValue9
 t37:=underlying163
 a37:=isAgg163
 z37:=sizeOf163
 v37:=zeroValue163
 t127:=underlying164
 a127:=isAgg164
 z127:=sizeOf164
 v127:=zeroValue164
 t5:=underlying5
 a5:=isAgg5
 z5:=sizeOf5
 v5:=zeroValue5
 i0:=by kernel_rfl
 i3:=by kernel_rfl
 i4:=by kernel_rfl
 i5:=by kernel_rfl
 i9:=by kernel_rfl
 i37:=by kernel_rfl
 i127:=by kernel_rfl }
open Go.RowKit in
def stringslite_Clone(s:ByteArray)(w:World)(a:s.size<=281474976710656):
 Calls prog 48 #[.string s] w fun e b=>e=.returned (.string s)/\Below w.heap.size w b:=Any.stringslite_Clone laysM316 s w a
end Go.Proofs
namespace Go.Proofs
open _root_.Go.Proofs.Tryz
def sortL_ren:Go.Shelf.Ren:=⟨fun|6=>67|15=>103|14=>102|28=>142|29=>143|20=>134|21=>135|22=>136|23=>137|24=>138|25=>139|26=>140|27=>141|46=>169|47=>170|48=>171|49=>172|50=>173|57=>194|n=>n,fun|22=>36|24=>140|25=>143|3=>3|39=>218|0=>0|53=>265|55=>267|4=>4|46=>259|45=>258|50=>112|5=>5|9=>9|66=>296|70=>300|76=>321|77=>322|n=>n,fun|n=>n⟩
def sortL:Go.Proofs.SlLaysF0.n6 prog sortL_ren:={
 mixed:=by kernel_rfl
 f6:=⟨f67.name,by decide,func67.trans (congrArg some (by kernel_rfl))⟩
 f14:=⟨f102.name,by decide,func102.trans (congrArg some (by kernel_rfl))⟩
 f15:=func103.trans (congrArg some (by kernel_rfl))
 f20:=⟨f134.name,by decide,func134.trans (congrArg some (by kernel_rfl))⟩
 f21:=⟨f135.name,by decide,func135.trans (congrArg some (by kernel_rfl))⟩
 f22:=⟨f136.name,by decide,func136.trans (congrArg some (by kernel_rfl))⟩
 f23:=⟨f137.name,by decide,func137.trans (congrArg some (by kernel_rfl))⟩
 f24:=⟨f138.name,by decide,func138.trans (congrArg some (by kernel_rfl))⟩
 f25:=⟨f139.name,by decide,func139.trans (congrArg some (by kernel_rfl))⟩
 f26:=⟨f140.name,by decide,func140.trans (congrArg some (by kernel_rfl))⟩
 f27:=⟨f141.name,by decide,func141.trans (congrArg some (by kernel_rfl))⟩
 f28:=func142.trans (congrArg some (by kernel_rfl))
 f29:=func143.trans (congrArg some (by kernel_rfl))
 f46:=⟨Tryz.f169.name,by decide,func169.trans (congrArg some (by kernel_rfl))⟩
 f47:=func170.trans (congrArg some (by kernel_rfl))
 f48:=func171.trans (congrArg some (by kernel_rfl))
 f49:=⟨f172.name,by decide,func172.trans (congrArg some (by kernel_rfl))⟩
 f50:=⟨Tryz.f173.name,by decide,func173.trans (congrArg some (by kernel_rfl))⟩
 f57:=⟨f194.name,by decide,func194.trans (congrArg some (by kernel_rfl))⟩
 t0:=underlying0
 a0:=isAgg0
 z0:=sizeOf0
 v0:=zeroValue0
 t3:=underlying3
 a3:=isAgg3
 z3:=sizeOf3
 v3:=zeroValue3
 t4:=underlying4
 a4:=isAgg4
 z4:=sizeOf4
 v4:=zeroValue4
 t5:=underlying5
 a5:=isAgg5
 z5:=sizeOf5
 v5:=zeroValue5
 t9:=underlying9
 a9:=isAgg9
 z9:=sizeOf9
 v9:=zeroValue9
 t22:=underlying36
 a22:=isAgg36
 z22:=sizeOf36
 v22:=zeroValue36
 t25:=underlying143
 a25:=isAgg143
 z25:=sizeOf143
 v25:=zeroValue143
 t39:=underlying218
 a39:=isAgg218
 z39:=sizeOf218
 v39:=zeroValue218
 t45:=underlying258
 a45:=isAgg258
 z45:=sizeOf258
 v45:=zeroValue258
 t46:=underlying259
 a46:=isAgg259
 z46:=sizeOf259
 v46:=zeroValue259
 t50:=underlying112
 a50:=isAgg112
 z50:=sizeOf112
 v50:=zeroValue112
 t53:=underlying265
 a53:=isAgg265
 z53:=sizeOf265
 v53:=zeroValue265
 t55:=underlying267
 a55:=isAgg267
 z55:=sizeOf267
 v55:=zeroValue267
 t66:=underlying296
 a66:=isAgg296
 z66:=sizeOf296
 v66:=zeroValue296
 t70:=underlying300
 a70:=isAgg300
 z70:=sizeOf300
 v70:=zeroValue300
 t76:=underlying321
 a76:=isAgg321
 z76:=sizeOf321
 v76:=zeroValue321
 t77:=underlying322
 a77:=isAgg322
 z77:=sizeOf322
 v77:=zeroValue322 }
end Go.Proofs
