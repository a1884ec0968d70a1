
set_option Elab.async false
set_option linter.all false
set_option maxRecDepth 100000

