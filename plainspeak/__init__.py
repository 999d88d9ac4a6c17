# Binds nothing: each name is drawn from the very file that defines it.
