"""Groups that cancel: which runs wait, which run, and which give way to newer ones."""
