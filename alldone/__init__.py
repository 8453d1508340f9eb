"""When all is done, whole: machines that work at tasks and tell when everything is done."""
